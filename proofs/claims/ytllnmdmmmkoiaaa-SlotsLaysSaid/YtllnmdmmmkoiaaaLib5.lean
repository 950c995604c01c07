import Derived.Test.YtllnmdmmmkoiaaaLib4
import Derived.Lib.Overlaps
/-
  The third layer: own maps keyed by integers whose entries are told by a list of keys and elements.
-/
namespace Go.Proofs.Ytllnmdmmmkoiaaa.Wx.Z
open Go Go.RowKit
set_option linter.unusedVariables false

def lookK {α : Type} : List (Int × α) → Int → Option α
  | [], _ => none
  | (a, v) :: l, k => if a = k then some v else lookK l k
def putK {α : Type} : List (Int × α) → Int → α → List (Int × α)
  | [], k, v => [(k, v)]
  | (a, w) :: l, k, v => if a = k then (a, v) :: l else (a, w) :: putK l k v
section
variable {α : Type}
theorem look_put {k j : Int} {v : α} : ∀ {l : List (Int × α)}, lookK (putK l k v) j = if k = j then some v else lookK l j
  | [] => rfl
  | (a, w) :: l => by
    unfold putK
    by_cases h : a = k
    · subst h
      rw [if_pos rfl]
      simp only [lookK]
      by_cases hj : a = j
      · rw [if_pos hj, if_pos hj]
      · rw [if_neg hj, if_neg hj, if_neg hj]
    · rw [if_neg h]
      simp only [lookK]
      rw [look_put]
      by_cases hj : a = j
      · subst hj
        rw [if_pos rfl, if_neg (fun e => h e.symm)]; simp
      · rw [if_neg hj, if_neg hj]
theorem put_keys {k : Int} {v : α} : ∀ {l : List (Int × α)}, (putK l k v).map (·.1) = if k ∈ l.map (·.1) then l.map (·.1) else l.map (·.1) ++ [k]
  | [] => by simp [putK]
  | (a, x) :: l => by
    simp only [putK]
    by_cases h : a = k
    · subst h; simp
    · have h' : ¬ k = a := fun e => h e.symm
      simp only [if_neg h, List.map_cons, put_keys, List.mem_cons, h', false_or]
      split <;> simp
theorem put_nodup {k : Int} {v : α} {l : List (Int × α)} (h : (l.map (·.1)).Nodup) : ((putK l k v).map (·.1)).Nodup := by
  rw [put_keys]
  split
  · exact h
  · rename_i hk
    rw [List.nodup_append]
    exact ⟨h, by simp, fun a ha b hb => by simp at hb; subst hb; rintro rfl; exact hk ha⟩
theorem look_none {k : Int} : ∀ {l : List (Int × α)}, lookK l k = none ↔ k ∉ l.map (·.1)
  | [] => by simp [lookK]
  | (a, x) :: l => by
    simp only [lookK, List.map_cons, List.mem_cons, not_or]
    by_cases h : a = k
    · simp [h]
    · rw [if_neg h, look_none]; simp only [List.mem_map]; exact ⟨fun g => ⟨fun e => h e.symm, g⟩, fun g => g.2⟩
theorem look_mem {k : Int} {v : α} : ∀ {l : List (Int × α)}, (l.map (·.1)).Nodup → (lookK l k = some v ↔ (k, v) ∈ l)
  | [], _ => by simp [lookK]
  | (a, x) :: l, hn => by
    rw [List.map_cons, List.nodup_cons] at hn
    simp only [lookK, List.mem_cons, Prod.mk.injEq]
    by_cases h : a = k
    · subst h
      simp only [if_true, Option.some.injEq, true_and]
      constructor
      · rintro rfl; exact .inl rfl
      · rintro (rfl | h2)
        · rfl
        · exact absurd (List.mem_map_of_mem (f := (·.1)) h2) hn.1
    · rw [if_neg h, look_mem hn.2]
      exact ⟨.inr, fun g => g.resolve_left fun e => h e.1.symm⟩
/-- An own map's entries are those, in the order in which they were born. -/
structure MapL (q : IntKind) (en : α → A0) (es : Y.MS) (l : List (Int × α)) : Prop where
  ents : All2 (fun (e : Value × Nat × A0) (x : Int × α) => e.1 = Value.int q x.1 ∧ e.2.2 = en x.2) es.es l
  keys : (l.map (·.1)).Nodup
  born : (es.es.map (·.2.1)).Nodup
  less : ∀ e ∈ es.es, e.2.1 < es.c
variable {q : IntKind} {en : α → A0} {es : Y.MS} {l : List (Int × α)}
theorem MapL.nil {q : IntKind} {en : α → A0} : MapL q en ⟨[], 0⟩ [] := ⟨trivial, by simp, by simp, fun e h => by simp at h⟩
theorem same_now {k a : Int} : Instr.sameNow (.int q) (.int q k) (.int q a) = some (decide (k = a)) := by
  simp only [Instr.sameNow, if_true]; congr 1
theorem pos_look {k : Int} : ∀ {es : List (Value × Nat × A0)} {l : List (Int × α)} {i : Nat}, All2 (fun (e : Value × Nat × A0) (x : Int × α) => e.1 = Value.int q x.1 ∧ e.2.2 = en x.2) es l →
    (lookK l k = none → Y.posE q (.int q k) es i = some none) ∧ ∀ v, lookK l k = some v → ∃ j e, Y.posE q (.int q k) es i = some (some (i + j, e)) ∧ es[j]? = some e ∧ e.1 = .int q k ∧ e.2.2 = en v ∧ ∀ b w, All2 (fun (e : Value × Nat × A0) (x : Int × α) => e.1 = Value.int q x.1 ∧ e.2.2 = en x.2) (es.set j (.int q k, b, en w)) (putK l k w)
  | [], [], i, _ => ⟨fun _ => rfl, fun v h => by cases h⟩
  | e :: es, (a, x) :: l, i, h => by
    obtain ⟨h1, h2⟩ := pos_look (k := k) (i := i + 1) h.2
    have hk : e.1 = .int q a := h.1.1
    by_cases hka : k = a
    · subst hka
      refine ⟨fun hn => by simp [lookK] at hn, fun v hv => ?_⟩
      simp only [lookK, if_true, Option.some.injEq] at hv
      subst hv
      refine ⟨0, e, by simp [Y.posE, hk, same_now], rfl, hk, h.1.2, fun b w => ?_⟩
      simp only [List.set_cons_zero, putK, if_true]
      exact ⟨⟨rfl, rfl⟩, h.2⟩
    · have hak : ¬ a = k := fun e => hka e.symm
      have hp : ∀ i, Y.posE q (.int q k) (e :: es) i = Y.posE q (.int q k) es (i + 1) := fun i => by simp [Y.posE, hk, same_now, hka]
      rw [hp]
      simp only [lookK, if_neg hak]
      refine ⟨h1, fun v hv => ?_⟩
      obtain ⟨j, e', g1, g2, g3, g4, g5⟩ := h2 v hv
      refine ⟨j + 1, e', by rw [g1]; congr 3; omega, by simpa using g2, g3, g4, fun b w => ?_⟩
      simp only [List.set_cons_succ, putK, if_neg hak]
      exact ⟨h.1, g5 b w⟩
  | [], _ :: _, _, h => h.elim
  | _ :: _, [], _, h => h.elim
theorem put_new {k : Int} {v : α} : ∀ {l : List (Int × α)}, lookK l k = none → putK l k v = l ++ [(k, v)]
  | [], _ => rfl
  | (a, x) :: l, h => by
    simp only [lookK] at h
    split at h
    · cases h
    · rename_i hk; simp only [putK, if_neg hk, put_new h, List.cons_append]
/-- A look-up. -/
theorem MapL.look {z : Value} {k : Int} {A : A0 → Bool → Prop} (h : MapL q en es l) {z0 : α} (hz : Y.zeroA z = en z0) (hk : A (en ((lookK l k).getD z0)) (lookK l k).isSome) : lookN q z es k A := by
  obtain ⟨h1, h2⟩ := pos_look (k := k) (i := 0) h.ents
  cases hl : lookK l k with
  | none => rw [hl] at hk; exact ⟨_, _, by unfold Y.lookM; rw [h1 hl]; rfl, hz ▸ hk⟩
  | some v =>
    obtain ⟨j, e, g1, g2, g3, g4, g5⟩ := h2 v hl
    rw [hl] at hk
    exact ⟨_, _, by unfold Y.lookM; rw [g1]; rfl, g4 ▸ hk⟩
theorem born_set {j b : Nat} {e : Value × Nat × A0} {es : List (Value × Nat × A0)} (h : es[j]? = some e) (x : Value) (a : A0) : (es.set j (x, e.2.1, a)).map (·.2.1) = es.map (·.2.1) := by
  apply List.ext_getElem?
  intro i
  simp only [List.getElem?_map, List.getElem?_set]
  by_cases hi : j = i
  · subst hi
    obtain ⟨hj, hje⟩ := List.getElem?_eq_some_iff.1 h
    simp [hj, hje]
  · simp [hi]
theorem MapL.set {k : Int} {w : α} {j : Nat} {e : Value × Nat × A0} (h : MapL q en es l) (he : es.es[j]? = some e) (hs : All2 (fun (e : Value × Nat × A0) (x : Int × α) => e.1 = Value.int q x.1 ∧ e.2.2 = en x.2) (es.es.set j (.int q k, e.2.1, en w)) (putK l k w)) : MapL q en ⟨es.es.set j (.int q k, e.2.1, en w), es.c⟩ (putK l k w) := by
  refine ⟨hs, put_nodup h.keys, by rw [born_set (b := 0) he]; exact h.born, fun x hx => ?_⟩
  rcases List.mem_or_eq_of_mem_set hx with hx | rfl
  · exact h.less x hx
  · exact h.less e (List.mem_of_getElem? he)
theorem MapL.add {k : Int} {w : α} (h : MapL q en es l) (hk : lookK l k = none) : MapL q en ⟨es.es ++ [(.int q k, es.c, en w)], es.c + 1⟩ (putK l k w) := by
  refine ⟨by rw [put_new hk]; exact Y.All2.push h.ents ⟨rfl, rfl⟩, put_nodup h.keys, ?_, fun x hx => ?_⟩
  · rw [List.map_append, List.nodup_append]
    refine ⟨h.born, by simp, fun a ha b hb => ?_⟩
    obtain ⟨e, he, rfl⟩ := List.mem_map.1 ha
    simp at hb; subst hb
    have := h.less e he
    omega
  · rcases List.mem_append.1 hx with hx | hx
    · have := h.less x hx; show _ < es.c + 1; omega
    · simp at hx; subst hx; show es.c < es.c + 1; omega
/-- A store. -/
theorem MapL.upd {k : Int} {v : α} {A : Y.MS → Prop} (h : MapL q en es l) (hk : ∀ es', MapL q en es' (putK l k v) → A es') : updN q es k (en v) A := by
  obtain ⟨h1, h2⟩ := pos_look (k := k) (i := 0) h.ents
  cases hl : lookK l k with
  | none => exact ⟨_, by rw [Y.updM, h1 hl], hk _ (h.add hl)⟩
  | some w =>
    obtain ⟨j, e, g1, g2, g3, g4, g5⟩ := h2 w hl
    exact ⟨_, by rw [Y.updM, g1], hk _ (by simpa using h.set (w := v) g2 (g5 e.2.1 v))⟩
theorem MapL.upd' {k : Int} {v : α} {a : A0} {A : Y.MS → Prop} (h : MapL q en es l) (ha : a = en v) (hk : ∀ es', MapL q en es' (putK l k v) → A es') : updN q es k a A := by subst ha; exact h.upd hk
theorem all2_at {β γ : Type} {r : β → γ → Prop} {a : List β} {b : List γ} (h : All2 r a b) {j : Nat} {x : β} (hx : a[j]? = some x) : ∃ y, b[j]? = some y ∧ r x y := by
  induction a generalizing b j with
  | nil => simp at hx
  | cons x0 a ih => cases b with
    | nil => exact h.elim
    | cons y0 b => cases j with
      | zero => simp at hx; subst hx; exact ⟨y0, rfl, h.1⟩
      | succ j => exact ih h.2 (by simpa using hx)
theorem all2_len {β γ : Type} {r : β → γ → Prop} : ∀ {a : List β} {b : List γ}, All2 r a b → a.length = b.length
  | [], [], _ => rfl
  | _ :: _, _ :: _, h => by simp [all2_len h.2]
  | [], _ :: _, h => h.elim
  | _ :: _, [], h => h.elim
theorem MapL.len {A : Int → Prop} (h : MapL q en es l) (hk : A (l.length : Int)) : mlenN es A := ⟨_, by rw [all2_len h.ents], hk⟩
theorem map_id_all2 {β γ : Type} {r : β → γ → Prop} {f : β → β} (hf : ∀ x y, r x y → f x = x) : ∀ {a : List β} {b : List γ}, All2 r a b → a.map f = a
  | [], [], _ => rfl
  | x :: a, y :: b, h => by rw [List.map_cons, hf x y h.1, map_id_all2 hf h.2]
  | [], _ :: _, h => h.elim
  | _ :: _, [], h => h.elim
theorem MapL.ren {r : Nat → Nat} (h : MapL q en es l) (hen : ∀ x, (en x).ren r = en x) : (Ob.m es).ren r = .m es := by
  obtain ⟨e, c⟩ := es
  simp only [Ob.ren, Ob.m.injEq, Y.MS.mk.injEq, and_true]
  exact map_id_all2 (fun x y hxy => by
    obtain ⟨a, b, c⟩ := x
    have h2 : c = en y.2 := hxy.2
    subst h2
    simp only [hen]) h.ents
theorem map_sub {K : Kr} {r : Nat → Nat} {j : Nat} {es : Y.MS} (hr : (Ob.m es).ren r = .m es) (h : kz K (r j) = some (.m es)) : ∀ b, some (Ob.m es) = some b → kz K (r j) = some (b.ren r) := fun b hb => by
  cases hb; rw [hr]; exact h
theorem it_sub {K : Kr} {r : Nat → Nat} {j : Nat} {x : Y.IS} (h : kz K (r j) = some (.i ⟨r x.m, x.since, x.seen, x.last⟩)) : ∀ b, some (Ob.i x) = some b → kz K (r j) = some (b.ren r) := fun b hb => by
  cases hb; exact h
theorem MapL.inL {L : List Nat} (h : MapL q en es l) (hen : ∀ x, (en x).inB L = true) : (Ob.m es).inL L = true := by
  show es.es.all _ = true
  rw [List.all_eq_true]
  intro e he
  obtain ⟨j, hj⟩ := List.getElem?_of_mem he
  obtain ⟨y, _, hr⟩ := all2_at h.ents hj
  rw [hr.2]; exact hen _
/-! ### Going through -/
/-- What is left to come, in whatever order. -/
structure LeftL (q : IntKind) (en : α → A0) (es : Y.MS) (seen : List Nat) (r : List (Int × α)) : Prop where
  left : ∃ fs : List (Value × Nat × A0), (es.es.filter fun e => !seen.contains e.2.1).Perm fs ∧ All2 (fun (e : Value × Nat × A0) (x : Int × α) => e.1 = Value.int q x.1 ∧ e.2.2 = en x.2) fs r
theorem MapL.left (h : MapL q en es l) : LeftL q en es [] l := ⟨es.es, by rw [List.filter_eq_self.2 (fun _ _ => by simp)], h.ents⟩
theorem filter_seen {es : List (Value × Nat × A0)} {seen : List Nat} {e : Value × Nat × A0} (hn : (es.map (·.2.1)).Nodup) (he : e ∈ es) (hs : e.2.1 ∉ seen) : (es.filter fun x => !seen.contains x.2.1).Perm (e :: es.filter fun x => !(seen ++ [e.2.1]).contains x.2.1) := by
  induction es with
  | nil => simp at he
  | cons x es ih =>
    rw [List.map_cons, List.nodup_cons] at hn
    rcases List.mem_cons.1 he with rfl | he
    · have h1 : (!seen.contains e.2.1) = true := by simp [hs]
      have h2 : (!(seen ++ [e.2.1]).contains e.2.1) = false := by simp
      rw [List.filter_cons, if_pos h1, List.filter_cons, h2, if_neg (by simp)]
      have : (es.filter fun x => !seen.contains x.2.1) = es.filter fun x => !(seen ++ [e.2.1]).contains x.2.1 := List.filter_congr fun y hy => by
        have : y.2.1 ≠ e.2.1 := fun h => hn.1 (List.mem_map.2 ⟨y, hy, h⟩)
        simp [this]
      rw [this]
    · have hx : x.2.1 ≠ e.2.1 := fun h => hn.1 (List.mem_map.2 ⟨e, he, h.symm⟩)
      have ih := ih hn.2 he
      rw [List.filter_cons, List.filter_cons]
      by_cases hxs : x.2.1 ∈ seen
      · rw [if_neg (by simp [hxs]), if_neg (by simp [hxs])]; exact ih
      · rw [if_pos (by simp [hxs]), if_pos (by simp [hxs, hx])]
        exact (ih.cons x).trans (List.Perm.swap _ _ _)
theorem all2_perm {β γ : Type} {r : β → γ → Prop} {a a' : List β} (hp : a.Perm a') : ∀ {b : List γ}, All2 r a b → ∃ b', b.Perm b' ∧ All2 r a' b' := by
  induction hp with
  | nil => intro b h; exact ⟨b, .refl _, h⟩
  | cons x _ ih => intro b h; cases b with
    | nil => exact h.elim
    | cons y b => obtain ⟨b', h1, h2⟩ := ih h.2; exact ⟨y :: b', h1.cons y, h.1, h2⟩
  | swap x y l => intro b h; cases b with
    | nil => exact h.elim
    | cons u b => cases b with
      | nil => exact h.2.elim
      | cons v b => exact ⟨v :: u :: b, List.Perm.swap _ _ _, h.2.1, h.1, h.2.2⟩
  | trans _ _ ih1 ih2 => intro b h; obtain ⟨b', h1, h2⟩ := ih1 h; obtain ⟨b'', h3, h4⟩ := ih2 h2; exact ⟨b'', h1.trans h3, h4⟩
/-- A step: nothing is left, or one that is left comes. -/
theorem MapL.next {x : Y.IS} {Z : Prop} {A : Value × Nat × A0 → Prop} {r : List (Int × α)} (h : MapL q en es l) (hs : x.since = es.c) (hl : x.last = es.c) (hr : LeftL q en es x.seen r) (hz : r = [] → Z)
    (ha : ∀ y b r', r.Perm (y :: r') → LeftL q en es (x.seen ++ [b]) r' → (Value.int q y.1, b, en y.2) ∈ es.es → A (Value.int q y.1, b, en y.2)) : nextN es x Z A := by
  obtain ⟨fs, hp, hf⟩ := hr.left
  refine ⟨fun e he => by rw [hs]; exact h.less e he, by rw [hs, hl]; exact Nat.le_refl _, fun hall => hz ?_, fun e he hns => ?_⟩
  · have : (es.es.filter fun e => !x.seen.contains e.2.1) = [] := by
      rw [List.filter_eq_nil_iff]
      intro e he
      simp [hall e he]
    rw [this] at hp
    have := List.nil_perm.1 hp
    subst this
    cases r with
    | nil => rfl
    | cons => exact hf.elim
  · have hq := filter_seen h.born he hns
    obtain ⟨r1, h1, h2⟩ := all2_perm (hp.symm.trans hq) hf
    cases r1 with
    | nil => exact h2.elim
    | cons y r' =>
      obtain ⟨e1, b, e2⟩ := e
      obtain ⟨⟨g1, g2⟩, g3⟩ := h2
      simp only at g1 g2
      subst g1 g2
      exact ha y b r' h1 ⟨_, .refl _, g3⟩ he
theorem MapL.entry {x : Y.IS} {A : Value × Nat × A0 → Prop} {y : Int × α} {b : Nat} {s : List Nat} (h : MapL q en es l) (hm : (Value.int q y.1, b, en y.2) ∈ es.es) (hl : x.last = es.c) (hs : x.seen = s ++ [b]) (k : A (Value.int q y.1, b, en y.2)) : entryN es x A :=
  ⟨h.born, hl, _, s, hm, hs, k⟩
end
end Go.Proofs.Ytllnmdmmmkoiaaa.Wx.Z
/-
  The third layer: slices.overlaps at two slices of own memory that lie in two blocks; own slices whose capacity is unknown, with the row behind their end; calls in drawn regions that hand back one own block, however they come to it.
-/
namespace Go.Proofs.Ytllnmdmmmkoiaaa.Wx.Z
open Go Go.RowKit
set_option linter.unusedVariables false

theorem callZ_ovl {P : Program} {T : Tab} (hT : TabOk P T) {m : Nat} {g : FuncId} {tS tR e : TypeId} {ti : TI} {sz bt : Nat} {i q n j q' n' : Nat} {c c' : Option Nat} {bi bj : Blk} {K : Kr} {top : Nat} {k : AV → Kr → Nat → Prop} (fn : Func)
    (hf : P.funcs[g]? = some fn) (hname : (fn.name == "runtime.NumGoroutine") = false) (hb : fn.body.isNone = true) (hn : Extern.findNext fn = none) (he : Extern.find fn = some (Extern.SlicesOverlaps.overlaps #[tS, tS] #[tR]))
    (ht : tyGet T tS = some ti) (hel : ti.elem = some (e, sz, bt)) (hi : kz K i = some (.b bi)) (hj : kz K j = some (.b bj)) (hne : i ≠ j) (hbj : 0 < bj.rows.length) (hsz : 0 < bj.sz)
    (h : k (.val (.bool false)) K top) : CallZ P m (.fn g []) [.c (.osl i q n c), .c (.osl j q' n' c')] K top k := by
  refine ⟨fun W I R w v vs hw hd hm hvs hv => ?_⟩
  obtain ⟨us, hus, rfl⟩ : ∃ us, All2 (Pt.rel I) [] us ∧ v = .func (.func g) #[] us.toArray := hv
  cases us with
  | cons _ _ => exact hus.elim
  | nil =>
    cases vs with
    | nil => exact hvs.elim
    | cons v1 vs => cases vs with
      | nil => exact hvs.2.elim
      | cons v2 vs => cases vs with
        | cons _ _ => exact hvs.2.2.elim
        | nil =>
          obtain ⟨p1, c1, hp1, rfl, _⟩ := (show ∃ p c', I i = some p ∧ v1 = .slice (some ⟨p.b, q * p.sz, none⟩) n c' ∧ n ≤ c' ∧ q + c' ≤ p.tot ∧ ∀ c0, c = some c0 → c' = c0 from hvs.1)
          obtain ⟨p2, c2, hp2, rfl, _⟩ := (show ∃ p c'', I j = some p ∧ v2 = .slice (some ⟨p.b, q' * p.sz, none⟩) n' c'' ∧ n' ≤ c'' ∧ q' + c'' ≤ p.tot ∧ ∀ c0, c' = some c0 → c'' = c0 from hvs.2.1)
          have ki : Y.blkOf (ky K) i = some bi := by unfold Y.blkOf; rw [ky_of hi]; rfl
          have kj : Y.blkOf (ky K) j = some bj := by unfold Y.blkOf; rw [ky_of hj]; rfl
          obtain ⟨r1, hr1, b1⟩ := hw.wd.blk i bi ki
          obtain ⟨r2, hr2, b2⟩ := hw.wd.blk j bj kj
          rw [hp1] at hr1; cases hr1
          rw [hp2] at hr2; cases hr2
          have hap : p1.b ≠ p2.b := fun e9 => hne (hw.wd.inj i j bi bj p1 p2 ki kj hp1 hp2 e9)
          obtain ⟨cs1, m1, s1, _⟩ := b1.mem
          obtain ⟨cs2, m2, s2, _⟩ := b2.mem
          obtain ⟨hu, inf, z, hinf, hz, _⟩ := tiOf_elem (hT _ _ ht) hel
          have hso : ∀ w, (Go.sizeOf e).run P w = .ok inf.size w := fun w => by simp [sizeOf, typeInfo, hinf]
          have hk2 : cs2.size ≠ 0 := by
            rw [s2, b2.sz]
            have h1 := b2.fit
            exact Nat.ne_of_gt (Nat.mul_pos (by omega) hsz)
          have hrun := Go.Lib.run_overlaps_apart (P := P) w tS tR e hu inf.size hso ⟨p1.b, q * p1.sz, none⟩ ⟨p2.b, q' * p2.sz, none⟩ n c1 n' c2 hap _ _ _ _
            (show w.shape? p1.b = some (bi.ty, cs1.size) by unfold World.shape?; rw [m1]) (show w.shape? p2.b = some (bj.ty, cs2.size) by unfold World.shape?; rw [m2]) hk2
            (frozen_of_row w p1.b _ _ _ m1) (frozen_of_row w p1.b _ _ _ m1)
          refine .inr ⟨g, .bool false, _, _, _, _, _, _, rfl, rfl, ?_, .bool false, .val (.bool false), K, top, I, R, rfl, hw, hd, Nat.le_refl _, fun _ _ => rfl, RExt.refl _, rfl, h⟩
          show (callFunc g #[_, _]).run P w = _
          rw [run_callFunc_extern hf hname hb hn he]
          rw [hrun]; rfl
/-- One block, by another account of the same memory. -/
theorem reblk {W : Wo} {K : Kr} {I : IM} {R : RM} {w : World} (h : Y.Wz W (ky K) I R w) {i : Nat} {b b' : Blk} {p : Loc} (hb : kz K i = some (.b b)) (hp : I i = some p) (hk : Bk I R b' p w) : Y.Wz W (ky ((i, some (.b b')) :: K)) I R w := by
  rw [ky_cons]
  have hbi : Y.blkOf (ky K) i = some b := by unfold Y.blkOf; rw [ky_of hb]; rfl
  have hkey : ∀ {j : Nat} {x : Blk}, Y.blkOf (Y.upd (ky K) i (some (Y.Ob.b b'))) j = some x → (j = i ∧ x = b') ∨ (j ≠ i ∧ Y.blkOf (ky K) j = some x) := fun {j x} hx => by
    unfold Y.blkOf Y.upd at hx
    by_cases e : j = i
    · rw [if_pos e] at hx
      simp only [Option.some.injEq] at hx
      exact .inl ⟨e, hx.symm⟩
    · rw [if_neg e] at hx
      exact .inr ⟨e, hx⟩
  have hany : ∀ {j : Nat} {x : Blk}, Y.blkOf (Y.upd (ky K) i (some (Y.Ob.b b'))) j = some x → ∃ y, Y.blkOf (ky K) j = some y := fun {j x} hx => by
    rcases hkey hx with ⟨rfl, _⟩ | ⟨_, h2⟩
    · exact ⟨b, hbi⟩
    · exact ⟨x, h2⟩
  have hobs : ∀ {j : Nat} {o : Y.Ob}, Y.upd (ky K) i (some (Y.Ob.b b')) j = some o → o.nb = true → ky K j = some o := fun {j o} ho hn => by
    unfold Y.upd at ho
    by_cases e : j = i
    · rw [if_pos e] at ho; cases ho; cases hn
    · rw [if_neg e] at ho; exact ho
  refine ⟨⟨?_, ?_, ?_, h.wd.ro, ?_, h.wd.fresh, h.wd.less, h.wd.below, h.wd.out, h.wd.qz⟩, fun j o hj hn => h.ob j o (hobs hj hn) hn, fun a c oa oc p q ha hc hna hnc => h.inj a c oa oc p q (hobs ha hna) (hobs hc hnc) hna hnc⟩
  · intro j x hx
    rcases hkey hx with ⟨rfl, rfl⟩ | ⟨_, h2⟩
    · exact ⟨p, hp, hk⟩
    · exact h.wd.blk j x h2
  · intro j l bj bl pj pl hj hl
    obtain ⟨y1, h1⟩ := hany hj
    obtain ⟨y2, h2⟩ := hany hl
    exact h.wd.inj j l y1 y2 pj pl h1 h2
  · intro j x pj hj
    obtain ⟨y1, h1⟩ := hany hj
    exact h.wd.base j y1 pj h1
  · intro j x pj f o hj
    obtain ⟨y1, h1⟩ := hany hj
    exact h.wd.apart j y1 pj f o h1
theorem vals_rel {I : IM} {R : RM} {l : List Value} {k : Nat} {c : Ce} (h : (l.map Ce.v)[k]? = some c) : ∃ u, l[k]? = some u ∧ c.rel I R u := by
  rw [List.getElem?_map] at h
  cases hl : l[k]? with
  | none => rw [hl] at h; cases h
  | some u => rw [hl] at h; cases h; exact ⟨u, rfl, rfl⟩
/-- A call that is handed an own slice of a capacity unknown: whatever it is; where there is room, a row stands behind the end. -/
theorem callZ_capS {P : Program} {m i n top : Nat} {f : Ce} {asx : List AV} {K : Kr} {k : AV → Kr → Nat → Prop} {b : Blk} (hb : kz K i = some (.b b)) (hn : b.rows.length = n)
    (h : ∀ c, n ≤ c → (¬ n + 1 ≤ c → CallZ P m f (.c (.osl i 0 n (some c)) :: asx) K top k) ∧ (n + 1 ≤ c → ∀ g : List Value, g.length = b.sz → CallZ P m f (.c (.osl i 0 n (some c)) :: asx) ((i, some (.b ⟨b.rows ++ [g.map Ce.v], b.sz, b.ty, b.bx⟩)) :: K) top k)) :
    CallZ P m f (.c (.osl i 0 n none) :: asx) K top k := by
  refine ⟨fun W I R w v vs hw hd hm hvs hv => ?_⟩
  cases vs with
  | nil => exact hvs.elim
  | cons u us =>
    obtain ⟨hu, hus⟩ := hvs
    obtain ⟨p, c', hp, hux, h1, h2, _⟩ : (Ce.osl i 0 n none).rel I R u := hu
    have hu' : (Ce.osl i 0 n (some c')).rel I R u := ⟨p, c', hp, hux, h1, h2, fun c hc => Option.some.inj hc⟩
    by_cases hc : n + 1 ≤ c'
    · have hbi : Y.blkOf (ky K) i = some b := by unfold Y.blkOf; rw [ky_of hb]; rfl
      obtain ⟨p', hp', B⟩ := hw.wd.blk i b hbi
      rw [hp] at hp'; cases hp'
      obtain ⟨cs, m1, m2, m3⟩ := B.mem
      have hsz := B.sz
      have hcs : n * b.sz + b.sz ≤ cs.size := by
        rw [m2, hsz]
        have : (n + 1) * b.sz ≤ p.tot * b.sz := Nat.mul_le_mul_right _ (by omega)
        rw [Nat.add_mul, Nat.one_mul] at this
        exact this
      have hg : ((cs.toList.drop (n * b.sz)).take b.sz).length = b.sz := by
        rw [List.length_take, List.length_drop, Array.length_toList]; omega
      refine ((h c' h1).2 hc _ hg).run W I R w v (u :: us) (reblk hw hb hp ⟨hsz, ?_, B.few, ?_, cs, m1, m2, ?_⟩) hd hm ⟨hu', hus⟩ hv
      · simp only [List.length_append, List.length_cons, List.length_nil, hn]; omega
      · intro r hr
        rcases List.mem_append.1 hr with hr | hr
        · exact B.row r hr
        · simp only [List.mem_singleton] at hr; subst hr; rw [List.length_map]; exact hg
      · intro q r kk c hq hk
        by_cases hqn : q < n
        · rw [List.getElem?_append_left (by omega)] at hq
          exact m3 q r kk c hq hk
        · rw [List.getElem?_append_right (by omega)] at hq
          have hq0 : q - b.rows.length = 0 := by
            have := (List.getElem?_eq_some_iff.1 hq).1; simp at this; omega
          rw [hq0] at hq
          simp only [List.getElem?_cons_zero, Option.some.injEq] at hq
          subst hq
          obtain ⟨u2, hu2, hr2⟩ := vals_rel (I := I) (R := R) hk
          refine ⟨u2, ?_, hr2⟩
          have hkl : kk < b.sz := by
            have := (List.getElem?_eq_some_iff.1 hu2).1; rw [hg] at this; exact this
          rw [List.getElem?_take_of_lt hkl, List.getElem?_drop] at hu2
          rw [show q * p.sz + kk = n * b.sz + kk by rw [hsz, show q = n by omega], ← Array.getElem?_toList]
          exact hu2
    · exact ((h c' h1).1 hc).run W I R w v (u :: us) hw hd hm ⟨hu', hus⟩ hv
/-- What a call hands back asx one own block, whichever it is. -/
def oneB (top N : Nat) (B : Blk) (x : AV) (K : Kr) (t : Nat) : Prop := top ≤ t ∧ ∃ j N' c R, x = .c (.osl j 0 N' c) ∧ kz K j = some (.b ⟨R, B.sz, B.ty, B.bx⟩) ∧ N' = N ∧ R = B.rows
def killK (K : Kr) : Kr := K.map fun p => (p.1, none)
theorem ky_kill (K : Kr) (top : Nat) (B : Blk) : ∀ j, (if j = top then some (Y.Ob.b B) else none : Option Y.Ob) = ky ((top, some (.b B)) :: (killK K ++ K)) j := fun j => by
  rw [ky_cons]
  unfold Y.upd
  by_cases e : j = top
  · rw [if_pos e, if_pos e]; rfl
  · rw [if_neg e, if_neg e]
    have hk : ∀ (L : Kr), kz (killK L ++ K) j = if j ∈ L.map (·.1) then none else kz K j := fun L => by
      induction L with
      | nil => simp [killK]
      | cons p L ih =>
        obtain ⟨a, o⟩ := p
        show kz ((a, none) :: (killK L ++ K)) j = _
        simp only [kz, List.map_cons, List.mem_cons]
        cases hb : Nat.beq a j with
        | true => have := Nat.eq_of_beq_eq_true hb; subst this; simp
        | false =>
          have hne : ¬ j = a := fun e => by subst e; simp at hb
          simp only [hne, false_or]; exact ih
    have hn : j ∉ K.map (·.1) → kz K j = none := fun hj => by
      clear hk e
      induction K with
      | nil => rfl
      | cons p K ih =>
        obtain ⟨a, o⟩ := p
        simp only [List.map_cons, List.mem_cons, not_or] at hj
        simp only [kz]
        cases hb : Nat.beq a j with
        | true => exact absurd (Nat.eq_of_beq_eq_true hb).symm hj.1
        | false => exact ih hj.2
    unfold ky
    rw [hk]
    by_cases hj : j ∈ K.map (·.1)
    · rw [if_pos hj]; rfl
    · rw [if_neg hj, hn hj]; rfl
theorem callX_one {P : Program} {c : Ce} {avs : List AV} {K : Kr} {top N : Nat} {B : Blk} (hin : (Ob.b B).inL [] = true) (h : CallZ P top c avs K top (oneB top N B)) :
    Y.CallX P c avs (ky K) top (.c (.osl top 0 N none)) (fun j => if j = top then some (Y.Ob.b B) else none) (top + 1) := by
  refine ⟨Nat.le_succ _, fun W I R w v vs hw hd hvs hv => ?_⟩
  refine (h.run W I R w v vs hw hd (Nat.le_refl _) hvs hv).mono ?_
  rintro e w' ⟨u, x, K', top', I', R', rfl, hw', hd', ht, hI, hR, hx, ⟨_, j, N', cc, RR, rfl, hj, hN, rfl⟩⟩
  have hbj : Y.blkOf (ky K') j = some B := by unfold Y.blkOf; rw [ky_of hj]; rfl
  obtain ⟨p, hp, hB⟩ := hw'.wd.blk j B hbj
  obtain ⟨p2, c2, hp2, hu, h1, h2, _⟩ : (Ce.osl j 0 N' cc).rel I' R' u := hx
  rw [hN] at hu h1
  rw [hp] at hp2; cases hp2
  let I2 : IM := fun k => if k = top then some p else if k < top then I k else none
  have hI2 : I2 top = some p := if_pos rfl
  have hkey : ∀ {k : Nat} {b : Blk}, Y.blkOf (fun k => if k = top then some (Y.Ob.b B) else none) k = some b → k = top ∧ b = B := fun {k b} hk => by
    unfold Y.blkOf at hk
    dsimp only at hk
    by_cases e : k = top
    · rw [if_pos e] at hk; simp only [Option.some.injEq] at hk; exact ⟨e, hk.symm⟩
    · rw [if_neg e] at hk; cases hk
  have hnb : ∀ {k : Nat} {o : Y.Ob}, (if k = top then some (Y.Ob.b B) else none : Option Y.Ob) = some o → o.nb = true → False := fun {k o} hk hn => by
    by_cases e : k = top
    · rw [if_pos e] at hk; cases hk; cases hn
    · rw [if_neg e] at hk; cases hk
  refine ⟨u, I2, R', rfl, ⟨⟨?_, ?_, ?_, hw'.wd.ro, ?_, hw'.wd.fresh, hw'.wd.less, hw'.wd.below, hw'.wd.out, hw'.wd.qz⟩, fun k o hk hn => (hnb hk hn).elim, fun a b oa ob pa pb ha hb hna => (hnb ha hna).elim⟩, ?_, ?_, hR, ?_⟩
  · intro k b hk
    obtain ⟨rfl, rfl⟩ := hkey hk
    refine ⟨p, hI2, hB.sz, hB.fit, hB.few, hB.row, ?_⟩
    obtain ⟨cs, m1, m2, m3⟩ := hB.mem
    refine ⟨cs, m1, m2, fun q r kk cc2 hq hk2 => ?_⟩
    obtain ⟨u2, hu2, hr2⟩ := m3 q r kk cc2 hq hk2
    have hc := List.all_eq_true.1 (List.all_eq_true.1 hin r (List.mem_of_getElem? hq)) cc2 (List.mem_of_getElem? hk2)
    exact ⟨u2, hu2, Ce.mono (fun i p hp => by unfold onI at hp; simp at hp) (RExt.refl _) (Ce.rel_in hc hr2)⟩
  · intro a b ba bb pa pb ha hb _ _ _
    rw [(hkey ha).1, (hkey hb).1]
  · intro k b pk hk hpk
    obtain ⟨rfl, rfl⟩ := hkey hk
    rw [hI2] at hpk; cases hpk
    exact hw'.wd.base j _ p hbj hp
  · intro k b pk f o hk hpk
    obtain ⟨rfl, rfl⟩ := hkey hk
    rw [hI2] at hpk; cases hpk
    exact hw'.wd.apart j _ p f o hbj hp
  · intro k hk
    show (if k = top then some p else if k < top then I k else none) = none
    rw [if_neg (by omega), if_neg (by omega)]
  · intro k hk
    show (if k = top then some p else if k < top then I k else none) = I k
    rw [if_neg (by omega), if_pos hk]
  · exact ⟨p, c2, hI2, hu, h1, h2, fun c0 hc => by cases hc⟩
/-- slices.Insert's shape: two own slices and a value. -/
theorem conZ_ins {P : Program} {g : FuncId} {i q n v q' n' : Nat} {c0 c1 : Option Nat} {kk : Value} {Kl Kp : Kr} {top N : Nat} {B : Blk} {k : Eff → Prop} (hlt : (Nat.blt i top && Nat.blt v top) = true) (hFK : FK [i, v] Kl Kp) (hin0 : InK [i, v] Kp) (hkk : (AV.val kk).inB [i, v] = true) (hin : (Ob.b B).inL [] = true)
    (h : CallZ P top (.fn g []) [.c (.osl i q n c0), .val kk, .c (.osl v q' n' c1)] Kp top (oneB top N B)) (hk : k ⟨.c (.osl top 0 N none), [i, v], (top, some (.b B)) :: killK Kp, top + 1⟩) : ConZ P (.fn g []) [.c (.osl i q n c0), .val kk, .c (.osl v q' n' c1)] Kl top k := by
  simp only [Bool.and_eq_true] at hlt
  refine ⟨_, ?_, hk⟩
  refine Y.in_effE (Kp := ky Kp) (Kx := fun j => if j = top then some (Y.Ob.b B) else none) [i, v] (by simp [hlt.1, hlt.2]) ?_ rfl (fun i b hb => ?_) (fun i hi => ?_) (fun i b hb => ?_) (callX_one hin h) (fun j => ?_)
  · simp only [List.all_cons, List.all_nil, Bool.and_true, hkk, Bool.true_and]
    have h1 : (AV.c (.osl i q n c0)).inB [i, v] = true := by show [i, v].contains i = true; simp
    have h2 : (AV.c (.osl v q' n' c1)).inB [i, v] = true := by show [i, v].contains v = true; simp
    rw [h1, h2]; rfl
  · obtain ⟨o, ho, _⟩ := ky_some hb
    exact hFK.out ho
  · unfold ky; rw [hFK.eq hi]
  · obtain ⟨o, ho, rfl⟩ := ky_some hb
    exact inL_y (hin0.mem (kz_mem ho))
  · rw [ky_kill Kp top B j]
    show ky (((top, some (.b B)) :: killK Kp) ++ Kp) j = _
    rw [ky_append]
/-- The same, whatever is handed in: the blocks that it names are told. -/
theorem conZ_oneL {P : Program} {c : Ce} {avs : List AV} {Kl Kp : Kr} {top N : Nat} {B : Blk} {k : Eff → Prop} (l : List Nat) (hlt : l.all (fun i => Nat.blt i top) = true) (hFK : FK l Kl Kp) (hin0 : InK l Kp) (hav : avs.all (AV.inB l) = true) (hcap : c.inB l = true) (hin : (Ob.b B).inL [] = true)
    (h : CallZ P top c avs Kp top (oneB top N B)) (hk : k ⟨.c (.osl top 0 N none), l, (top, some (.b B)) :: killK Kp, top + 1⟩) : ConZ P c avs Kl top k := by
  refine ⟨_, ?_, hk⟩
  refine Y.in_effE (Kp := ky Kp) (Kx := fun j => if j = top then some (Y.Ob.b B) else none) l hlt hav hcap (fun i b hb => ?_) (fun i hi => ?_) (fun i b hb => ?_) (callX_one hin h) (fun j => ?_)
  · obtain ⟨o, ho, _⟩ := ky_some hb
    exact hFK.out ho
  · unfold ky; rw [hFK.eq hi]
  · obtain ⟨o, ho, rfl⟩ := ky_some hb
    exact inL_y (hin0.mem (kz_mem ho))
  · rw [ky_kill Kp top B j]
    show ky (((top, some (.b B)) :: killK Kp) ++ Kp) j = _
    rw [ky_append]
end Go.Proofs.Ytllnmdmmmkoiaaa.Wx.Z
/-
  The second layer, with an oracle: calls of functions that are told by contracts.
-/
namespace Go.Proofs.Ytllnmdmmmkoiaaa.Wx.Y
open Go Go.RowKit
set_option linter.unusedVariables false

def callS (C : CallFn) (FT : FTab) (T : Tab) (lf : Nat) : CallFn := fun c avs K top =>
  match c with
    | .yl j => roundE (fun n j c s => codeE (C) T n lf (some j) c s) j avs K top
    | .fn g cap => match ftGet FT g with
      | some fn => match fn.body with
        | some c => match Nat.ble (avs ++ capA cap).length fn.ntmps, Nat.ble (avs ++ capA cap).length big with
          | true, true => match codeE (C) T fn.ntmps lf none c ⟨argE 0 (avs ++ capA cap), K, top, []⟩ with
            | some (.normal, s) => match resE T s fn.results.toList with
              | some xs => some ⟨retV xs, s.K, s.top, s.log⟩
              | none => none
            | some (.ret, s) => match resE T s fn.results.toList with
              | some xs => some ⟨retV xs, s.K, s.top, s.log⟩
              | none => none
            | _ => none
          | _, _ => none
        | none => none
      | none => none
    | .mf g cap => match ftGet FT g with
      | some fn => match fn.body with
        | some c => match Nat.ble (capA cap ++ avs).length fn.ntmps, Nat.ble (capA cap ++ avs).length big with
          | true, true => match codeE (C) T fn.ntmps lf none c ⟨argE 0 (capA cap ++ avs), K, top, []⟩ with
            | some (.normal, s) => match resE T s fn.results.toList with
              | some xs => some ⟨retV xs, s.K, s.top, s.log⟩
              | none => none
            | some (.ret, s) => match resE T s fn.results.toList with
              | some xs => some ⟨retV xs, s.K, s.top, s.log⟩
              | none => none
            | _ => none
          | _, _ => none
        | none => none
      | none => none
    | _ => none
theorem callS_sound {P : Program} {C : CallFn} {FT : FTab} {T : Tab} (hF : FtOk P FT) (hT : TabOk P T) (hmix : P.follows .mixedOrders = true) {lf : Nat} (hC : CallsOk P C) : CallsOk P (callS C FT T lf) := fun c avs K top r h => by
  unfold callS at h
  split at h
  · rename_i j
    exact round_core (fun n j c s e s' h => codeE_sound hT hmix (hC) c s e s' h) h
  · rename_i g cap
    split at h
    · rename_i fn hfn
      obtain ⟨hf, hfb⟩ := hF _ _ hfn
      split at h
      · rename_i c hc
        split at h
        · rename_i hle hbig
          have hle' : (avs ++ capA cap).length ≤ fn.ntmps := Nat.le_of_ble_eq_true hle
          have hbig' : (avs ++ capA cap).length ≤ big := Nat.le_of_ble_eq_true hbig
          have key : ∀ (e : Exit) (s : ES) (xs : List A0), (e = .normal ∨ e = .ret) → codeE (C) T fn.ntmps lf none c ⟨argE 0 (avs ++ capA cap), K, top, []⟩ = some (e, s) → resE T s fn.results.toList = some xs →
              CallE P (.fn g cap) avs K.get top (retV xs) s.K.get s.top ∧ ∀ j, j ∉ s.log → s.K.get j = K.get j := by
            intro e s xs he hco hxs
            obtain ⟨a1, a2, a3⟩ := codeE_sound hT hmix (hC) c _ _ _ hco
            refine ⟨⟨a1, fun W I R w v vs hw hd hvs hv => ?_⟩, fun j hj => (a2 j hj).2⟩
            obtain ⟨us, hus, rfl⟩ : ∃ us, All2 (Pt.rel I) cap us ∧ v = .func (.func g) #[] us.toArray := hv
            have hall := hvs.append (capA_rel (R := R) hus)
            refine .inl ⟨g, #[], us.toArray, rfl, hfb, ?_⟩
            rw [Array.empty_append]
            have hargs : vs.toArray ++ us.toArray = (vs ++ us).toArray := by simp
            rw [hargs]
            refine fr_calls (r := none) (n := 0) (callsIn_of_wp_marks hf hc trivial (wpIn_mono (a3 W I R _ w none rfl (st_argE hall hw (by rw [← hall.length]; exact hle') hbig') hd) ?_))
            rintro e' a' w' ⟨rfl, I', R', k1, k2, k3, k4⟩
            have fin : LeavesInM (fr none) 0 P fn a'.tmps (fun e w' => ∃ u I' R', e = .returned u ∧ Wz W s.K.get I' R' w' ∧ (∀ j, s.top ≤ j → I' j = none) ∧ (∀ j, j < top → I' j = I j) ∧ RExt R R' ∧ (retV xs).rel I' R' u) a'.defers .returning w' := by
              refine leaves_marks _ _ k1.mks k1.wz fun w2 hw2 => ?_
              obtain ⟨v, g1, g2⟩ := resE_results hT (⟨k1.size, (trivial : Mk W (⟨a'.tmps, []⟩ : Act).defers w2), fun t x hx => k1.fr t x hx, hw2⟩ : St fn.ntmps W s.F.get s.K.get I' R' ⟨a'.tmps, []⟩ w2) hxs
              exact ⟨v, g1, v, I', R', rfl, hw2, k2, k3, k4, g2⟩
            rcases he with rfl | rfl
            · exact fin
            · exact fin
          split at h
          · rename_i s hco
            split at h
            · rename_i xs hxs
              simp only [Option.some.injEq] at h
              subst h
              exact key _ _ _ (.inl rfl) hco hxs
            · cases h
          · rename_i s hco
            split at h
            · rename_i xs hxs
              simp only [Option.some.injEq] at h
              subst h
              exact key _ _ _ (.inr rfl) hco hxs
            · cases h
          · cases h
        · cases h
      · cases h
    · cases h
  · rename_i g cap
    split at h
    · rename_i fn hfn
      obtain ⟨hf, hfb⟩ := hF _ _ hfn
      split at h
      · rename_i c hc
        split at h
        · rename_i hle hbig
          have hle' : (capA cap ++ avs).length ≤ fn.ntmps := Nat.le_of_ble_eq_true hle
          have hbig' : (capA cap ++ avs).length ≤ big := Nat.le_of_ble_eq_true hbig
          have key : ∀ (e : Exit) (s : ES) (xs : List A0), (e = .normal ∨ e = .ret) → codeE (C) T fn.ntmps lf none c ⟨argE 0 (capA cap ++ avs), K, top, []⟩ = some (e, s) → resE T s fn.results.toList = some xs →
              CallE P (.mf g cap) avs K.get top (retV xs) s.K.get s.top ∧ ∀ j, j ∉ s.log → s.K.get j = K.get j := by
            intro e s xs he hco hxs
            obtain ⟨a1, a2, a3⟩ := codeE_sound hT hmix (hC) c _ _ _ hco
            refine ⟨⟨a1, fun W I R w v vs hw hd hvs hv => ?_⟩, fun j hj => (a2 j hj).2⟩
            obtain ⟨us, hus, rfl⟩ : ∃ us, All2 (Pt.rel I) cap us ∧ v = .func (.func g) us.toArray #[] := hv
            have hall := (capA_rel (R := R) hus).append hvs
            refine .inl ⟨g, us.toArray, #[], rfl, hfb, ?_⟩
            have hargs : us.toArray ++ vs.toArray ++ #[] = (us ++ vs).toArray := by simp
            rw [hargs]
            refine fr_calls (r := none) (n := 0) (callsIn_of_wp_marks hf hc trivial (wpIn_mono (a3 W I R _ w none rfl (st_argE hall hw (by rw [← hall.length]; exact hle') hbig') hd) ?_))
            rintro e' a' w' ⟨rfl, I', R', k1, k2, k3, k4⟩
            have fin : LeavesInM (fr none) 0 P fn a'.tmps (fun e w' => ∃ u I' R', e = .returned u ∧ Wz W s.K.get I' R' w' ∧ (∀ j, s.top ≤ j → I' j = none) ∧ (∀ j, j < top → I' j = I j) ∧ RExt R R' ∧ (retV xs).rel I' R' u) a'.defers .returning w' := by
              refine leaves_marks _ _ k1.mks k1.wz fun w2 hw2 => ?_
              obtain ⟨v, g1, g2⟩ := resE_results hT (⟨k1.size, (trivial : Mk W (⟨a'.tmps, []⟩ : Act).defers w2), fun t x hx => k1.fr t x hx, hw2⟩ : St fn.ntmps W s.F.get s.K.get I' R' ⟨a'.tmps, []⟩ w2) hxs
              exact ⟨v, g1, v, I', R', rfl, hw2, k2, k3, k4, g2⟩
            rcases he with rfl | rfl
            · exact fin
            · exact fin
          split at h
          · rename_i s hco
            split at h
            · rename_i xs hxs
              simp only [Option.some.injEq] at h
              subst h
              exact key _ _ _ (.inl rfl) hco hxs
            · cases h
          · rename_i s hco
            split at h
            · rename_i xs hxs
              simp only [Option.some.injEq] at h
              subst h
              exact key _ _ _ (.inr rfl) hco hxs
            · cases h
          · cases h
        · cases h
      · cases h
    · cases h
  · cases h
def callO (O : CallFn) (FT : FTab) (T : Tab) (lf : Nat) : Nat → CallFn
  | 0 => O
  | d + 1 => fun c avs K top => match O c avs K top with
    | some r => some r
    | none => callS (callO O FT T lf d) FT T lf c avs K top
theorem callO_sound {P : Program} {O : CallFn} {FT : FTab} {T : Tab} (hF : FtOk P FT) (hT : TabOk P T) (hmix : P.follows .mixedOrders = true) (hO : CallsOk P O) {lf : Nat} : ∀ (d : Nat), CallsOk P (callO O FT T lf d)
  | 0 => hO
  | d + 1 => fun c avs K top r h => by
    unfold callO at h
    split at h
    · rename_i r' hr
      cases h
      exact hO _ _ _ _ _ hr
    · exact callS_sound hF hT hmix (callO_sound hF hT hmix hO d) _ _ _ _ _ h
theorem con_runO {P : Program} {O : CallFn} {FT : FTab} {T : Tab} (hF : FtOk P FT) (hT : TabOk P T) (hmix : P.follows .mixedOrders = true) (hO : CallsOk P O) (lf d : Nat) {g : FuncId} (hfn : fnB P g = true) (h : isT (callO O FT T lf d (.fn g []) [] .e 0) = true) : Con P g [] (fun x K t => x = .val (.bool true) ∧ K = [] ∧ t = 0) := by
  obtain ⟨K, top, log, hr⟩ := isT_spec h
  obtain ⟨⟨h1, h2⟩, _⟩ := callO_sound hF hT hmix hO d _ _ _ _ _ hr
  refine ⟨hfn, fun w vs hvs => ?_⟩
  have hvs0 : vs = [] := by cases vs with
    | nil => rfl
    | cons => exact hvs.elim
  subst hvs0
  have hw : Wz (Wo.of w) (Bt.e : Bt Ob).get (fun _ => none) (fun _ _ _ => none) w := by
    have he : blkOf (Bt.e : Bt Ob).get = fun _ => none := rfl
    refine ⟨?_, fun i o h => (by cases h), fun i j oi oj p q h => (by cases h)⟩
    rw [he]
    exact ⟨fun i b h => (by cases h), fun i j bi bj p q h => (by cases h), fun i b p h => (by cases h), fun f b o u h => (by cases h), fun i b p f o h => (by cases h), fun b o u h => (by cases h), fun b o u h => (by cases h), .refl _, fun _ _ _ _ _ h => h, fun _ h => h.elim⟩
  have := h2 (Wo.of w) (fun _ => none) (fun _ _ _ => none) w (.func (.func g) #[] #[]) [] hw (fun _ _ => rfl) trivial ⟨[], trivial, rfl⟩
  obtain ⟨g', fs', us', hv, hb, hcalls⟩ := this.resolve_right (fun ⟨_, _, _, _, _, hv, _⟩ => by cases hv)
  simp only [Value.func.injEq, Fn.func.injEq] at hv
  obtain ⟨rfl, rfl, rfl⟩ := hv
  rw [Array.empty_append] at hcalls
  rw [show ([] : List Value).toArray ++ #[] = ([] : List Value).toArray by simp] at hcalls
  refine hcalls.mono ?_
  rintro e w' ⟨v, I', R', rfl, k1, k2, k3, k4, k5⟩
  refine ⟨v, .val (.bool true), [], 0, fun _ => none, fun _ _ => none, rfl, ?_, fun _ _ => rfl, (fun p hp => by cases hp), k5, rfl, rfl, rfl⟩
  exact ⟨fun i b h => (by simp [kg] at h), fun i j bi bj p q h => (by simp [kg] at h), fun i b p h => (by simp [kg] at h), fun f b o u h => (by cases h), fun i b p f o h => (by simp [kg] at h), fun b o u h => (by cases h), fun b o u h => (by cases h), k1.wd.below, fun _ _ _ _ _ h => h, fun _ h => h.elim⟩
theorem con_callE {P : Program} {g : FuncId} {avs : List AV} {args : List A0} {res : AV} {K : Nat → Option Ob} {top : Nat} (hl : All2 (lowV (blkOf K)) avs args) (h : Con P g args (fun x K t => x = res ∧ K = [] ∧ t = 0)) (hres : res.ren (top + ·) = res) : CallE P (.fn g []) avs K top res K top := by
  refine ⟨Nat.le_refl _, fun W I R w v vs hw hd hvs hv => ?_⟩
  obtain ⟨hfn, hrun⟩ := con_eff (K0 := blkOf K) (top := top) h hl
  obtain ⟨us, hus, rfl⟩ : ∃ us, All2 (Pt.rel I) [] us ∧ v = .func (.func g) #[] us.toArray := hv
  refine .inl ⟨g, #[], us.toArray, rfl, hfn, ?_⟩
  rw [Array.empty_append]
  refine (hrun (stpB W (blkOf K) I R w) (blkOf K) I R w vs us (wd_step hw.wd) hvs hus (fun i hi => rfl) (fun j h1 h2 => absurd h2 (by first | (simp; done) | omega | (simp; omega)))).mono ?_
  rintro e' w' ⟨u, I', R', rfl, h1, h2, h3, h4, h5⟩
  have hI : ∀ j, I' j = I j := fun j => h3 j (by first | (simp; done) | omega | (simp; omega))
  refine ⟨u, I', R', rfl, ?_, fun j hj => by rw [hI]; exact hd j hj, fun j _ => hI j, h4, hres ▸ h5⟩
  have := hw.onK (kw := []) h2 h4 h1
  exact this
end Go.Proofs.Ytllnmdmmmkoiaaa.Wx.Y
