/-
  More rules: tests as propositions, numbers of 64 bits.
-/
import Derived.Test.YtllnmdmmmkoiaaaWr
namespace Go.Proofs.Ytllnmdmmmkoiaaa.Wx
open Go Go.RowKit
set_option linter.unusedVariables false

theorem spB_cong {b b' : Bool} {A B : Prop} (e : b = b') (h : spB b' A B) : spB b A B := by rw [e]; exact h
theorem spB_dec {p : Prop} [Decidable p] {A B : Prop} (h1 : p → A) (h2 : ¬ p → B) : spB (decide p) A B := ⟨fun h => h1 (of_decide_eq_true h), fun h => h2 (of_decide_eq_false h)⟩
theorem spB_beq {α : Type} [DecidableEq α] {x y : α} {A B : Prop} (h1 : x = y → A) (h2 : ¬ x = y → B) : spB (x == y) A B := ⟨fun h => h1 (by simpa using h), fun h => h2 (by simpa using h)⟩
theorem spB_bne {α : Type} [DecidableEq α] {x y : α} {A B : Prop} (h1 : ¬ x = y → A) (h2 : x = y → B) : spB (x != y) A B := ⟨fun h => h1 (by simpa using h), fun h => h2 (by simpa using h)⟩
theorem spB_not {b : Bool} {A B : Prop} (h : spB b B A) : spB (!b) A B := ⟨fun hh => h.f (by simpa using hh), fun hh => h.t (by simpa using hh)⟩
theorem u64_in (z : Int) (h : 0 ≤ z ∧ z ≤ 18446744073709551615) : IntKind.u64.wrap z = z := by
  simp [IntKind.wrap, IntKind.bits, IntKind.signed]
  omega
theorem wr_u64 {z : Int} {A : Int → Prop} (h1 : 0 ≤ z ∧ z ≤ 18446744073709551615) (h2 : A z) : wr .u64 z A := ⟨z, u64_in z h1, h2⟩
theorem u8_in (z : Int) (h : 0 ≤ z ∧ z ≤ 255) : IntKind.u8.wrap z = z := by
  simp [IntKind.wrap, IntKind.bits, IntKind.signed]
  omega
theorem wr_u8 {z : Int} {A : Int → Prop} (h1 : 0 ≤ z ∧ z ≤ 255) (h2 : A z) : wr .u8 z A := ⟨z, u8_in z h1, h2⟩
theorem u32_in (z : Int) (h : 0 ≤ z ∧ z ≤ 4294967295) : IntKind.u32.wrap z = z := by
  simp [IntKind.wrap, IntKind.bits, IntKind.signed]
  omega
theorem wr_u32 {z : Int} {A : Int → Prop} (h1 : 0 ≤ z ∧ z ≤ 4294967295) (h2 : A z) : wr .u32 z A := ⟨z, u32_in z h1, h2⟩
theorem wr_eq {k : IntKind} {z z' : Int} {A : Int → Prop} (h : z = z') (h2 : wr k z' A) : wr k z A := by rw [h]; exact h2
theorem eqN_dec {p : Prop} [Decidable p] {A : Prop} (h : p) (k : A) : eqN (decide p) true A := ⟨decide_eq_true h, k⟩
theorem wf_u64 {z : Int} (h : (Lit.int .u64 z).wf = true) : 0 ≤ z ∧ z ≤ 18446744073709551615 := by
  simp [Lit.wf, IntKind.min, IntKind.max, IntKind.signed, IntKind.bits] at h; omega
theorem wf_i64 {z : Int} (h : (Lit.int .i64 z).wf = true) : -9223372036854775808 ≤ z ∧ z ≤ 9223372036854775807 := by
  simp [Lit.wf, IntKind.min, IntKind.max, IntKind.signed, IntKind.bits] at h; omega
theorem wf_u8 {z : Int} (h : (Lit.int .u8 z).wf = true) : 0 ≤ z ∧ z ≤ 255 := by
  simp [Lit.wf, IntKind.min, IntKind.max, IntKind.signed, IntKind.bits] at h; omega
theorem wf_u32 {z : Int} (h : (Lit.int .u32 z).wf = true) : 0 ≤ z ∧ z ≤ 4294967295 := by
  simp [Lit.wf, IntKind.min, IntKind.max, IntKind.signed, IntKind.bits] at h; omega
theorem call_con2 {P : Program} {W : Wo} {m : Nat} {g : FuncId} {avs : List AV} {K : Kr} {top : Nat} {k : AV → Kr → Nat → Prop} {args : List A0} {post : AV → Kr → Nat → Prop} (hl : All2 (lowV (kg K)) avs args) (h : Con P g args post)
    (hk : ∀ x Kc tc, post x Kc tc → k (x.ren (top + ·)) (shK top Kc ++ K) (top + tc)) : CallP P W m g [] avs K top k := call_con h hl hk
theorem conN_mk2 {P : Program} {g : FuncId} {avs : List AV} {K : Kr} {top : Nat} {k : Eff → Prop} {args : List A0} {res : AV} {Kc : Kr} {tc : Nat} (hl : All2 (lowV (kg K)) avs args) (h : Con P g args (fun x K t => x = res ∧ K = Kc ∧ t = tc)) (hk : k ⟨res.ren (top + ·), avs.flatMap AV.refs, shK top Kc, top + tc⟩) : conN P g [] avs K top k :=
  conN_mk h hl hk
theorem vN_mk {z : Int} {A : Int → Prop} (h : A z) : vN z A := ⟨_, rfl, h⟩
theorem vN_mod {p q : Int} {A : Int → Prop} (hp : 0 ≤ p) (h : A (p % q)) : vN (p.tmod q) A := ⟨_, Int.tmod_eq_emod_of_nonneg hp, h⟩
theorem vN_shr {p : Int} {n : Nat} {A : Int → Prop} (hp : 0 ≤ p) (h : A (p / 2 ^ n)) : vN (p.fdiv (2 ^ n)) A := ⟨_, Int.fdiv_eq_ediv_of_nonneg _ (Int.le_of_lt (Int.pow_pos (by decide))), h⟩
theorem wr_quo {k : IntKind} {p q : Int} {A : Int → Prop} (hp : 0 ≤ p) (h : wr k (p / q) A) : wr k (p.tdiv q) A := by rw [Int.tdiv_eq_ediv_of_nonneg hp]; exact h
theorem ixN_nat {i m : Nat} {A : Nat → Prop} (h : i < m) (k : A i) : ixN (i : Int) m A := ⟨i, rfl, h, k⟩
theorem rowN_map {α : Type} {f : α → List RT} {xs : List α} {i : Nat} {A : List RT → Prop} (hi : i < xs.length) (h : ∀ x, xs[i]? = some x → A (f x)) : rowN (xs.map f) i A :=
  ⟨f xs[i], by simp [hi], h _ (List.getElem?_eq_getElem hi)⟩
theorem rows_map {e : TD} {α : Type} (en : α → List RT) (ok : α → Prop) (h : ∀ row, RowF e row → ∃ x, row = en x ∧ ok x) : ∀ rows : List (List RT), (∀ row ∈ rows, RowF e row) → ∃ xs : List α, rows = xs.map en ∧ ∀ x ∈ xs, ok x
  | [], _ => ⟨[], rfl, by simp⟩
  | r :: rows, hr => by
    obtain ⟨x, rfl, hx⟩ := h r (hr r List.mem_cons_self)
    obtain ⟨xs, rfl, hxs⟩ := rows_map en ok h rows fun row hrow => hr row (List.mem_cons_of_mem _ hrow)
    exact ⟨x :: xs, rfl, fun y hy => by
      rcases List.mem_cons.1 hy with rfl | hy
      · exact hx
      · exact hxs y hy⟩
theorem fit_ints {k : IntKind} {te : Nat} {a : A0} (h : FitA (.sl (.int k) te 1) a) : ∃ zs : List Int, a = .one (.ro false 1 (zs.map fun z => [RT.v (.int k z)])) ∧ zs.length ≤ maxLen ∧ ∀ z ∈ zs, (Lit.int k z).wf = true := by
  obtain ⟨r, ⟨rows, hr, hl, hrows⟩, rfl⟩ := h
  simp only [List.cons.injEq, and_true] at hr
  subst hr
  obtain ⟨zs, rfl, hz⟩ := rows_map (e := .int k) (fun z => [RT.v (.int k z)]) (fun z => (Lit.int k z).wf = true) (fun row hrow => hrow) rows hrows
  exact ⟨zs, rfl, by simpa using hl, hz⟩
theorem fit_int {k : IntKind} {a : A0} (h : FitA (.int k) a) : ∃ z, a = .one (.v (.int k z)) ∧ (Lit.int k z).wf = true := by
  obtain ⟨r, ⟨z, hr, hz⟩, rfl⟩ := h
  simp only [List.cons.injEq, and_true] at hr
  subst hr
  exact ⟨z, rfl, hz⟩
theorem fit_bool {a : A0} (h : FitA .bool a) : ∃ z, a = .one (.v (.bool z)) := by
  obtain ⟨r, ⟨z, hr⟩, rfl⟩ := h
  simp only [List.cons.injEq, and_true] at hr
  subst hr
  exact ⟨z, rfl⟩
theorem fit_iarr {n : Nat} {k : IntKind} {te : Nat} {a : A0} (h : FitA (.arr n (.int k) te 1) a) : ∃ zs : List Int, a = .agg (zs.map fun z => Ce.v (.int k z)) ∧ zs.length = n ∧ ∀ z ∈ zs, (Lit.int k z).wf = true := by
  obtain ⟨row, ⟨rows, rfl, hn, hrows⟩, rfl⟩ := h
  obtain ⟨zs, rfl, hz⟩ := rows_map (e := .int k) (fun z => [RT.v (.int k z)]) (fun z => (Lit.int k z).wf = true) (fun row hrow => hrow) rows (fun row hr => (hrows row hr).1)
  refine ⟨zs, ?_, by simpa using hn, hz⟩
  congr 1
  clear hn hrows hz
  induction zs with
  | nil => rfl
  | cons z zs ih => simp only [List.map_cons, List.flatten_cons, List.cons_append, List.nil_append, ih]; rfl
theorem len2 {α : Type} {l : List α} (h : l.length = 2) : ∃ a b, l = [a, b] := by
  match l, h with
  | [a, b], _ => exact ⟨a, b, rfl⟩
theorem rv_bool {a b : Bool} (h : a = b) : retV [.one (.v (.bool a))] = .val (.bool b) := by rw [h]; rfl
theorem rv_int {k : IntKind} {a b : Int} (h : a = b) : retV [.one (.v (.int k a))] = .val (.int k b) := by rw [h]; rfl
theorem rv_ii {k l : IntKind} {a b c d : Int} (h : a = b) (h2 : c = d) : retV [.one (.v (.int k a)), .one (.v (.int l c))] = .tup [.one (.v (.int k b)), .one (.v (.int l d))] := by rw [h, h2]; rfl
theorem rv_ib {k : IntKind} {a b : Int} {c d : Bool} (h : a = b) (h2 : c = d) : retV [.one (.v (.int k a)), .one (.v (.bool c))] = .tup [.one (.v (.int k b)), .one (.v (.bool d))] := by rw [h, h2]; rfl
theorem bool_t {p : Prop} [Decidable p] (h : p) : true = decide p := (decide_eq_true h).symm
theorem bool_f {p : Prop} [Decidable p] (h : ¬ p) : false = decide p := (decide_eq_false h).symm
theorem bool_p {p q : Prop} [Decidable p] [Decidable q] (h : p ↔ q) : decide p = decide q := decide_eq_decide.2 h
theorem slN_hi {x : Int} {len : Nat} {cap : Option Nat} {A : Nat → Nat → Prop} (h : Nat) (e : x = (h : Int)) (h1 : h ≤ len) (k : A 0 h) : slN none (some x) len cap A := ⟨0, h, rfl, e, Nat.zero_le _, .inl h1, k⟩
theorem one_all {src : List (List Ce)} (h : src.all (fun r => r.all Ce.single) = true) : ∀ r ∈ src, ∀ c ∈ r, c.single = true := fun r hr c hc => List.all_eq_true.1 (List.all_eq_true.1 h r hr) c hc
theorem one_map {α : Type} {l : List α} {f : α → List Ce} (h : ∀ x, (f x).all Ce.single = true) : ∀ r ∈ l.map f, ∀ c ∈ r, c.single = true := fun r hr c hc => by
  obtain ⟨x, _, rfl⟩ := List.mem_map.1 hr
  exact List.all_eq_true.1 (h x) c hc
theorem one_map2 {α : Type} {l : List α} {f : α → List RT} {g : List RT → List Ce} (h : ∀ x, (g (f x)).all Ce.single = true) : ∀ r ∈ (l.map f).map g, ∀ c ∈ r, c.single = true := by
  rw [List.map_map]; exact one_map h
theorem one_drop {α : Type} {l : List α} {q n : Nat} {f : α → List Ce} (h : ∀ x, (f x).all Ce.single = true) : ∀ r ∈ ((l.map f).drop q).take n, ∀ c ∈ r, c.single = true := fun r hr c hc =>
  one_map h r (List.mem_of_mem_drop (List.mem_of_mem_take hr)) c hc
theorem eqN_mk2 {α : Type} {a b : α} {A : Prop} (h : a = b) (k : A) : eqN a b A := ⟨h, k⟩
theorem posN_mk2 {m : Nat} {A : Prop} (h : 0 < m) (k : A) : posN m A := ⟨h, k⟩
def intNat : Int → Option Nat
  | .ofNat n => some n
  | _ => none
theorem ixN_lit {j : Int} {m : Nat} {A : Nat → Prop} (n : Nat) (h : intNat j = some n) (h1 : Nat.ble (n + 1) m = true) (k : A n) : ixN j m A := by
  cases j with
  | ofNat i => simp only [intNat, Option.some.injEq] at h; subst h; exact ⟨i, rfl, Nat.le_of_ble_eq_true h1, k⟩
  | negSucc i => cases h
theorem ixN_litp {j : Int} {m : Nat} {A : Nat → Prop} (n : Nat) (h : intNat j = some n) (h1 : n < m) (k : A n) : ixN j m A := by
  cases j with
  | ofNat i => simp only [intNat, Option.some.injEq] at h; subst h; exact ⟨i, rfl, h1, k⟩
  | negSucc i => cases h
/-- Lengths. -/
theorem LN : (∀ (α : Type) (n : Nat) (l : List α), (l.take n).length = min n l.length) ∧ (∀ (α : Type) (n : Nat) (l : List α), (l.drop n).length = l.length - n) ∧ (∀ (α : Type) (n : Nat) (x : α), (List.replicate n x).length = n) ∧ (∀ (α β : Type) (f : α → β) (l : List α), (l.map f).length = l.length) ∧ (∀ (α : Type) (l m : List α), (l ++ m).length = l.length + m.length) ∧ (∀ (α : Type), ([] : List α).length = 0) ∧ (∀ (α : Type) (x : α) (l : List α), (x :: l).length = l.length + 1) ∧ (∀ (α : Type) (n : Nat) (x : α) (l : List α), (l.set n x).length = l.length) ∧ maxLen = 9223372036854775807 :=
  ⟨fun _ _ _ => List.length_take, fun _ _ _ => List.length_drop, fun _ _ _ => List.length_replicate, fun _ _ _ _ => List.length_map _, fun _ _ _ => List.length_append, fun _ => rfl, fun _ _ _ => rfl, fun _ _ _ _ => List.length_set, rfl⟩
/-! ### Lists -/
theorem drop_cons {α : Type} {xs : List α} {i : Nat} {x : α} (h : xs[i]? = some x) : xs.drop i = x :: xs.drop (i + 1) := by
  obtain ⟨h1, h2⟩ := List.getElem?_eq_some_iff.1 h
  rw [← h2]; exact List.drop_eq_getElem_cons h1
theorem drop_end {α : Type} {xs : List α} {i : Nat} (h : ¬ i < xs.length) : xs.drop i = [] := List.drop_eq_nil_of_le (by omega)
theorem take_snoc {α : Type} {xs : List α} {i : Nat} {x : α} (h : xs[i]? = some x) : xs.take (i + 1) = xs.take i ++ [x] := by
  rw [List.take_add_one, h]; rfl
theorem take_end {α : Type} {xs : List α} {i : Nat} (h : ¬ i < xs.length) : xs.take i = xs := List.take_of_length_le (by omega)
theorem eq_step {α : Type} {a b : List α} {i : Nat} {x y : α} (h : a.take i = b.take i) (ha : a[i]? = some x) (hb : b[i]? = some y) (e : x = y) : a.take (i + 1) = b.take (i + 1) := by
  rw [take_snoc ha, take_snoc hb, h, e]
theorem ne_at {α : Type} {a b : List α} {i : Nat} {x y : α} (ha : a[i]? = some x) (hb : b[i]? = some y) (h : ¬ x = y) : ¬ a = b := fun e => by
  subst e; rw [ha] at hb; cases hb; exact h rfl
theorem eq_end {α : Type} {a b : List α} {i : Nat} (hl : a.length = b.length) (h : a.take i = b.take i) (hi : ¬ i < a.length) : a = b := by
  rw [take_end hi, take_end (by omega)] at h; exact h
theorem ne_len {α : Type} {a b : List α} (h : ¬ a.length = b.length) : ¬ a = b := fun e => h (by rw [e])
theorem getElem?_some' {α : Type} {xs : List α} {i : Nat} (h : i < xs.length) : ∃ x, xs[i]? = some x := ⟨xs[i], List.getElem?_eq_getElem h⟩
/-! ### Slices that grow, and are then only read -/
theorem Stp.nilg {m : Nat} {s : S} (t i : Nat) (hx : get s.F t = some (.val (.slice none 0 0))) (hm : m ≤ s.top) : Stp m s ⟨(t, .c (.gsl i [])) :: s.F, s.K, s.top⟩ :=
  Stp.slot hm fun n W I R a w hs => ⟨R, hs.wd, .refl _, .inl ⟨rfl, hs.fr t _ hx⟩⟩
theorem Stp.nilr {m : Nat} {s : S} (t sz : Nat) (hx : get s.F t = some (.val (.slice none 0 0))) (hm : m ≤ s.top) : Stp m s ⟨(t, .c (.ro true sz [])) :: s.F, s.K, s.top⟩ :=
  Stp.slot hm fun n W I R a w hs => ⟨R, hs.wd, .refl _, by rw [hs.fr t _ hx]; exact .nil sz⟩
theorem gB_sub {K : Kr} {r : Nat → Nat} {j sz : Nat} {ty : TypeId} {rows rows' : List (List Ce)} (h : kg K (r j) = gB sz ty rows') (e : rows' = rows) (hf : rows.map (List.map (Ce.ren r)) = rows) : ∀ b, gB sz ty rows = some b → kg K (r j) = some (b.ren r) := fun b hb => by
  obtain ⟨_, rfl⟩ := gB_some hb
  rw [h, e, hb]
  simp only [Blk.ren, hf]
theorem gB_sub' {K : Kr} {r : Nat → Nat} {j sz : Nat} {ty : TypeId} {rows rows' : List (List Ce)} (h : kg K (r j) = some ⟨rows', sz, ty, false⟩) (e : rows' = rows) (hf : rows.map (List.map (Ce.ren r)) = rows) : ∀ b, gB sz ty rows = some b → kg K (r j) = some (b.ren r) := fun b hb => by
  obtain ⟨_, rfl⟩ := gB_some hb
  rw [h, e]
  simp only [Blk.ren, hf]
theorem ren_map {α : Type} {f : α → List Ce} {l : List α} {r : Nat → Nat} (h : ∀ x, (f x).map (Ce.ren r) = f x) : (l.map f).map (List.map (Ce.ren r)) = l.map f := by
  rw [List.map_map]; exact List.map_congr_left fun x _ => h x
theorem blk_sub {K : Kr} {r : Nat → Nat} {j sz : Nat} {ty : TypeId} {rows rows' : List (List Ce)} {bx : Bool} (h : kg K (r j) = some ⟨rows', sz, ty, bx⟩) (e : rows' = rows) (hf : rows.map (List.map (Ce.ren r)) = rows) : ∀ b, some (⟨rows, sz, ty, bx⟩ : Blk) = some b → kg K (r j) = some (b.ren r) := fun b hb => by
  cases hb
  rw [h, e]
  simp only [Blk.ren, hf]
theorem own_map {α : Type} {l : List α} {f : α → List Ce} (h : ∀ x, (f x).all Ce.own' = true) : ∀ r ∈ l.map f, ∀ c ∈ r, c.own' = true := fun r hr c hc => by
  obtain ⟨x, _, rfl⟩ := List.mem_map.1 hr
  exact List.all_eq_true.1 (h x) c hc
theorem own_one {rows : List (List Ce)} {sz : Nat} {ty : TypeId} {bx : Bool} (h : ∀ r ∈ rows, ∀ c ∈ r, c.own' = true) : Kr.own' [(0, some ⟨rows, sz, ty, bx⟩)] := by
  intro j b hb
  rcases j with _ | j
  · cases hb; exact h
  · cases hb
theorem ret1b {T : Tab} {rs : List ResultVar} {s : S} {post : AV → Kr → Nat → Prop} (i : Nat) (x : AV) (rows : List (List Ce)) (sz : Nat) (ty : TypeId) (bx : Bool) (xs : List A0) (h : resL T s rs = some xs) {rows' : List (List Ce)} (hx : retV xs = x.ren (rn [i] s.top)) (hK : kg s.K i = some ⟨rows', sz, ty, bx⟩) (e : rows' = rows) (hf : rows.map (List.map (Ce.ren (rn [i] s.top))) = rows) (ho : x.own' = true) (ho2 : ∀ r ∈ rows, ∀ c ∈ r, c.own' = true) (hp : post x [(0, some ⟨rows, sz, ty, bx⟩)] 1) : retN T rs s post :=
  ret1 xs h [i] x [(0, some ⟨rows, sz, ty, bx⟩)] hx ⟨blk_sub (r := rn [i] s.top) (j := 0) hK e hf, trivial⟩ (by simp) ho (own_one ho2) (by simp) hp
theorem low_map {α : Type} {l : List α} {f : α → List Ce} {g : α → List RT} (h : ∀ x, (f x).map RT.of = (g x).map some) : (((l.map f).drop 0).take l.length).map (List.map RT.of) = (l.map g).map (List.map some) := by
  rw [List.drop_zero, List.take_of_length_le (by simp), List.map_map, List.map_map]
  exact List.map_congr_left fun x _ => h x
theorem low_mapr {α : Type} {l : List α} {f : α → List Ce} {g : α → List RT} {r : Nat → Nat} (h : ∀ x, ((f x).map (Ce.ren r)).map RT.of = (g x).map some) : ((((l.map f).map (List.map (Ce.ren r))).drop 0).take l.length).map (List.map RT.of) = (l.map g).map (List.map some) := by
  rw [List.map_map]; exact low_map h
theorem low_osl {α : Type} {l : List α} {f : α → List Ce} {g : α → List RT} {sz : Nat} (h : ∀ x, (f x).map RT.of = (g x).map some) : ∃ rows, Ce.ro false sz (l.map g) = Ce.ro false sz rows ∧ rows.length = l.length ∧ (((l.map f).drop 0).take l.length).map (List.map RT.of) = rows.map (List.map some) := ⟨_, rfl, by simp, low_map h⟩
theorem low_oslr {α : Type} {l : List α} {f : α → List Ce} {g : α → List RT} {sz : Nat} {r : Nat → Nat} (h : ∀ x, ((f x).map (Ce.ren r)).map RT.of = (g x).map some) : ∃ rows, Ce.ro false sz (l.map g) = Ce.ro false sz rows ∧ rows.length = l.length ∧ ((((l.map f).map (List.map (Ce.ren r))).drop 0).take l.length).map (List.map RT.of) = rows.map (List.map some) := ⟨_, rfl, by simp, low_mapr h⟩
theorem map_ce {α : Type} {l : List α} {f : α → List Ce} {g : α → List RT} {fl : Bool} (h : ∀ x, (g x).map (RT.ce fl) = f x) : (l.map g).map (List.map (RT.ce fl)) = l.map f := by
  rw [List.map_map]; exact List.map_congr_left fun x _ => h x
end Go.Proofs.Ytllnmdmmmkoiaaa.Wx
