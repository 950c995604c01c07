/-
  More rules: tests as propositions, numbers of 64 bits.
-/
import Derived.Test.YtnaldcnihekniaaWr
namespace Go.Proofs.Ytnaldcnihekniaa.Wx
open Go Go.RowKit
set_option linter.unusedVariables false

theorem spB_cong {b b' : Bool} {A B : Prop} (e : b = b') (h : spB b' A B) : spB b A B := by rw [e]; exact h
theorem spB_dec {p : Prop} [Decidable p] {A B : Prop} (h1 : p → A) (h2 : ¬ p → B) : spB (decide p) A B := ⟨fun h => h1 (of_decide_eq_true h), fun h => h2 (of_decide_eq_false h)⟩
theorem spB_beq {α : Type} [DecidableEq α] {x y : α} {A B : Prop} (h1 : x = y → A) (h2 : ¬ x = y → B) : spB (x == y) A B := ⟨fun h => h1 (by simpa using h), fun h => h2 (by simpa using h)⟩
theorem spB_bne {α : Type} [DecidableEq α] {x y : α} {A B : Prop} (h1 : ¬ x = y → A) (h2 : x = y → B) : spB (x != y) A B := ⟨fun h => h1 (by simpa using h), fun h => h2 (by simpa using h)⟩
theorem spB_not {b : Bool} {A B : Prop} (h : spB b B A) : spB (!b) A B := ⟨fun hh => h.f (by simpa using hh), fun hh => h.t (by simpa using hh)⟩
theorem u64_in (z : Int) (h : 0 ≤ z ∧ z ≤ 18446744073709551615) : IntKind.u64.wrap z = z := by
  simp [IntKind.wrap, IntKind.bits, IntKind.signed]
  omega
theorem wr_u64 {z : Int} {A : Int → Prop} (h1 : 0 ≤ z ∧ z ≤ 18446744073709551615) (h2 : A z) : wr .u64 z A := ⟨z, u64_in z h1, h2⟩
theorem u8_in (z : Int) (h : 0 ≤ z ∧ z ≤ 255) : IntKind.u8.wrap z = z := by
  simp [IntKind.wrap, IntKind.bits, IntKind.signed]
  omega
theorem wr_u8 {z : Int} {A : Int → Prop} (h1 : 0 ≤ z ∧ z ≤ 255) (h2 : A z) : wr .u8 z A := ⟨z, u8_in z h1, h2⟩
theorem u32_in (z : Int) (h : 0 ≤ z ∧ z ≤ 4294967295) : IntKind.u32.wrap z = z := by
  simp [IntKind.wrap, IntKind.bits, IntKind.signed]
  omega
theorem wr_u32 {z : Int} {A : Int → Prop} (h1 : 0 ≤ z ∧ z ≤ 4294967295) (h2 : A z) : wr .u32 z A := ⟨z, u32_in z h1, h2⟩
theorem wr_eq {k : IntKind} {z z' : Int} {A : Int → Prop} (h : z = z') (h2 : wr k z' A) : wr k z A := by rw [h]; exact h2
theorem eqN_dec {p : Prop} [Decidable p] {A : Prop} (h : p) (k : A) : eqN (decide p) true A := ⟨decide_eq_true h, k⟩
theorem wf_u64 {z : Int} (h : (Lit.int .u64 z).wf = true) : 0 ≤ z ∧ z ≤ 18446744073709551615 := by
  simp [Lit.wf, IntKind.min, IntKind.max, IntKind.signed, IntKind.bits] at h; omega
theorem wf_i64 {z : Int} (h : (Lit.int .i64 z).wf = true) : -9223372036854775808 ≤ z ∧ z ≤ 9223372036854775807 := by
  simp [Lit.wf, IntKind.min, IntKind.max, IntKind.signed, IntKind.bits] at h; omega
theorem wf_u8 {z : Int} (h : (Lit.int .u8 z).wf = true) : 0 ≤ z ∧ z ≤ 255 := by
  simp [Lit.wf, IntKind.min, IntKind.max, IntKind.signed, IntKind.bits] at h; omega
theorem wf_u32 {z : Int} (h : (Lit.int .u32 z).wf = true) : 0 ≤ z ∧ z ≤ 4294967295 := by
  simp [Lit.wf, IntKind.min, IntKind.max, IntKind.signed, IntKind.bits] at h; omega
theorem call_con2 {P : Program} {W : Wo} {m : Nat} {g : FuncId} {avs : List AV} {K : Kr} {top : Nat} {k : AV → Kr → Nat → Prop} {args : List A0} {post : AV → Kr → Nat → Prop} (hl : All2 (lowV (kg K)) avs args) (h : Con P g args post)
    (hk : ∀ x Kc tc, post x Kc tc → k (x.ren (top + ·)) (shK top Kc ++ K) (top + tc)) : CallP P W m g [] avs K top k := call_con h hl hk
theorem conN_mk2 {P : Program} {g : FuncId} {avs : List AV} {K : Kr} {top : Nat} {k : Eff → Prop} {args : List A0} {res : AV} {Kc : Kr} {tc : Nat} (hl : All2 (lowV (kg K)) avs args) (h : Con P g args (fun x K t => x = res ∧ K = Kc ∧ t = tc)) (hk : k ⟨res.ren (top + ·), avs.flatMap AV.refs, shK top Kc, top + tc⟩) : conN P g [] avs K top k :=
  conN_mk h hl hk
theorem vN_mk {z : Int} {A : Int → Prop} (h : A z) : vN z A := ⟨_, rfl, h⟩
theorem vN_mod {p q : Int} {A : Int → Prop} (hp : 0 ≤ p) (h : A (p % q)) : vN (p.tmod q) A := ⟨_, Int.tmod_eq_emod_of_nonneg hp, h⟩
theorem vN_shr {p : Int} {n : Nat} {A : Int → Prop} (hp : 0 ≤ p) (h : A (p / 2 ^ n)) : vN (p.fdiv (2 ^ n)) A := ⟨_, Int.fdiv_eq_ediv_of_nonneg _ (Int.le_of_lt (Int.pow_pos (by decide))), h⟩
theorem wr_quo {k : IntKind} {p q : Int} {A : Int → Prop} (hp : 0 ≤ p) (h : wr k (p / q) A) : wr k (p.tdiv q) A := by rw [Int.tdiv_eq_ediv_of_nonneg hp]; exact h
theorem ixN_nat {i m : Nat} {A : Nat → Prop} (h : i < m) (k : A i) : ixN (i : Int) m A := ⟨i, rfl, h, k⟩
theorem rowN_map {α : Type} {f : α → List RT} {xs : List α} {i : Nat} {A : List RT → Prop} (hi : i < xs.length) (h : ∀ x, xs[i]? = some x → A (f x)) : rowN (xs.map f) i A :=
  ⟨f xs[i], by simp [hi], h _ (List.getElem?_eq_getElem hi)⟩
theorem rows_map {e : TD} {α : Type} (en : α → List RT) (ok : α → Prop) (h : ∀ row, RowF e row → ∃ x, row = en x ∧ ok x) : ∀ rows : List (List RT), (∀ row ∈ rows, RowF e row) → ∃ xs : List α, rows = xs.map en ∧ ∀ x ∈ xs, ok x
  | [], _ => ⟨[], rfl, by simp⟩
  | r :: rows, hr => by
    obtain ⟨x, rfl, hx⟩ := h r (hr r List.mem_cons_self)
    obtain ⟨xs, rfl, hxs⟩ := rows_map en ok h rows fun row hrow => hr row (List.mem_cons_of_mem _ hrow)
    exact ⟨x :: xs, rfl, fun y hy => by
      rcases List.mem_cons.1 hy with rfl | hy
      · exact hx
      · exact hxs y hy⟩
theorem fit_ints {k : IntKind} {te : Nat} {a : A0} (h : FitA (.sl (.int k) te 1) a) : ∃ zs : List Int, a = .one (.ro false 1 (zs.map fun z => [RT.v (.int k z)])) ∧ zs.length ≤ maxLen ∧ ∀ z ∈ zs, (Lit.int k z).wf = true := by
  obtain ⟨r, ⟨rows, hr, hl, hrows⟩, rfl⟩ := h
  simp only [List.cons.injEq, and_true] at hr
  subst hr
  obtain ⟨zs, rfl, hz⟩ := rows_map (e := .int k) (fun z => [RT.v (.int k z)]) (fun z => (Lit.int k z).wf = true) (fun row hrow => hrow) rows hrows
  exact ⟨zs, rfl, by simpa using hl, hz⟩
theorem fit_int {k : IntKind} {a : A0} (h : FitA (.int k) a) : ∃ z, a = .one (.v (.int k z)) ∧ (Lit.int k z).wf = true := by
  obtain ⟨r, ⟨z, hr, hz⟩, rfl⟩ := h
  simp only [List.cons.injEq, and_true] at hr
  subst hr
  exact ⟨z, rfl, hz⟩
theorem fit_bool {a : A0} (h : FitA .bool a) : ∃ z, a = .one (.v (.bool z)) := by
  obtain ⟨r, ⟨z, hr⟩, rfl⟩ := h
  simp only [List.cons.injEq, and_true] at hr
  subst hr
  exact ⟨z, rfl⟩
theorem fit_iarr {n : Nat} {k : IntKind} {te : Nat} {a : A0} (h : FitA (.arr n (.int k) te 1) a) : ∃ zs : List Int, a = .agg (zs.map fun z => Ce.v (.int k z)) ∧ zs.length = n ∧ ∀ z ∈ zs, (Lit.int k z).wf = true := by
  obtain ⟨row, ⟨rows, rfl, hn, hrows⟩, rfl⟩ := h
  obtain ⟨zs, rfl, hz⟩ := rows_map (e := .int k) (fun z => [RT.v (.int k z)]) (fun z => (Lit.int k z).wf = true) (fun row hrow => hrow) rows (fun row hr => (hrows row hr).1)
  refine ⟨zs, ?_, by simpa using hn, hz⟩
  congr 1
  clear hn hrows hz
  induction zs with
  | nil => rfl
  | cons z zs ih => simp only [List.map_cons, List.flatten_cons, List.cons_append, List.nil_append, ih]; rfl
theorem len2 {α : Type} {l : List α} (h : l.length = 2) : ∃ a b, l = [a, b] := by
  match l, h with
  | [a, b], _ => exact ⟨a, b, rfl⟩
theorem rv_bool {a b : Bool} (h : a = b) : retV [.one (.v (.bool a))] = .val (.bool b) := by rw [h]; rfl
theorem rv_int {k : IntKind} {a b : Int} (h : a = b) : retV [.one (.v (.int k a))] = .val (.int k b) := by rw [h]; rfl
theorem rv_ii {k l : IntKind} {a b c d : Int} (h : a = b) (h2 : c = d) : retV [.one (.v (.int k a)), .one (.v (.int l c))] = .tup [.one (.v (.int k b)), .one (.v (.int l d))] := by rw [h, h2]; rfl
theorem rv_ib {k : IntKind} {a b : Int} {c d : Bool} (h : a = b) (h2 : c = d) : retV [.one (.v (.int k a)), .one (.v (.bool c))] = .tup [.one (.v (.int k b)), .one (.v (.bool d))] := by rw [h, h2]; rfl
theorem bool_t {p : Prop} [Decidable p] (h : p) : true = decide p := (decide_eq_true h).symm
theorem bool_f {p : Prop} [Decidable p] (h : ¬ p) : false = decide p := (decide_eq_false h).symm
theorem bool_p {p q : Prop} [Decidable p] [Decidable q] (h : p ↔ q) : decide p = decide q := decide_eq_decide.2 h
end Go.Proofs.Ytnaldcnihekniaa.Wx
