/-
  The second layer: a region that draws its order.
-/
import Derived.Test.YtllnmdmmmkoiaaaWu
namespace Go.Proofs.Ytllnmdmmmkoiaaa.Wx.Y
open Go Go.RowKit
set_option linter.unusedVariables false

theorem St.put {n : Nat} {W : Wo} {F : Nat → Option AV} {K K' : Nat → Option Ob} {I I' : IM} {R R' : RM} {a : Act} {w w' : World} {d : Option Nat} {x : AV} {v : Value} (h : St n W F K I R a w) (hI : IExt I I') (hR : RExt R R') (hw : Wz W K' I' R' w') (hm : Mk W a.defers w') (hd : dstB n d = true) (hx : x.rel I' R' v) : St n W (fput F d x) K' I' R' (a.put d v) w' := by
  cases d with
  | none => exact ⟨h.size, hm, fun t y hy => AV.mono hI hR (h.fr t y hy), hw⟩
  | some d =>
    have hlt : d < a.tmps.size := by rw [h.size]; simpa [dstB, Nat.blt_eq] using hd
    refine ⟨by simp [Act.put, h.size], hm, fun t y hy => ?_, hw⟩
    simp only [fput] at hy
    simp only [Act.eval, Act.put, Array.getD_eq_getD_getElem?]
    split at hy
    · rename_i he
      simp only [Option.some.injEq] at hy
      subst he hy
      rw [Array.getElem?_setIfInBounds_self_of_lt hlt]
      exact hx
    · rename_i he
      rw [Array.getElem?_setIfInBounds_ne (fun e => he e.symm)]
      have := AV.mono hI hR (h.fr t y hy)
      simpa [Act.eval, Array.getD_eq_getD_getElem?] using this
theorem Wz.grow {W : Wo} {K : Nat → Option Ob} {I : IM} {R : RM} {w w' : World} (h : Wz W K I R w) (hb : Below w.heap.size w w') : Wz W K I R w' := by
  refine ⟨h.wd.grow hb, fun i o hi hn => ?_, h.inj⟩
  obtain ⟨p, hp, ho, hz⟩ := h.ob i o hi hn
  obtain ⟨x, hx, _⟩ := ho.kind hn
  exact ⟨p, hp, ho.mono (.refl _) (.refl _) (hb.block _ (Array.getElem?_eq_some_iff.1 hx).1), hz⟩
theorem St.grow {n : Nat} {W : Wo} {F : Nat → Option AV} {K : Nat → Option Ob} {I : IM} {R : RM} {a : Act} {w w' : World} (h : St n W F K I R a w) (hb : Below w.heap.size w w') : St n W F K I R a w' :=
  ⟨h.size, h.mks.mono fun D hD => hb.block _ (Array.getElem?_eq_some_iff.1 hD).1, h.fr, h.wz.grow hb⟩
structure Ent where
  o : Oper
  sk : Bool
  e : Eff
  top : Nat
def gF (x : Ent) (t : Nat) (v : Option AV) : Option AV := if x.o.dst = some t then some x.e.av else v
def kup1 : Kr → Nat → Option Ob → Option Ob
  | [], _, v => v
  | (i, b) :: r, t, v => if t = i then b else kup1 r t v
def gK (x : Ent) (t : Nat) (v : Option Ob) : Option Ob := kup1 x.e.kw t v
theorem kup_one (K : Nat → Option Ob) : ∀ (kw : Kr) (t : Nat), kup K kw t = kup1 kw t (K t)
  | [], _ => rfl
  | (i, b) :: r, t => by simp only [kup, kup1]; split <;> first | rfl | exact kup_one K r t
theorem fput_one (F : Nat → Option AV) (x : Ent) (t : Nat) : fput F x.o.dst x.e.av t = gF x t (F t) := by
  unfold fput gF
  cases x.o.dst with
  | none => simp
  | some d => simp only [Option.some.injEq]; by_cases h : t = d
              · subst h; simp
              · rw [if_neg h, if_neg (fun e => h e.symm)]
section
variable {β : Type} (g : Ent → Nat → β → β)
def gv : List Ent → Nat → (Nat → Bool) → Nat → β → β
  | [], _, _, _, v => v
  | x :: xs, k, E, t, v => gv xs (k + 1) E t (if E k then g x t v else v)
theorem gv_congr {t : Nat} : ∀ (xs : List Ent) (k : Nat) (E E' : Nat → Bool) (v : β), (∀ j x, xs[j]? = some x → E (k + j) ≠ E' (k + j) → ∀ v, g x t v = v) → gv g xs k E t v = gv g xs k E' t v
  | [], _, _, _, _, _ => rfl
  | x :: xs, k, E, E', v, h => by
    simp only [gv]
    have h0 := h 0 x rfl
    have hv : (if E k then g x t v else v) = (if E' k then g x t v else v) := by
      by_cases he : E k = E' k
      · rw [he]
      · have := h0 he v
        cases h1 : E k <;> cases h2 : E' k <;> simp [this]
    rw [hv]
    exact gv_congr xs (k + 1) E E' _ fun j y hj => by have := h (j + 1) y (by simpa using hj); simpa [Nat.add_assoc, Nat.add_comm 1 j] using this
theorem gv_none {t : Nat} : ∀ (xs : List Ent) (k i : Nat) (v : β), i ≤ k → gv g xs k (fun j => decide (j < i)) t v = v
  | [], _, _, _, _ => rfl
  | x :: xs, k, i, v, h => by
    simp only [gv]
    rw [if_neg (by simp; omega)]
    exact gv_none xs (k + 1) i v (by omega)
theorem gv_succ {t : Nat} : ∀ (xs : List Ent) (k i : Nat) (x : Ent) (v : β), xs[i]? = some x → gv g xs k (fun j => decide (j < k + i + 1)) t v = g x t (gv g xs k (fun j => decide (j < k + i)) t v)
  | [], _, _, _, _, h => by simp at h
  | y :: xs, k, 0, x, v, h => by
    simp at h; subst h
    simp only [gv]
    rw [if_pos (by simp), if_neg (by simp), gv_none g xs (k + 1) (k + 0 + 1) _ (by omega), gv_none g xs (k + 1) (k + 0) _ (by omega)]
  | y :: xs, k, i + 1, x, v, h => by
    simp only [gv]
    rw [if_pos (by simp; omega), if_pos (by simp)]
    have := gv_succ (t := t) xs (k + 1) i x (g y t v) (by simpa using h)
    rw [show k + (i + 1) + 1 = k + 1 + i + 1 by omega, show k + (i + 1) = k + 1 + i by omega]
    exact this
end
abbrev fE (xs : List Ent) (E : Nat → Bool) (F : Nat → Option AV) : Nat → Option AV := fun t => gv gF xs 0 E t (F t)
abbrev kE (xs : List Ent) (E : Nat → Bool) (K : Nat → Option Ob) : Nat → Option Ob := fun t => gv gK xs 0 E t (K t)
/-- What an operation touches. -/
def kws (e : Eff) : List Nat := e.kw.map (·.1)
def clash (ops : Array Oper) (x y : Ent) : Bool :=
  (match x.o.dst with | some d => (reads ops y.o).contains d || y.o.dst == some d | none => false) ||
  (match y.o.dst with | some d => (reads ops x.o).contains d | none => false) ||
  (kws x.e).any (fun i => y.e.rd.contains i || (kws y.e).contains i) || x.e.rd.any (fun i => (kws y.e).contains i)
def apartB (ops : Array Oper) (xs : List Ent) : Bool :=
  let c := clo ops.toList
  backB ops.toList && xs.zipIdx.all fun q => (xs.take q.2).zipIdx.all fun p => !clash ops p.1 q.1 || (c.getD q.2 0).testBit p.2
theorem kup1_out : ∀ (kw : Kr) (t : Nat) (v : Option Ob), t ∉ kw.map (·.1) → kup1 kw t v = v
  | [], _, _, _ => rfl
  | (i, b) :: r, t, v, h => by
    simp only [List.map_cons, List.mem_cons, not_or] at h
    simp only [kup1]
    rw [if_neg h.1]
    exact kup1_out r t v h.2
theorem kup1_in : ∀ (kw : Kr) (t : Nat) (v v' : Option Ob), t ∈ kw.map (·.1) → kup1 kw t v = kup1 kw t v'
  | [], _, _, _, h => by simp at h
  | (i, b) :: r, t, v, v', h => by
    simp only [kup1]
    split
    · rfl
    · rename_i hne
      simp only [List.map_cons, List.mem_cons] at h
      rcases h with h | h
      · exact absurd h hne
      · exact kup1_in r t v v' h

section
variable {P : Program} {ops : Array Oper} {W : Wo} {n : Nat}
/-- What an entry owes. -/
def EntOk (P : Program) (ops : Array Oper) (n : Nat) (x : Ent) (F : Nat → Option AV) (K : Nat → Option Ob) : Prop :=
  dstB n x.o.dst = true ∧ x.top ≤ x.e.top ∧
  match x.sk with
  | true => x.e.av = .val undef ∧ x.e.kw = [] ∧ x.e.rd = [] ∧ x.e.top = x.top ∧ ∃ g want t, x.o.guard = some (g, want) ∧ (ops[g]?).bind (·.dst) = some t ∧ ((∃ b, F t = some (.val (.bool b)) ∧ (b == want) = false) ∨ ∃ l, F t = some (.val (.tuple l)))
  | false => OpEff P x.o F K x.top x.e ∧ (x.o.guard = none ∨ ∃ g want t b, x.o.guard = some (g, want) ∧ (ops[g]?).bind (·.dst) = some t ∧ F t = some (.val (.bool b)) ∧ (b == want) = true)
theorem wanted_guard' {F : Nat → Option AV} {K : Nat → Option Ob} {I : IM} {R : RM} {a : Act} {w : World} {o : Oper} {g t : Nat} {want b : Bool} (hg : o.guard = some (g, want)) (hd : (ops[g]?).bind (·.dst) = some t) (ht : F t = some (.val (.bool b))) (hs : St n W F K I R a w) :
    Region.wanted o (yielded ops a.tmps) = (b == want) := by
  have hv : a.eval (.tmp t) = .bool b := hs.fr t _ ht
  have hv' : a.tmps.getD t undef = .bool b := hv
  simp only [Array.getD_eq_getD_getElem?] at hv'
  have h3 : a.tmps[t]? = some (.bool b) := by
    cases hq : a.tmps[t]? with
    | none => rw [hq] at hv'; cases hv'
    | some z => rw [hq] at hv'; simp only [Option.getD_some] at hv'; rw [hv']
  simp [Region.wanted, hg, yielded, hd, h3]
theorem apart_spec {xs : List Ent} (h : apartB ops xs = true) : backB ops.toList = true ∧ ∀ i j x y, i < j → xs[i]? = some x → xs[j]? = some y → clash ops x y = true → ((clo ops.toList).getD j 0).testBit i = true := by
  unfold apartB at h
  simp only [Bool.and_eq_true, List.all_eq_true] at h
  refine ⟨h.1, fun i j x y hij hx hy hc => ?_⟩
  have h1 := h.2 (y, j) (by rw [List.mk_mem_zipIdx_iff_getElem?]; exact hy) (x, i) (by
    rw [List.mk_mem_zipIdx_iff_getElem?]
    simp only [List.getElem?_take, if_pos hij]; exact hx)
  simpa [hc] using h1
section
variable {β : Type} {g : Ent → Nat → β → β} {wr : Ent → Nat → Prop} (hw : ∀ x t, ¬ wr x t → ∀ v, g x t v = v) {xs : List Ent} {E : Nat → Bool} {i t : Nat} {x : Ent}
include hw in
theorem gv_at (hi : E i = false) (hlow : ∀ j y, j < i → xs[j]? = some y → wr y t → E j = true) (hhigh : ∀ j y, i < j → xs[j]? = some y → wr y t → E j = false) (v : β) : gv g xs 0 E t v = gv g xs 0 (fun j => decide (j < i)) t v := by
  refine gv_congr g xs 0 _ _ v fun j y hj hne => hw y t fun hwr => hne ?_
  rw [Nat.zero_add]
  rcases Nat.lt_trichotomy j i with h | h | h
  · rw [hlow j y h hj hwr]; simp [h]
  · subst h; rw [hi]; simp
  · rw [hhigh j y h hj hwr]; simp; omega
include hw in
theorem gv_set (hx : xs[i]? = some x) (hc : wr x t → ∀ v v', g x t v = g x t v') (hi : E i = false) (hlow : wr x t → ∀ j y, j < i → xs[j]? = some y → wr y t → E j = true) (hhigh : wr x t → ∀ j y, i < j → xs[j]? = some y → wr y t → E j = false) (v : β) :
    gv g xs 0 (fun j => if j = i then true else E j) t v = g x t (gv g xs 0 E t v) := by
  by_cases hwx : wr x t
  · have h1 : gv g xs 0 (fun j => if j = i then true else E j) t v = gv g xs 0 (fun j => decide (j < 0 + i + 1)) t v := by
      refine gv_congr g xs 0 _ _ v fun j y hj hne => hw y t fun hwr => hne ?_
      rw [Nat.zero_add]
      rcases Nat.lt_trichotomy j i with h | h | h
      · rw [if_neg (by omega), hlow hwx j y h hj hwr]; simp; omega
      · rw [if_pos h]; simp; omega
      · rw [if_neg (by omega), hhigh hwx j y h hj hwr]; simp; omega
    rw [h1, gv_succ g xs 0 i x v hx]
    exact hc hwx _ _
  · rw [hw x t hwx]
    refine gv_congr g xs 0 _ _ v fun j y hj hne => ?_
    rw [Nat.zero_add] at hne
    by_cases h : j = i
    · subst h; rw [hx] at hj; cases hj; exact hw _ _ hwx
    · rw [if_neg h] at hne; exact absurd rfl hne
end
theorem unwanted_guardA {F : Nat → Option AV} {K : Nat → Option Ob} {I : IM} {R : RM} {a : Act} {w : World} {o : Oper} {g t : Nat} {want : Bool} {l : Array Value} (hg : o.guard = some (g, want)) (hd : (ops[g]?).bind (·.dst) = some t) (ht : F t = some (.val (.tuple l))) (hs : St n W F K I R a w) :
    Region.wanted o (yielded ops a.tmps) = false := by
  have hv : a.eval (.tmp t) = .tuple l := hs.fr t _ ht
  have hv' : a.tmps.getD t undef = .tuple l := hv
  simp only [Array.getD_eq_getD_getElem?] at hv'
  cases hq : a.tmps[t]? with
  | none => simp [Region.wanted, hg, yielded, hd, hq]
  | some z =>
    rw [hq] at hv'
    simp only [Option.getD_some] at hv'
    subst hv'
    simp [Region.wanted, hg, yielded, hd, hq]
/-- A REGION THAT DRAWS ITS ORDER. -/
theorem draw_sound {r : Option Nat} {Q : Exit → Act → World → Prop} (xs : List Ent) (hxs : xs.map (·.o) = ops.toList) (hap : apartB ops xs = true) (F0 : Nat → Option AV) (K0 : Nat → Option Ob) (top0 topN : Nat) (hle : top0 ≤ topN)
    (hok : ∀ i x, xs[i]? = some x → EntOk P ops n x (fE xs (fun j => decide (j < i)) F0) (kE xs (fun j => decide (j < i)) K0))
    (htop : ∀ (i : Nat) (x : Ent), xs[i]? = some x → top0 ≤ x.top ∧ x.e.top ≤ topN) (hmono : ∀ (i j : Nat) (x y : Ent), i < j → xs[i]? = some x → xs[j]? = some y → x.e.top ≤ y.top)
    (I0 : IM) (R0 : RM) (hQ : ∀ I R a w, St n W (fE xs (fun _ => true) F0) (kE xs (fun _ => true) K0) I R a w → (∀ j, topN ≤ j → I j = none) → (∀ j, j < top0 → I j = I0 j) → RExt R0 R → Q .normal a w) :
    ∀ (fuel : Nat) (listed : Array Bool) (I : IM) (R : RM) (a : Act) (w : World), listed.size = ops.size → Down ops (fun i => listed.getD i false) → cnt ops.size (fun i => !listed.getD i false) ≤ fuel →
      St n W (fE xs (fun i => listed.getD i false) F0) (kE xs (fun i => listed.getD i false) K0) I R a w →
      (∀ j, top0 ≤ j → (∀ (i : Nat) (x : Ent), xs[i]? = some x → listed.getD i false = true → ¬ (x.top ≤ j ∧ j < x.e.top)) → I j = none) → (∀ j, j < top0 → I j = I0 j) → RExt R0 R →
      wpAnyIn (fr r) 0 P .any ops Q fuel listed a w := by
  obtain ⟨hback, hclash⟩ := apart_spec hap
  have hlen : xs.length = ops.size := by have := congrArg List.length hxs; simpa using this
  have opAt : ∀ (i : Nat) (x : Ent), xs[i]? = some x → ops[i]? = some x.o := fun i x hx => by
    have : (xs.map (·.o))[i]? = some x.o := by simp [hx]
    rw [hxs] at this; simpa using this
  have fin : ∀ (listed : Array Bool) (I : IM) (R : RM) (a : Act) (w : World), (∀ i, i < ops.size → listed.getD i false = true) →
      St n W (fE xs (fun i => listed.getD i false) F0) (kE xs (fun i => listed.getD i false) K0) I R a w →
      (∀ j, top0 ≤ j → (∀ (i : Nat) (x : Ent), xs[i]? = some x → listed.getD i false = true → ¬ (x.top ≤ j ∧ j < x.e.top)) → I j = none) → (∀ j, j < top0 → I j = I0 j) → RExt R0 R → Q .normal a w := by
    intro listed I R a w hall hs hd hI hR
    have e1 : fE xs (fun i => listed.getD i false) F0 = fE xs (fun _ => true) F0 := by
      funext t
      refine gv_congr gF xs 0 _ _ _ fun j x hj hne => absurd ?_ hne
      have := (List.getElem?_eq_some_iff.1 hj).1
      rw [Nat.zero_add]; exact hall j (by omega)
    have e2 : kE xs (fun i => listed.getD i false) K0 = kE xs (fun _ => true) K0 := by
      funext t
      refine gv_congr gK xs 0 _ _ _ fun j x hj hne => absurd ?_ hne
      have := (List.getElem?_eq_some_iff.1 hj).1
      rw [Nat.zero_add]; exact hall j (by omega)
    rw [e1, e2] at hs
    exact hQ I R a w hs (fun j hj => hd j (by omega) fun i x hx _ h => by have := (htop i x hx).2; omega) hI hR
  have ready_all : ∀ (listed : Array Bool), listed.size = ops.size → Region.ready .any ops listed = [] → ∀ i, i < ops.size → listed.getD i false = true := by
    intro listed hsz hr i
    induction i using Nat.strongRecOn with
    | ind i ih =>
      intro hi
      cases hq : listed.getD i false with
      | true => rfl
      | false =>
        have hmem : i ∈ Region.ready .any ops listed := by
          refine mem_ready.2 ⟨?_, ops[i], Array.getElem?_eq_getElem hi, fun e he hb => ?_⟩
          · have hi' : i < listed.size := by omega
            simp only [Array.getD_eq_getD_getElem?, Array.getElem?_eq_getElem hi', Option.getD_some] at hq ⊢
            exact hq
          · have h1 : (ops[i], i) ∈ ops.toList.zipIdx := by rw [List.mk_mem_zipIdx_iff_getElem?]; simp [hi]
            have h2 := List.all_eq_true.1 hback _ h1
            have h3 := List.all_eq_true.1 h2 e (by simpa using he)
            simp only [hb, Bool.not_true, Bool.false_or, Nat.blt_eq] at h3
            exact ih e.on h3 (by omega)
        rw [hr] at hmem; cases hmem
  intro fuel
  induction fuel with
  | zero =>
    intro listed I R a w hsz hD hcnt hs hd hI hR
    have hall : ∀ i, i < ops.size → listed.getD i false = true := fun i hi => by
      have := cnt_zero _ (Nat.le_zero.1 hcnt) i hi
      simpa using this
    refine ⟨?_, fin listed I R a w hall hs hd hI hR⟩
    cases hr : Region.ready .any ops listed with
    | nil => rfl
    | cons i r =>
      have hi : i ∈ Region.ready .any ops listed := by rw [hr]; exact List.mem_cons_self
      obtain ⟨h1, o, h2, _⟩ := mem_ready.1 hi
      have hlt := (Array.getElem?_eq_some_iff.1 h2).1
      have := hall i hlt
      have hi' : i < listed.size := by omega
      simp only [Array.getD_eq_getD_getElem?, Array.getElem?_eq_getElem hi', Option.getD_some] at this h1
      rw [this] at h1; cases h1
  | succ fuel ih =>
    intro listed I R a w hsz hD hcnt hs hd hI hR
    refine ⟨fun hr => fin listed I R a w (ready_all listed hsz hr) hs hd hI hR, fun i hi => ?_⟩
    obtain ⟨hun, o, ho, hpre⟩ := mem_ready.1 hi
    have hlt := (Array.getElem?_eq_some_iff.1 ho).1
    have hi' : i < listed.size := by omega
    have hEi : listed.getD i false = false := by
      simp only [Array.getD_eq_getD_getElem?, Array.getElem?_eq_getElem hi', Option.getD_some] at hun ⊢
      exact hun
    obtain ⟨x, hx⟩ : ∃ x, xs[i]? = some x := ⟨xs[i], List.getElem?_eq_getElem (by omega)⟩
    have hxo : x.o = o := by have := opAt i x hx; rw [ho] at this; cases this; rfl
    have hset := getD_set hi'
    have low : ∀ (j : Nat) (y : Ent), j < i → xs[j]? = some y → clash ops y x = true → listed.getD j false = true := fun j y hj hy hc => by
      have hb := hclash j i y x hj hy hx hc
      obtain ⟨e, g1, g2, g3⟩ := (clo_spec ops.toList).2 i o (by simpa using ho) j hb
      have he := hpre e g1 g2
      rcases g3 with rfl | ⟨hlt', h⟩
      · exact he
      · exact down_clo hD e.on ops[e.on] (Array.getElem?_eq_getElem (by omega)) he j h
    have high : ∀ (j : Nat) (y : Ent), i < j → xs[j]? = some y → clash ops x y = true → listed.getD j false = false := fun j y hj hy hc => by
      have hb := hclash i j x y hj hx hy hc
      cases hq : listed.getD j false with
      | false => rfl
      | true =>
        have := down_clo hD j y.o (opAt j y hy) hq i hb
        rw [hEi] at this; cases this
    have hwF : ∀ (x : Ent) (t : Nat), ¬ x.o.dst = some t → ∀ v, gF x t v = v := fun x t h v => by simp [gF, h]
    have hwK : ∀ (x : Ent) (t : Nat), ¬ t ∈ kws x.e → ∀ v, gK x t v = v := fun x t h v => kup1_out _ _ _ h
    have slot : ∀ t, t ∈ reads ops x.o → fE xs (fun j => listed.getD j false) F0 t = fE xs (fun j => decide (j < i)) F0 t := fun t ht => by
      refine gv_at hwF hEi (fun j y hj hy hd => low j y hj hy ?_) (fun j y hj hy hd => high j y hj hy ?_) _
      · simp [clash, hd, ht]
      · simp [clash, hd, ht]
    have blk : ∀ t, t ∈ x.e.rd → kE xs (fun j => listed.getD j false) K0 t = kE xs (fun j => decide (j < i)) K0 t := fun t ht => by
      refine gv_at hwK hEi (fun j y hj hy hd => low j y hj hy ?_) (fun j y hj hy hd => high j y hj hy ?_) _
      · simp only [clash, Bool.or_eq_true, List.any_eq_true]
        exact .inl (.inr ⟨t, hd, by simp [ht]⟩)
      · simp only [clash, Bool.or_eq_true, List.any_eq_true]
        exact .inr ⟨t, ht, by simpa using hd⟩
    have newF : fE xs (fun j => (listed.setIfInBounds i true).getD j false) F0 = fput (fE xs (fun j => listed.getD j false) F0) x.o.dst x.e.av := by
      rw [hset]
      funext t
      rw [fput_one]
      refine gv_set hwF hx (fun h v v' => by simp [gF, h]) hEi (fun hd j y hj hy hd' => low j y hj hy ?_) (fun hd j y hj hy hd' => high j y hj hy ?_) _
      · simp [clash, hd, hd']
      · simp [clash, hd, hd']
    have newK : kE xs (fun j => (listed.setIfInBounds i true).getD j false) K0 = kup (kE xs (fun j => listed.getD j false) K0) x.e.kw := by
      rw [hset]
      funext t
      rw [kup_one]
      refine gv_set hwK hx (fun h v v' => kup1_in _ _ _ _ h) hEi (fun hd j y hj hy hd' => low j y hj hy ?_) (fun hd j y hj hy hd' => high j y hj hy ?_) _
      · simp only [clash, Bool.or_eq_true, List.any_eq_true]
        exact .inl (.inr ⟨t, hd', by simp [hd]⟩)
      · simp only [clash, Bool.or_eq_true, List.any_eq_true]
        exact .inl (.inr ⟨t, hd, by simp [hd']⟩)
    have hsz' : (listed.setIfInBounds i true).size = ops.size := by simpa using hsz
    have hD' : Down ops (fun j => (listed.setIfInBounds i true).getD j false) := by
      rw [hset]
      intro j oj hj hE e he hb
      by_cases hji : j = i
      · subst hji
        rw [ho] at hj; cases hj
        have h0 := hpre e he hb
        show (if e.on = j then true else listed.getD e.on false) = true
        rw [h0]; split <;> rfl
      · simp only [if_neg hji] at hE
        have h0 : listed.getD e.on false = true := hD j oj hj hE e he hb
        show (if e.on = i then true else listed.getD e.on false) = true
        rw [h0]; split <;> rfl
    have hcnt' : cnt ops.size (fun j => !(listed.setIfInBounds i true).getD j false) ≤ fuel := by
      have := cnt_set (p := fun j => !listed.getD j false) (q := fun j => !(listed.setIfInBounds i true).getD j false) ops.size hlt (by simp [hEi]) (by have h9 : (listed.setIfInBounds i true).getD i false = if i = i then true else listed.getD i false := congrFun hset i; rw [h9]; simp) (fun j hj => by have h9 : (listed.setIfInBounds i true).getD j false = if j = i then true else listed.getD j false := congrFun hset j; rw [h9, if_neg hj])
      omega
    have hfree : ∀ j, x.top ≤ j → j < x.e.top → I j = none := fun j h1 h2 => by
      refine hd j (by have := (htop i x hx).1; omega) fun i' x' hx' hE' hr => ?_
      rcases Nat.lt_trichotomy i' i with h | h | h
      · have := hmono i' i x' x h hx' hx; omega
      · subst h; rw [hEi] at hE'; cases hE'
      · have := hmono i i' x x' h hx hx'; omega
    have on : ∀ I' R' a' w', St n W (fput (fE xs (fun j => listed.getD j false) F0) x.o.dst x.e.av) (kup (kE xs (fun j => listed.getD j false) K0) x.e.kw) I' R' a' w' → (∀ j, ¬ (x.top ≤ j ∧ j < x.e.top) → I' j = I j) → RExt R R' →
        wpAnyIn (fr r) 0 P .any ops Q fuel (listed.setIfInBounds i true) a' w' := by
      intro I' R' a' w' hs' hI' hR'
      refine ih _ I' R' a' w' hsz' hD' hcnt' (by rw [newF, newK]; exact hs') ?_ ?_ (hR.trans hR')
      · intro j hj hno
        have h1 : ¬ (x.top ≤ j ∧ j < x.e.top) := hno i x hx (by have h9 : (listed.setIfInBounds i true).getD i false = if i = i then true else listed.getD i false := congrFun hset i; rw [h9]; simp)
        rw [hI' j h1]
        refine hd j hj fun i' x' hx' hE' => hno i' x' hx' ?_
        have h9 : (listed.setIfInBounds i true).getD i' false = if i' = i then true else listed.getD i' false := congrFun hset i'
        rw [h9, hE']; split <;> rfl
      · intro j hj
        rw [hI' j (by have := (htop i x hx).1; omega)]
        exact hI j hj
    obtain ⟨k1, k2, k3⟩ := hok i x hx
    unfold wpOpIn
    simp only [ho]
    subst hxo
    cases hsk : x.sk with
    | true =>
      rw [hsk] at k3
      simp only at k3
      obtain ⟨e1, e2, e3, e4, g, want, t, h1, h2, h3⟩ := k3
      have hwant : Region.wanted x.o (yielded ops a.tmps) = false := by
        rcases h3 with ⟨b, h3, h4⟩ | ⟨l, h3⟩
        · rw [wanted_guard' h1 h2 ((slot t (reads_guard h1 h2)).trans h3) hs, h4]
        · exact unwanted_guardA h1 h2 ((slot t (reads_guard h1 h2)).trans h3) hs
      rw [if_neg (by rw [hwant]; simp)]
      refine ⟨fun _ _ => trivial, on I R _ w ?_ (fun _ _ => rfl) (.refl _)⟩
      rw [e1, e2]
      exact hs.put (.refl _) (.refl _) hs.wz hs.mks k1 rfl
    | false =>
      rw [hsk] at k3
      simp only at k3
      obtain ⟨he, hg⟩ := k3
      have hwant : Region.wanted x.o (yielded ops a.tmps) = true := by
        rcases hg with hg | ⟨g, want, t, b, h1, h2, h3, h4⟩
        · simp [Region.wanted, hg]
        · rw [wanted_guard' h1 h2 ((slot t (reads_guard h1 h2)).trans h3) hs, h4]
      rw [if_pos hwant]
      refine he r n W _ _ I R a w hs ?_ blk (fun j h1 h2 => ⟨hfree j h1 h2, ?_⟩) k1 _ Q fun I' R' a' w' h1 h2 h3 h4 => on I' R' a' w' h1 h3 h4
      · intro y hy
        cases y with
        | tmp t => exact slot t (reads_op hy)
        | _ => rfl
      · cases hq : kE xs (fun j => listed.getD j false) K0 j with
        | none => rfl
        | some b => obtain ⟨p, hp⟩ := hs.dom hq; rw [hfree j h1 h2] at hp; cases hp
end
section
variable {P : Program} {n : Nat} {ops : Array Oper}
def Chain (P : Program) (ops : Array Oper) (n : Nat) : List Ent → (Nat → Option AV) → (Nat → Option Ob) → Nat → (Nat → Option AV) → (Nat → Option Ob) → Nat → Prop
  | [], F, K, top, F', K', top' => F = F' ∧ K = K' ∧ top = top'
  | x :: xs, F, K, top, F', K', top' => EntOk P ops n x F K ∧ x.top = top ∧ Chain P ops n xs (fput F x.o.dst x.e.av) (kup K x.e.kw) x.e.top F' K' top'
theorem gv_shift {β : Type} (g : Ent → Nat → β → β) {t : Nat} : ∀ (xs : List Ent) (k : Nat) (E : Nat → Bool) (v : β), gv g xs (k + 1) E t v = gv g xs k (fun j => E (j + 1)) t v
  | [], _, _, _ => rfl
  | x :: xs, k, E, v => by simp only [gv]; exact gv_shift g xs (k + 1) E _
theorem Chain.at : ∀ {xs : List Ent} {F : Nat → Option AV} {K : Nat → Option Ob} {top : Nat} {F' : Nat → Option AV} {K' : Nat → Option Ob} {top' : Nat}, Chain P ops n xs F K top F' K' top' →
    (∀ (i : Nat) (x : Ent), xs[i]? = some x → EntOk P ops n x (fE xs (fun j => decide (j < i)) F) (kE xs (fun j => decide (j < i)) K)) ∧ fE xs (fun _ => true) F = F' ∧ kE xs (fun _ => true) K = K' ∧ top ≤ top' ∧
    (∀ (i : Nat) (x : Ent), xs[i]? = some x → top ≤ x.top ∧ x.e.top ≤ top') ∧ (∀ (i j : Nat) (x y : Ent), i < j → xs[i]? = some x → xs[j]? = some y → x.e.top ≤ y.top)
  | [], F, K, top, F', K', top', h => by
    obtain ⟨rfl, rfl, rfl⟩ := h
    exact ⟨fun i x h => (by simp at h), rfl, rfl, Nat.le_refl _, fun i x h => (by simp at h), fun i j x y _ h => (by simp at h)⟩
  | x :: xs, F, K, top, F', K', top', h => by
    obtain ⟨h1, rfl, h3⟩ := h
    obtain ⟨g1, g2, g3, g4, g5, g6⟩ := h3.at
    have hF : (fun t => gF x t (F t)) = fput F x.o.dst x.e.av := by funext t; rw [fput_one]
    have hK : (fun t => gK x t (K t)) = kup K x.e.kw := by funext t; rw [kup_one]; rfl
    have hle := h1.2.1
    refine ⟨?_, ?_, ?_, Nat.le_trans hle g4, ?_, ?_⟩
    · intro i y hy
      cases i with
      | zero =>
        simp at hy; subst hy
        have e1 : fE (x :: xs) (fun j => decide (j < 0)) F = F := by funext t; exact gv_none gF (x :: xs) 0 0 _ (Nat.le_refl _)
        have e2 : kE (x :: xs) (fun j => decide (j < 0)) K = K := by funext t; exact gv_none gK (x :: xs) 0 0 _ (Nat.le_refl _)
        rw [e1, e2]; exact h1
      | succ i =>
        have e1 : fE (x :: xs) (fun j => decide (j < i + 1)) F = fE xs (fun j => decide (j < i)) (fput F x.o.dst x.e.av) := by
          rw [← hF]; funext t
          show gv gF xs (0 + 1) _ t (if decide (0 < i + 1) = true then gF x t (F t) else F t) = _
          rw [if_pos (by simp), gv_shift]
          congr 1; funext j; simp
        have e2 : kE (x :: xs) (fun j => decide (j < i + 1)) K = kE xs (fun j => decide (j < i)) (kup K x.e.kw) := by
          rw [← hK]; funext t
          show gv gK xs (0 + 1) _ t (if decide (0 < i + 1) = true then gK x t (K t) else K t) = _
          rw [if_pos (by simp), gv_shift]
          congr 1; funext j; simp
        rw [e1, e2]
        exact g1 i y (by simpa using hy)
    · rw [← g2, ← hF]; funext t
      show gv gF xs (0 + 1) _ t (if true = true then gF x t (F t) else F t) = _
      rw [if_pos rfl, gv_shift]
    · rw [← g3, ← hK]; funext t
      show gv gK xs (0 + 1) _ t (if true = true then gK x t (K t) else K t) = _
      rw [if_pos rfl, gv_shift]
    · intro i y hy
      cases i with
      | zero => simp at hy; subst hy; exact ⟨Nat.le_refl _, g4⟩
      | succ i => have := g5 i y (by simpa using hy); exact ⟨Nat.le_trans hle this.1, this.2⟩
    · intro i j y z hij hy hz
      cases j with
      | zero => omega
      | succ j =>
        cases i with
        | zero => simp at hy; subst hy; exact (g5 j z (by simpa using hz)).1
        | succ i => exact g6 i j y z (by omega) (by simpa using hy) (by simpa using hz)
theorem chain_region {r : Option Nat} (hmix : P.follows .mixedOrders = true) {id : Nat} {xs : List Ent} {F F' : Nat → Option AV} {K K' : Nat → Option Ob} {top top' : Nat} (h1 : xs.map (·.o) = ops.toList) (h2 : Chain P ops n xs F K top F' K' top') (hap : apartB ops xs = true)
    {W : Wo} {I : IM} {R : RM} {a : Act} {w : World} (hs : St n W F K I R a w) (hd : ∀ j, top ≤ j → I j = none) {Q : Exit → Act → World → Prop} (hQ : ∀ a' w' I' R', St n W F' K' I' R' a' w' → (∀ j, top' ≤ j → I' j = none) → (∀ j, j < top → I' j = I j) → RExt R R' → Q .normal a' w') :
    (Code.region id ops true).wpIn (fr r) 0 P Q a w := by
  obtain ⟨g1, g2, g3, g4, g5, g6⟩ := h2.at
  have hemp : ∀ i, (Array.replicate ops.size false).getD i false = false := fun i => by
    simp only [Array.getD_eq_getD_getElem?, Array.getElem?_replicate]
    split <;> rfl
  have hfalse : ∀ {β : Type} (g : Ent → Nat → β → β) (t : Nat) (v : β), gv g xs 0 (fun i => (Array.replicate ops.size false).getD i false) t v = v := fun g t v => by
    rw [gv_congr g xs 0 _ (fun j => decide (j < 0)) v (fun j x _ hne => absurd (by rw [hemp]; simp) hne)]
    exact gv_none g xs 0 0 v (Nat.le_refl _)
  have e1 : fE xs (fun i => (Array.replicate ops.size false).getD i false) F = F := by funext t; exact hfalse gF t _
  have e2 : kE xs (fun i => (Array.replicate ops.size false).getD i false) K = K := by funext t; exact hfalse gK t _
  refine wpIn_region_any hmix (draw_sound (W := W) xs h1 hap F K top top' g4 g1 g5 g6 I R ?_ ops.size _ I R a { w with drawn := w.drawn + 1 } (by simp) ?_ ?_ ?_ (fun j hj _ => hd j hj) (fun _ _ => rfl) (.refl _))
  · intro I' R' a' w' hs' hd' hI hR
    rw [g2, g3] at hs'
    exact hQ a' w' I' R' hs' hd' hI hR
  · intro i o _ hE
    simp only [hemp] at hE
    cases hE
  · have : ∀ (N : Nat) (p : Nat → Bool), cnt N p ≤ N := by
      intro N
      induction N with
      | zero => intro p; exact Nat.le_refl _
      | succ N ih => intro p; have := ih p; simp only [cnt]; split <;> omega
    exact this _ _
  · rw [e1, e2]
    exact hs.grow ((Below.refl _ w).drew)
theorem kup_out' {K : Nat → Option Ob} : ∀ {kw : Kr} {j : Nat}, j ∉ kw.map (·.1) → kup K kw j = K j
  | [], j, _ => rfl
  | (i, b) :: r, j, h => by
    simp only [List.map_cons, List.mem_cons, not_or] at h
    simp only [kup]
    rw [if_neg h.1]
    exact kup_out' h.2
end
end Go.Proofs.Ytllnmdmmmkoiaaa.Wx.Y
