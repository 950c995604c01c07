import Derived.Test.YtgdkhdooekmfgaaWf0
import Derived.Test.YtgdkhdooekmfgaaWs
import Derived.Test.YtgdkhdooekmfgaaWzc
import Derived.Test.YtgdkhdooekmfgaaWzd
import Derived.Test.YtgdkhdooekmfgaaWze
import Derived.Test.YtgdkhdooekmfgaaWy
namespace Go.Proofs.Ytgdkhdooekmfgaa
open Go Go.RowKit Wx
set_option linter.unusedVariables false
set_option linter.unusedSimpArgs false
set_option maxHeartbeats 4000000
structure Pu where
  wk : Int
  heard : Int
  down : Bool
deriving DecidableEq
abbrev eP (x : Pu) : List RT := [RT.v (.int .i64 x.wk), RT.v (.int .i64 x.heard), RT.v (.bool x.down)]
abbrev cP (x : Pu) : List Ce := [Ce.v (.int .i64 x.wk), Ce.v (.int .i64 x.heard), Ce.v (.bool x.down)]
abbrev eI (z : Int) : List RT := [RT.v (.int .i64 z)]
abbrev cI (z : Int) : List Ce := [Ce.v (.int .i64 z)]
def okP (now span last : Int) (p : Pu) : Bool := decide (last < p.wk ∧ p.wk ≤ 4 ∧ 0 ≤ p.heard ∧ p.heard ≤ now ∧ (p.down = false → now < p.heard + span))
def okL (now span : Int) : Int → List Pu → Bool
  | _, [] => true
  | last, p :: ps => okP now span last p && okL now span p.wk ps
def okH (now span : Int) (l : List Pu) : Bool := decide ((0 ≤ now ∧ now ≤ 1099511627776) ∧ 1 ≤ span ∧ span ≤ 100) && okL now span 0 l
def srch (t : Int) (ps : List Pu) : Nat := ps.findIdx (fun p => decide (t ≤ p.wk))
def srt (ps : List Pu) : Prop := ∀ (i j : Nat) (x y : Pu), i < j → ps[i]? = some x → ps[j]? = some y → x.wk < y.wk
theorem srch_eq {t : Int} : ∀ {ps : List Pu} {i : Nat}, i ≤ ps.length → (∀ (k : Nat) (x : Pu), k < i → ps[k]? = some x → x.wk < t) → (∀ x, ps[i]? = some x → t ≤ x.wk) → srch t ps = i
  | [], i, h, _, _ => by have : i = 0 := by simpa using h
                         subst this; rfl
  | p :: ps, 0, _, _, h2 => by
    have := h2 p rfl
    simp [srch, List.findIdx_cons, this]
  | p :: ps, i + 1, h, h1, h2 => by
    have hp := h1 0 p (Nat.zero_lt_succ _) rfl
    have := srch_eq (t := t) (ps := ps) (i := i) (by simpa using h) (fun k x hk hx => h1 (k + 1) x (Nat.succ_lt_succ hk) (by simpa using hx)) (fun x hx => h2 x (by simpa using hx))
    unfold srch at this ⊢
    rw [List.findIdx_cons, decide_eq_false (by omega), this]; rfl
theorem okL_gt {now span : Int} : ∀ {ps : List Pu} {last : Int}, okL now span last ps = true → ∀ (j : Nat) (y : Pu), ps[j]? = some y → last < y.wk
  | [], _, _, j, y, h => by simp at h
  | p :: ps, last, h, j, y, hy => by
    simp only [okL, okP, Bool.and_eq_true, decide_eq_true_eq] at h
    rcases j with _ | j
    · simp at hy; subst hy; exact h.1.1
    · have := okL_gt h.2 j y (by simpa using hy); omega
theorem okL_srt {now span : Int} : ∀ {ps : List Pu} {last : Int}, okL now span last ps = true → srt ps
  | [], _, _ => fun i j x y _ h => by simp at h
  | p :: ps, last, h => fun i j x y hij hx hy => by
    simp only [okL, Bool.and_eq_true] at h
    rcases i with _ | i
    · simp at hx; subst hx
      rcases j with _ | j
      · omega
      · exact okL_gt h.2 j y (by simpa using hy)
    · rcases j with _ | j
      · omega
      · exact okL_srt h.2 i j x y (by omega) (by simpa using hx) (by simpa using hy)
theorem okL_of {now span : Int} : ∀ {ps : List Pu} {last : Int}, okL now span last ps = true → ∀ p ∈ ps, p.wk ≤ 4 ∧ 0 ≤ p.heard ∧ p.heard ≤ now ∧ (p.down = false → now < p.heard + span)
  | [], _, _, p, h => by simp at h
  | q :: ps, last, h, p, hp => by
    simp only [okL, okP, Bool.and_eq_true, decide_eq_true_eq] at h
    rcases List.mem_cons.1 hp with rfl | hp
    · exact h.1.2
    · exact okL_of h.2 p hp
theorem srt_tail {p : Pu} {ps : List Pu} (h : srt (p :: ps)) : srt ps := fun i j x y hij hx hy => h (i + 1) (j + 1) x y (by omega) (by simpa using hx) (by simpa using hy)
theorem okL_mk {now span : Int} : ∀ {ps : List Pu} {last : Int}, srt ps → (∀ p ∈ ps, last < p.wk ∧ p.wk ≤ 4 ∧ 0 ≤ p.heard ∧ p.heard ≤ now ∧ (p.down = false → now < p.heard + span)) → okL now span last ps = true
  | [], _, _, _ => rfl
  | q :: ps, last, hs, h => by
    simp only [okL, okP, Bool.and_eq_true, decide_eq_true_eq]
    refine ⟨h q (by simp), okL_mk (srt_tail hs) fun p hp => ⟨?_, (h p (by simp [hp])).2⟩⟩
    obtain ⟨j, hj⟩ := List.getElem?_of_mem hp
    exact hs 0 (j + 1) q p (by omega) rfl (by simpa using hj)
theorem okH_all {now span : Int} {l : List Pu} (h : okH now span l = true) : ((0 ≤ now ∧ now ≤ 1099511627776) ∧ 1 ≤ span ∧ span ≤ 100) ∧ srt l ∧ (∀ p ∈ l, 0 < p.wk ∧ p.wk ≤ 4 ∧ 0 ≤ p.heard ∧ p.heard ≤ now ∧ (p.down = false → now < p.heard + span)) := by
  unfold okH at h; simp only [Bool.and_eq_true, decide_eq_true_eq] at h
  refine ⟨h.1, okL_srt h.2, fun p hp => ?_⟩
  obtain ⟨j, hj⟩ := List.getElem?_of_mem hp
  exact ⟨okL_gt h.2 j p hj, okL_of h.2 p hp⟩
theorem okH_mk {now span : Int} {l : List Pu} (h : (0 ≤ now ∧ now ≤ 1099511627776) ∧ 1 ≤ span ∧ span ≤ 100) (hs : srt l) (ha : ∀ p ∈ l, 0 < p.wk ∧ p.wk ≤ 4 ∧ 0 ≤ p.heard ∧ p.heard ≤ now ∧ (p.down = false → now < p.heard + span)) : okH now span l = true := by
  unfold okH; simp only [Bool.and_eq_true, decide_eq_true_eq]
  exact ⟨h, okL_mk hs ha⟩
theorem srch_lo {ps : List Pu} {t : Int} {h : Nat} {x : Pu} (hs : srt ps) (hx : ps[h]? = some x) (hlt : x.wk < t) : ∀ (k : Nat) (y : Pu), k < h + 1 → ps[k]? = some y → y.wk < t := fun k y hk hy => by
  rcases Nat.lt_or_ge k h with h2 | h2
  · have := hs k _ y x h2 hy hx; omega
  · have h3 : k = h := by omega
    subst h3; rw [hx] at hy; cases hy; exact hlt
theorem srch_hi {ps : List Pu} {t : Int} {h : Nat} {x : Pu} (hs : srt ps) (hx : ps[h]? = some x) (hlt : t ≤ x.wk) : ∀ (k : Nat) (y : Pu), h ≤ k → ps[k]? = some y → t ≤ y.wk := fun k y hk hy => by
  rcases Nat.lt_or_ge h k with h2 | h2
  · have := hs _ k x y h2 hx hy; omega
  · have h3 : k = h := by omega
    subst h3; rw [hx] at hy; cases hy; exact hlt
theorem srch_le {t : Int} {l : List Pu} : srch t l ≤ l.length := List.findIdx_le_length
theorem srch_before {t : Int} : ∀ {l : List Pu} (k : Nat) (x : Pu), k < srch t l → l[k]? = some x → x.wk < t
  | [], k, x, _, h => by simp at h
  | p :: ps, k, x, hk, hx => by
    unfold srch at hk; rw [List.findIdx_cons] at hk
    by_cases hp : t ≤ p.wk
    · simp [hp] at hk
    · simp only [hp, decide_false, cond_false] at hk
      rcases k with _ | k
      · simp at hx; subst hx; omega
      · exact srch_before (l := ps) k x (by unfold srch; omega) (by simpa using hx)
theorem srch_at {t : Int} : ∀ {l : List Pu} {x : Pu}, l[srch t l]? = some x → t ≤ x.wk
  | [], x, h => by simp at h
  | p :: ps, x, h => by
    unfold srch at h; rw [List.findIdx_cons] at h
    by_cases hp : t ≤ p.wk
    · simp [hp] at h; subst h; exact hp
    · simp only [hp, decide_false, cond_false] at h
      exact srch_at (l := ps) (by simpa [srch] using h)
theorem len4 {l : List Pu} (hs : srt l) (ha : ∀ p ∈ l, 0 < p.wk ∧ p.wk ≤ 4) : l.length ≤ 4 := by
  have key : ∀ (k : Nat) (x : Pu), l[k]? = some x → (k : Int) < x.wk := by
    intro k
    induction k with
    | zero => intro x hx; exact (ha x (List.mem_of_getElem? hx)).1
    | succ k ih =>
      intro x hx
      have hk : k < l.length := by have := (List.getElem?_eq_some_iff.1 hx).1; omega
      have h1 := ih l[k] (by simp [hk])
      have h2 := hs k (k + 1) l[k] x (by omega) (by simp [hk]) hx
      omega
  rcases Nat.lt_or_ge 4 l.length with h | h
  · have h1 := key 4 l[4] (by simp [h])
    have h2 := (ha l[4] (List.getElem_mem h)).2
    omega
  · exact h
-- what is done
def insP (now w : Int) (l : List Pu) : List Pu := l.take (srch w l) ++ ⟨w, now, false⟩ :: l.drop (srch w l)
def passP (now span : Int) (p : Pu) : Pu := if p.down = false ∧ p.heard + span ≤ now then ⟨p.wk, p.heard, true⟩ else p
def goneP (now span : Int) (l : List Pu) : List Int := (l.filter (fun p => decide (p.down = false ∧ p.heard + span ≤ now))).map (·.wk)
def aliveF (l : List Pu) : List Int := (l.filter (fun p => !p.down)).map (·.wk)
structure Hr where
  now : Int
  span : Int
  rows : List Pu
  came : Bool
  gone : List Int
  err : Int
def bad (e : Int) : Hr := ⟨0, 0, [], false, [], e⟩
def thereW (w : Int) (l : List Pu) : Bool := (l[srch w l]?).any (fun p => p.wk == w)
def hearR (now span w : Int) (l : List Pu) : Hr := bif decide (1 ≤ w ∧ w ≤ 4) then (match l[srch w l]? with
  | some x => bif x.wk == w then ⟨now, span, l.set (srch w l) ⟨w, now, false⟩, x.down, [], 0⟩ else ⟨now, span, insP now w l, true, [], 0⟩
  | none => ⟨now, span, insP now w l, true, [], 0⟩) else bad 2
def dropR (now span w : Int) (l : List Pu) : Hr := bif thereW w l then ⟨now, span, l.eraseIdx (srch w l), false, [], 0⟩ else bad 4
def passR (now span to : Int) (l : List Pu) : Hr := bif decide (now ≤ to ∧ to ≤ 1099511627776) then ⟨to, span, l.map (passP to span), false, goneP to span l, 0⟩ else bad 2
def toT (now tick : Int) (far : Bool) : Int := bif far then tick else now + tick.tmod 200
def runR (kd w tick : Int) (far : Bool) (now span : Int) (l : List Pu) : Hr :=
  bif decide (kd % 18446744073709551616 % 5 = 0 ∨ kd % 18446744073709551616 % 5 = 1) then hearR now span w l
  else bif decide (kd % 18446744073709551616 % 5 = 2 ∨ kd % 18446744073709551616 % 5 = 3) then passR now span (toT now tick far) l
  else dropR now span w l
theorem srt_pw {l : List Pu} : srt l ↔ l.Pairwise (fun a b => a.wk < b.wk) := by
  rw [List.pairwise_iff_getElem]
  constructor
  · intro h i j hi hj hij; exact h i j _ _ hij (by simp [hi]) (by simp [hj])
  · intro h i j x y hij hx hy
    obtain ⟨h1, e1⟩ := List.getElem?_eq_some_iff.1 hx
    obtain ⟨h2, e2⟩ := List.getElem?_eq_some_iff.1 hy
    rw [← e1, ← e2]; exact h i j h1 h2 hij
theorem mem_alive {v : Int} {l : List Pu} : v ∈ aliveF l ↔ ∃ p ∈ l, p.down = false ∧ p.wk = v := by
  unfold aliveF
  simp only [List.mem_map, List.mem_filter, Bool.not_eq_true']
  constructor
  · rintro ⟨p, ⟨h1, h2⟩, h3⟩; exact ⟨p, h1, h2, h3⟩
  · rintro ⟨p, h1, h2, h3⟩; exact ⟨p, ⟨h1, h2⟩, h3⟩
theorem wk_uniq {l : List Pu} (hs : srt l) {p q : Pu} (hp : p ∈ l) (hq : q ∈ l) (e : p.wk = q.wk) : p = q := by
  obtain ⟨i, hi⟩ := List.getElem?_of_mem hp
  obtain ⟨j, hj⟩ := List.getElem?_of_mem hq
  rcases Nat.lt_trichotomy i j with h | h | h
  · have := hs i j p q h hi hj; omega
  · subst h; rw [hi] at hj; exact Option.some.inj hj
  · have := hs j i q p h hj hi; omega
def goesOk (kd w now span : Int) (l : List Pu) (R : Hr) : Prop := okH R.now R.span R.rows = true ∧ now ≤ R.now ∧ R.span = span ∧ (R.came = true → w ∉ aliveF l) ∧ (∀ g ∈ R.gone, g ∈ aliveF l ∧ g ∉ aliveF R.rows) ∧ (∀ v ∈ aliveF l, v ∈ aliveF R.rows ∨ v ∈ R.gone ∨ (kd % 18446744073709551616 % 5 = 4 ∧ v = w))
theorem set_srt {l : List Pu} {i : Nat} {x y : Pu} (hs : srt l) (hx : l[i]? = some x) (e : y.wk = x.wk) : srt (l.set i y) := by
  intro a b u v hab hu hv
  rw [List.getElem?_set] at hu hv
  have hlt := (List.getElem?_eq_some_iff.1 hx).1
  have key : ∀ (k : Nat) (z : Pu), (if i = k then if i < l.length then some y else none else l[k]?) = some z → ∃ z', l[k]? = some z' ∧ z.wk = z'.wk := by
    intro k z h
    by_cases hk : i = k
    · subst hk; rw [if_pos rfl, if_pos hlt] at h; cases h; exact ⟨x, hx, e⟩
    · rw [if_neg hk] at h; exact ⟨z, h, rfl⟩
  obtain ⟨u', hu', eu⟩ := key a u hu
  obtain ⟨v', hv', ev⟩ := key b v hv
  rw [eu, ev]; exact hs a b u' v' hab hu' hv'
theorem ins_srt {l : List Pu} {now w : Int} (hs : srt l) (hn : ∀ x, l[srch w l]? = some x → x.wk ≠ w) : srt (insP now w l) := by
  have hlo : ∀ p ∈ l.take (srch w l), p.wk < w := fun p hp => by
    obtain ⟨k, hk⟩ := List.getElem?_of_mem hp
    rw [List.getElem?_take] at hk
    split at hk
    · next h => exact srch_before k p h hk
    · cases hk
  have hhi : ∀ p ∈ l.drop (srch w l), w < p.wk := fun p hp => by
    obtain ⟨k, hk⟩ := List.getElem?_of_mem hp
    rw [List.getElem?_drop] at hk
    have hl := (List.getElem?_eq_some_iff.1 hk).1
    have h0 : l[srch w l]? = some (l[srch w l]'(by omega)) := by simp
    have h1 := srch_at h0
    have h2 := hn _ h0
    have h3 := srch_hi hs h0 h1 (srch w l + k) p (by omega) hk
    rcases Nat.eq_zero_or_pos k with hk0 | hk0
    · subst hk0; rw [Nat.add_zero] at hk; rw [hk] at h0; cases h0; omega
    · have := hs (srch w l) (srch w l + k) _ p (by omega) h0 hk; omega
  unfold insP
  rw [srt_pw] at hs ⊢
  rw [List.pairwise_append, List.pairwise_cons]
  refine ⟨hs.sublist (List.take_sublist _ _), ⟨fun p hp => hhi p hp, hs.sublist (List.drop_sublist _ _)⟩, fun a ha b hb => ?_⟩
  rcases List.mem_cons.1 hb with rfl | hb
  · exact hlo a ha
  · have := hlo a ha; have := hhi b hb; omega
theorem ins_mem {l : List Pu} {now w : Int} {p : Pu} : p ∈ insP now w l ↔ p = ⟨w, now, false⟩ ∨ p ∈ l := by
  unfold insP
  rw [List.mem_append, List.mem_cons]
  constructor
  · rintro (h | h | h)
    · exact .inr (List.mem_of_mem_take h)
    · exact .inl h
    · exact .inr (List.mem_of_mem_drop h)
  · rintro (h | h)
    · exact .inr (.inl h)
    · have : p ∈ l.take (srch w l) ++ l.drop (srch w l) := by rw [List.take_append_drop]; exact h
      rcases List.mem_append.1 this with h | h
      · exact .inl h
      · exact .inr (.inr h)
theorem goes_ins {kd w now span : Int} {l : List Pu} (hk : okH now span l = true) (hw : 1 ≤ w ∧ w ≤ 4) (hn : ∀ x, l[srch w l]? = some x → x.wk ≠ w) : goesOk kd w now span l ⟨now, span, insP now w l, true, [], 0⟩ := by
  obtain ⟨h1, h2, h3⟩ := okH_all hk
  refine ⟨okH_mk h1 (ins_srt h2 hn) fun p hp => ?_, Int.le_refl _, rfl, fun _ hv => ?_, fun g hg => (by simp at hg), fun v hv => ?_⟩
  · rcases ins_mem.1 hp with rfl | hp
    · exact ⟨by (try dsimp only); omega, by (try dsimp only); omega, by (try dsimp only); omega, Int.le_refl _, fun _ => by (try dsimp only); omega⟩
    · exact h3 p hp
  · obtain ⟨p, hp, _, e⟩ := mem_alive.1 hv
    obtain ⟨i, hi⟩ := List.getElem?_of_mem hp
    have : srch w l = i := srch_eq (by have := (List.getElem?_eq_some_iff.1 hi).1; omega) (fun k x hk hx => by have := h2 k i x p hk hx hi; omega) (fun x hx => by rw [hi] at hx; cases hx; omega)
    exact hn p (by rw [this]; exact hi) e
  · obtain ⟨p, hp, hd, e⟩ := mem_alive.1 hv
    exact .inl (mem_alive.2 ⟨p, ins_mem.2 (.inr hp), hd, e⟩)
theorem goes_set {kd w now span : Int} {l : List Pu} {x : Pu} (hk : okH now span l = true) (hw : 1 ≤ w ∧ w ≤ 4) (hx : l[srch w l]? = some x) (hn : x.wk = w) : goesOk kd w now span l ⟨now, span, l.set (srch w l) ⟨w, now, false⟩, x.down, [], 0⟩ := by
  obtain ⟨h1, h2, h3⟩ := okH_all hk
  have hlt := (List.getElem?_eq_some_iff.1 hx).1
  refine ⟨okH_mk h1 (set_srt h2 hx hn.symm) fun p hp => ?_, Int.le_refl _, rfl, fun hc hv => ?_, fun g hg => (by simp at hg), fun v hv => ?_⟩
  · rcases List.mem_or_eq_of_mem_set hp with hp | rfl
    · exact h3 p hp
    · exact ⟨by (try dsimp only); omega, by (try dsimp only); omega, by (try dsimp only); omega, Int.le_refl _, fun _ => by (try dsimp only); omega⟩
  · obtain ⟨p, hp, hd, e⟩ := mem_alive.1 hv
    have := wk_uniq h2 hp (List.mem_of_getElem? hx) (by omega)
    subst this; simp only at hc; rw [hd] at hc; cases hc
  · obtain ⟨p, hp, hd, e⟩ := mem_alive.1 hv
    refine .inl (mem_alive.2 ?_)
    by_cases hp2 : p = x
    · subst hp2; exact ⟨⟨w, now, false⟩, List.mem_iff_getElem?.2 ⟨srch w l, by simp [hlt]⟩, rfl, by rw [← e, hn]⟩
    · obtain ⟨k, hk2⟩ := List.getElem?_of_mem hp
      refine ⟨p, List.mem_iff_getElem?.2 ⟨k, ?_⟩, hd, e⟩
      rw [List.getElem?_set_ne (fun e2 => by subst e2; rw [hx] at hk2; exact hp2 (Option.some.inj hk2).symm)]; exact hk2
theorem goes_drop {kd w now span : Int} {l : List Pu} {x : Pu} (hk : okH now span l = true) (h5 : kd % 18446744073709551616 % 5 = 4) (hx : l[srch w l]? = some x) (hn : x.wk = w) : goesOk kd w now span l ⟨now, span, l.eraseIdx (srch w l), false, [], 0⟩ := by
  obtain ⟨h1, h2, h3⟩ := okH_all hk
  refine ⟨okH_mk h1 (srt_pw.2 ((srt_pw.1 h2).sublist (List.eraseIdx_sublist _ _))) fun p hp => h3 p (List.mem_of_mem_eraseIdx hp), Int.le_refl _, rfl, fun hc => (by cases hc), fun g hg => (by simp at hg), fun v hv => ?_⟩
  obtain ⟨p, hp, hd, e⟩ := mem_alive.1 hv
  by_cases hp2 : p = x
  · subst hp2; exact .inr (.inr ⟨h5, by omega⟩)
  · obtain ⟨k, hk2⟩ := List.getElem?_of_mem hp
    exact .inl (mem_alive.2 ⟨p, List.mem_eraseIdx_iff_getElem?.2 ⟨k, fun e2 => (by subst e2; rw [hx] at hk2; exact hp2 (Option.some.inj hk2).symm), hk2⟩, hd, e⟩)
theorem pass_wk {to span : Int} {p : Pu} : (passP to span p).wk = p.wk ∧ (passP to span p).heard = p.heard := by unfold passP; split <;> exact ⟨rfl, rfl⟩
theorem goes_pass {kd w now span to : Int} {l : List Pu} (hk : okH now span l = true) (ht : now ≤ to ∧ to ≤ 1099511627776) : goesOk kd w now span l ⟨to, span, l.map (passP to span), false, goneP to span l, 0⟩ := by
  obtain ⟨h1, h2, h3⟩ := okH_all hk
  have hsm : srt (l.map (passP to span)) := by
    rw [srt_pw] at h2 ⊢
    rw [List.pairwise_map]
    exact h2.imp fun h => by rw [pass_wk.1, pass_wk.1]; exact h
  refine ⟨okH_mk (by (try dsimp only); omega) hsm fun p hp => ?_, ht.1, rfl, fun hc => (by cases hc), fun g hg => ?_, fun v hv => ?_⟩
  · obtain ⟨q, hq, rfl⟩ := List.mem_map.1 hp
    have h4 := h3 q hq
    rw [pass_wk.1, pass_wk.2]
    refine ⟨h4.1, h4.2.1, h4.2.2.1, by (try dsimp only); omega, fun hd => ?_⟩
    unfold passP at hd
    split at hd
    · cases hd
    · next h5 => (try dsimp only); rcases Int.lt_or_le to (q.heard + span) with h6 | h6
                 · exact h6
                 · exact absurd ⟨hd, h6⟩ h5
  · unfold goneP at hg
    obtain ⟨q, hq, rfl⟩ := List.mem_map.1 hg
    obtain ⟨hq1, hq2⟩ := List.mem_filter.1 hq
    have hq2 := of_decide_eq_true hq2
    refine ⟨mem_alive.2 ⟨q, hq1, hq2.1, rfl⟩, fun hv => ?_⟩
    obtain ⟨p, hp, hd, e⟩ := mem_alive.1 hv
    obtain ⟨r, hr, rfl⟩ := List.mem_map.1 hp
    rw [pass_wk.1] at e
    have := wk_uniq h2 hr hq1 e
    subst this
    unfold passP at hd; rw [if_pos hq2] at hd; cases hd
  · obtain ⟨p, hp, hd, e⟩ := mem_alive.1 hv
    by_cases h5 : p.down = false ∧ p.heard + span ≤ to
    · exact .inr (.inl (List.mem_map.2 ⟨p, List.mem_filter.2 ⟨hp, decide_eq_true h5⟩, e⟩))
    · exact .inl (mem_alive.2 ⟨passP to span p, List.mem_map.2 ⟨p, hp, rfl⟩, by unfold passP; rw [if_neg h5]; exact hd, by rw [pass_wk.1]; exact e⟩)
theorem run_goes {kd w tick now span : Int} {far : Bool} {l : List Pu} (hk : okH now span l = true) (he : (runR kd w tick far now span l).err = 0) : goesOk kd w now span l (runR kd w tick far now span l) := by
  revert he
  unfold runR
  by_cases h0 : kd % 18446744073709551616 % 5 = 0 ∨ kd % 18446744073709551616 % 5 = 1
  · rw [decide_eq_true h0]; simp only [cond_true]
    unfold hearR
    by_cases hw : 1 ≤ w ∧ w ≤ 4
    · rw [decide_eq_true hw]; simp only [cond_true]
      cases hx : l[srch w l]? with
      | none => intro _; exact goes_ins hk hw (fun x h => by rw [hx] at h; cases h)
      | some x =>
        dsimp only
        by_cases hn : x.wk = w
        · rw [show (x.wk == w) = true from beq_iff_eq.2 hn]; intro _; exact goes_set hk hw hx hn
        · rw [show (x.wk == w) = false from beq_eq_false_iff_ne.2 hn]; intro _
          exact goes_ins hk hw (fun y h => by rw [hx] at h; cases h; exact hn)
    · rw [decide_eq_false hw]; intro h; simp [bad] at h
  · rw [decide_eq_false h0]; simp only [cond_false]
    by_cases h2 : kd % 18446744073709551616 % 5 = 2 ∨ kd % 18446744073709551616 % 5 = 3
    · rw [decide_eq_true h2]; simp only [cond_true]
      unfold passR
      by_cases ht : now ≤ toT now tick far ∧ toT now tick far ≤ 1099511627776
      · rw [decide_eq_true ht]; intro _; exact goes_pass hk ht
      · rw [decide_eq_false ht]; intro h; simp [bad] at h
    · rw [decide_eq_false h2]; simp only [cond_false]
      have h5 : kd % 18446744073709551616 % 5 = 4 := by omega
      unfold dropR thereW
      cases hx : l[srch w l]? with
      | none => intro h; simp [bad] at h
      | some x =>
        simp only [Option.any]
        by_cases hn : x.wk = w
        · rw [show (x.wk == w) = true from beq_iff_eq.2 hn]; intro _; exact goes_drop hk h5 hx hn
        · rw [show (x.wk == w) = false from beq_eq_false_iff_ne.2 hn]; intro h; simp [bad] at h
theorem alive_srt {now span : Int} {l : List Pu} (hk : okH now span l = true) : (aliveF l).Pairwise (· < ·) := by
  obtain ⟨_, h2, _⟩ := okH_all hk
  unfold aliveF
  rw [List.pairwise_map]
  exact (srt_pw.1 h2).sublist List.filter_sublist
theorem alive_len (l : List Pu) : (aliveF l).length ≤ l.length := by unfold aliveF; rw [List.length_map]; exact List.length_filter_le _ _
theorem mayBe_con (now span : Int) (l : List Pu) (hl : l.length ≤ 9223372036854775807) : Con Try.prog 36 [.agg [.v (.int .i64 now), .v (.int .i64 span), .ro false 3 ((l).map eP)]] (fun rx rK rt => rx = .val (.bool (okH now span l)) ∧ rK = [] ∧ rt = 0) := by
  refine Z.con_ofF tabOk 64 Try.f36 _ Try.func36 (by kernel_rfl) rfl rfl rfl rfl ?_
  repeat' ((conv => whnf); first
    | with_reducible first | refine spB_t ?_
    | ((with_reducible apply spB_cong); (focus (simp only [beq_self_eq_true, bne_self_eq_false, Bool.true_bne, Bool.false_bne, Bool.bne_true, Bool.bne_false, Bool.true_beq, Bool.false_beq, Bool.not_true, Bool.not_false, Bool.not_not, Int.reduceBEq, Int.reduceBNe, Int.reduceLE, Int.reduceLT, Int.reduceEq, decide_true, decide_false]; rfl)))
    | with_reducible first | refine spB_yes (by decide) ?_ | refine spB_no (by decide) ?_ | refine spB_f ?_ | refine spB_not ?_ | refine spB_yes (by assumption) ?_ | refine spB_no (by assumption) ?_
    | (with_reducible refine spB_dec ?_ ?_ <;> intro _ <;> (try (exfalso; first | contradiction | omega | (rename_i hz; with_reducible exact absurd rfl hz))))
    | with_reducible first | refine apN_mk (by kernel_rfl) ?_ | refine Z.callZ_in tabOk 10 Try.f38 _ Try.func38 (by kernel_rfl) rfl rfl rfl ?_ | refine Z.callZ_in tabOk 9 Try.f52 _ Try.func52 (by kernel_rfl) rfl rfl rfl ?_
    | ((with_reducible apply ex_and); exact rfl)
    | (focus (exact (rfl : Nat.ble _ _ = true))))
  all_goals (try (conv => whnf))
  all_goals try ((first | (with_reducible apply Z.retF1) | (with_reducible apply Z.retF2) | (with_reducible apply Z.retF0)); (focus (exact rfl)); (repeat' (first | exact trivial | (with_reducible apply Z.frz_one) | (with_reducible apply Z.frz_agg) | (with_reducible apply Z.fq_int) | (with_reducible apply Z.fq_bool) | (exact Z.frz_nil) | (exact Z.frz_osl0 rfl rfl rfl) | (with_reducible apply Z.fq_nil) | (with_reducible apply Z.fq_ro) | ((with_reducible apply Z.fq_gsl); (focus (first | rfl | exact Z.isB_map _ | exact Z.gB_snoc.symm)); (focus (exact fun _ => rfl))) | ((with_reducible apply Z.fq_osl); (focus (exact rfl)); (focus (first | exact rfl | (simp only [List.length_map, Nat.zero_add]; done) | ((try simp only [LN] at *) <;> omega))); (focus (exact fun _ => rfl))) | ((with_reducible apply Z.fq_src); (focus (exact rfl)); (focus (first | exact rfl | (simp only [List.length_map, Nat.zero_add]; done) | ((try simp only [LN] at *) <;> omega))); (focus (exact fun _ => rfl))) | exact rfl | ((apply Z.fq_osl); (focus (exact rfl)); (focus (first | exact rfl | (simp only [List.length_map, Nat.zero_add]; done) | ((try simp only [LN] at *) <;> omega))); (focus (exact fun _ => rfl))) | ((apply Z.fq_src); (focus (exact rfl)); (focus (first | exact rfl | (simp only [List.length_map, Nat.zero_add]; done) | ((try simp only [LN] at *) <;> omega))); (focus (exact fun _ => rfl))) | (apply Z.fq_ro) | (apply Z.fq_int) | (apply Z.fq_bool) | apply And.intro)); (all_goals (try exact (fun _ => none))); all_goals (unfold okH; rw [decide_eq_false (by (try simp only [LN] at *) <;> omega)]; rfl))
  have hpre : okH now span l = okL now span 0 l := by unfold okH; rw [decide_eq_true (by (try simp only [LN] at *) <;> omega), Bool.true_and]
  have hb9 : (0 ≤ now ∧ now ≤ 1099511627776) ∧ 1 ≤ span ∧ span ≤ 100 := by omega
  refine Z.loopK tabOk (fun zq : Nat × Int => [(23, .val (.int .i64 (zq.1 : Int))), (3, .val (.int .i64 zq.2))]) (fun zq : Nat × Int => ([] : Z.Kr)) (fun zq => zq.1 ≤ l.length ∧ okH now span l = okL now span zq.2 (l.drop zq.1)) (fun zq => l.length - zq.1) (0, 0) 1 [(1, _), (21, _), (22, _)] ⟨rfl, rfl, rfl, trivial⟩ [(0, some _)] ⟨rfl, trivial⟩ ?_ ?_ rfl rfl ⟨Nat.zero_le _, hpre⟩ ?_
  · repeat' (first | exact trivial | apply And.intro | exact ⟨_, rfl, rfl⟩ | exact ⟨_, rfl, Z.Imp.refl _⟩ | exact ⟨_, rfl, Z.Imp.nilg _⟩ | exact ⟨_, rfl, Z.Imp.nilr _ _⟩)
  · repeat' (first | exact trivial | (intro b hb; cases hb; done) | exact (fun b hb => ⟨b, hb, Z.ImpO.refl b⟩) | (intro b hb; cases hb; refine ⟨_, rfl, ⟨rfl, rfl, rfl⟩, ?_⟩; (repeat' (first | exact trivial | apply And.intro | exact Z.Imp.refl _ | exact Z.Imp.nilg _ | exact Z.Imp.nilr _ _)); done) | apply And.intro)
  rintro ⟨i, a⟩ HINV
  dsimp only at HINV ⊢
  obtain ⟨HI, HO⟩ := HINV
  repeat' ((conv => whnf); first
    | with_reducible first | refine spB_t ?_
    | with_reducible first | refine spB_yes (by decide) ?_ | refine spB_no (by decide) ?_ | refine spB_f ?_ | refine spB_not ?_ | refine spB_yes (by assumption) ?_ | refine spB_no (by assumption) ?_
    | (with_reducible refine spB_dec ?_ ?_ <;> intro _ <;> (try (exfalso; first | contradiction | omega | (rename_i hz; with_reducible exact absurd rfl hz))))
    | (with_reducible refine spB_mk ?_ ?_ <;> intro _ <;> (try (exfalso; first | contradiction | omega | (rename_i hz; with_reducible exact absurd rfl hz))))
    | ((with_reducible apply ixN_litp); (focus (exact rfl)); (focus ((try simp only [LN] at *) <;> omega)))
    | with_reducible refine wr_i64 (by first | omega | (simp only [LN] at *; omega)) ?_
    | ((with_reducible refine rowN_map ?_ ?_); (focus ((try simp only [LN] at *) <;> omega)); intro x hx)
    | with_reducible first | refine apN_mk (by kernel_rfl) ?_ | refine Z.callZ_in tabOk 10 Try.f38 _ Try.func38 (by kernel_rfl) rfl rfl rfl ?_ | refine Z.callZ_in tabOk 9 Try.f52 _ Try.func52 (by kernel_rfl) rfl rfl rfl ?_
    | ((with_reducible apply ex_and); exact rfl)
    | with_reducible first | refine Z.drawZ_rule tabOk mixOk ?_ | refine Z.apZ_mk (by kernel_rfl) ?_
    | ((with_reducible refine Z.ConZ.red ?_); (try subst hlb); (apply Z.conZ_all); (focus (repeat (first | exact Z.FK.nil | (apply Z.FK.keep; exact rfl)))); (focus rfl); (focus rfl); (focus (repeat (first | exact trivial | (refine ⟨(fun o ho => (by first | (cases ho; rfl) | (cases ho; exact Z.inL_map fun _ => rfl) | (cases ho; exact Z.inL_mapr fun _ => rfl) | exact Z.inL_gB ho fun _ => rfl)), ?_⟩)))))
    | ((refine ⟨rfl, ?_, rfl⟩); (focus (repeat (first | exact Z.DK.nil | apply Z.DK.cons))))
    | (focus (exact (rfl : Nat.ble _ _ = true))))
  all_goals (try (conv => whnf))
  all_goals try (show Nat.ble _ _ = true; rfl)
  all_goals first
    | ((refine Z.rndK ((i + 1, x.wk)) (fun s => [0]) rfl rfl rfl rfl ?_ ?_ ?_ ?_); (focus (repeat' (first | exact trivial | exact rfl | (rw [List.map_append]; exact rfl) | apply And.intro))); (focus (repeat' (first | exact trivial | (intro b hb; cases hb; rfl) | (intro b hb; cases hb; subst hlb; rfl) | (intro b hb; cases hb; rw [List.map_append]; rfl) | (intro b hb; cases hb; done) | exact Z.blk_sub rfl rfl (ren_map fun _ => rfl) | exact Z.blk_sub rfl rfl (Z.ren_app (ren_map fun _ => rfl) (ren_map fun _ => rfl)) | exact Z.blk_sub rfl (by first | (rw [List.map_append]; rfl) | (rw [List.map_set]; rfl) | simp only [List.map_append, List.map_cons, List.map_nil, List.map_set]) (ren_map fun _ => rfl) | exact Z.gB_sub rfl rfl (ren_map fun _ => rfl) | exact Z.gB_sub' rfl (by first | rfl | (rw [List.map_append]; rfl) | simp only [List.map_append, List.map_cons, List.map_nil]) (ren_map fun _ => rfl) | apply And.intro))); (focus (refine ⟨by (try simp only [LN] at *) <;> omega, ?_⟩; (try dsimp only); rw [HO, drop_cons hx, okL, okP, decide_eq_true (p := _ < x.wk ∧ _) (by refine ⟨by omega, by omega, by omega, by omega, fun h9 => ?_⟩; first | omega | (simp_all; done) | (exfalso; simp_all; done)), Bool.true_and])); (try simp only [LN] at *); (try dsimp only); omega)
    | ((first | (with_reducible apply Z.retF1) | (with_reducible apply Z.retF2) | (with_reducible apply Z.retF0)); (focus (exact rfl)); (repeat' (first | exact trivial | (with_reducible apply Z.frz_one) | (with_reducible apply Z.frz_agg) | (with_reducible apply Z.fq_int) | (with_reducible apply Z.fq_bool) | (exact Z.frz_nil) | (exact Z.frz_osl0 rfl rfl rfl) | (with_reducible apply Z.fq_nil) | (with_reducible apply Z.fq_ro) | ((with_reducible apply Z.fq_gsl); (focus (first | rfl | exact Z.isB_map _ | exact Z.gB_snoc.symm)); (focus (exact fun _ => rfl))) | ((with_reducible apply Z.fq_osl); (focus (exact rfl)); (focus (first | exact rfl | (simp only [List.length_map, Nat.zero_add]; done) | ((try simp only [LN] at *) <;> omega))); (focus (exact fun _ => rfl))) | ((with_reducible apply Z.fq_src); (focus (exact rfl)); (focus (first | exact rfl | (simp only [List.length_map, Nat.zero_add]; done) | ((try simp only [LN] at *) <;> omega))); (focus (exact fun _ => rfl))) | exact rfl | ((apply Z.fq_osl); (focus (exact rfl)); (focus (first | exact rfl | (simp only [List.length_map, Nat.zero_add]; done) | ((try simp only [LN] at *) <;> omega))); (focus (exact fun _ => rfl))) | ((apply Z.fq_src); (focus (exact rfl)); (focus (first | exact rfl | (simp only [List.length_map, Nat.zero_add]; done) | ((try simp only [LN] at *) <;> omega))); (focus (exact fun _ => rfl))) | (apply Z.fq_ro) | (apply Z.fq_int) | (apply Z.fq_bool) | apply And.intro)); (all_goals (try exact (fun _ => none))); all_goals (first | (rw [HO, drop_end (by (try simp only [LN] at *) <;> omega)]; rfl) | (rw [HO, drop_cons hx, okL, okP, decide_eq_false (p := _ < x.wk ∧ _) (by rintro ⟨h1, h2, h3, h4, h5⟩; first | omega | (have h6 := h5 (by assumption); omega)), Bool.false_and])))
    | (fail)

theorem check_t (now span : Int) (l : List Pu) (hl : l.length ≤ 9223372036854775807) (hk : okH now span l = true) : Con Try.prog 17 [.agg [.v (.int .i64 now), .v (.int .i64 span), .ro false 3 ((l).map eP)]] (fun rx rK rt => rx = .val (.int .i64 0) ∧ rK = [] ∧ rt = 0) := by
  refine Z.con_ofF tabOk 6 Try.f17 _ Try.func17 (by kernel_rfl) rfl rfl rfl rfl ?_
  repeat' ((conv => whnf); first
    | with_reducible first | refine spB_yes (by decide) ?_ | refine spB_no (by decide) ?_ | refine spB_f ?_ | refine spB_not ?_ | refine spB_yes (by assumption) ?_ | refine spB_no (by assumption) ?_
    | ((first | (with_reducible apply Z.conZ_mz ?_ (mayBe_con _ _ _ ?_) ?_) | (with_reducible apply Z.callZ_mk ?_ (mayBe_con _ _ _ ?_) ?_)); (rotate_left 3); (focus ((repeat' (first | exact trivial | exact rfl | exact Z.low_nil | exact Z.low_nil2 | exact low_osl (fun _ => rfl) | (refine Z.low_osln ?_ (fun _ => rfl); (simp only [List.length_map]; done)) | exact low_oslr (fun _ => rfl) | exact Z.low_gslm (by first | rfl | exact Z.kb_some rfl) (fun _ => rfl) | exact .inl rfl | exact .inr ⟨_, rfl⟩ | apply And.intro)); done)); (iterate 1 (focus (first | assumption | omega | ((try simp only [LN] at *); omega)))))
    | ((with_reducible apply ex_and); exact rfl))
  all_goals (try (conv => whnf))
  all_goals first
    | ((first | (with_reducible apply Z.retF1) | (with_reducible apply Z.retF2) | (with_reducible apply Z.retF0)); (focus (exact rfl)); (repeat' (first | exact trivial | (with_reducible apply Z.frz_one) | (with_reducible apply Z.frz_agg) | (with_reducible apply Z.fq_int) | (with_reducible apply Z.fq_bool) | (exact Z.frz_nil) | (exact Z.frz_osl0 rfl rfl rfl) | (with_reducible apply Z.fq_nil) | (with_reducible apply Z.fq_ro) | ((with_reducible apply Z.fq_gsl); (focus (first | rfl | exact Z.isB_map _ | exact Z.gB_snoc.symm)); (focus (exact fun _ => rfl))) | ((with_reducible apply Z.fq_osl); (focus (exact rfl)); (focus (first | exact rfl | (simp only [List.length_map, Nat.zero_add]; done) | ((try simp only [LN] at *) <;> omega))); (focus (exact fun _ => rfl))) | ((with_reducible apply Z.fq_src); (focus (exact rfl)); (focus (first | exact rfl | (simp only [List.length_map, Nat.zero_add]; done) | ((try simp only [LN] at *) <;> omega))); (focus (exact fun _ => rfl))) | exact rfl | ((apply Z.fq_osl); (focus (exact rfl)); (focus (first | exact rfl | (simp only [List.length_map, Nat.zero_add]; done) | ((try simp only [LN] at *) <;> omega))); (focus (exact fun _ => rfl))) | ((apply Z.fq_src); (focus (exact rfl)); (focus (first | exact rfl | (simp only [List.length_map, Nat.zero_add]; done) | ((try simp only [LN] at *) <;> omega))); (focus (exact fun _ => rfl))) | (apply Z.fq_ro) | (apply Z.fq_int) | (apply Z.fq_bool) | apply And.intro)); (all_goals (try exact (fun _ => none))); all_goals (rfl))
    | (exfalso; simp_all; done)
    | (fail)

theorem check_f (now span : Int) (l : List Pu) (hl : l.length ≤ 9223372036854775807) (hk : okH now span l = false) : Con Try.prog 17 [.agg [.v (.int .i64 now), .v (.int .i64 span), .ro false 3 ((l).map eP)]] (fun rx rK rt => rx = .val (.int .i64 360) ∧ rK = [] ∧ rt = 0) := by
  refine Z.con_ofF tabOk 6 Try.f17 _ Try.func17 (by kernel_rfl) rfl rfl rfl rfl ?_
  repeat' ((conv => whnf); first
    | with_reducible first | refine spB_yes (by decide) ?_ | refine spB_no (by decide) ?_ | refine spB_f ?_ | refine spB_not ?_ | refine spB_yes (by assumption) ?_ | refine spB_no (by assumption) ?_
    | ((first | (with_reducible apply Z.conZ_mz ?_ (mayBe_con _ _ _ ?_) ?_) | (with_reducible apply Z.callZ_mk ?_ (mayBe_con _ _ _ ?_) ?_)); (rotate_left 3); (focus ((repeat' (first | exact trivial | exact rfl | exact Z.low_nil | exact Z.low_nil2 | exact low_osl (fun _ => rfl) | (refine Z.low_osln ?_ (fun _ => rfl); (simp only [List.length_map]; done)) | exact low_oslr (fun _ => rfl) | exact Z.low_gslm (by first | rfl | exact Z.kb_some rfl) (fun _ => rfl) | exact .inl rfl | exact .inr ⟨_, rfl⟩ | apply And.intro)); done)); (iterate 1 (focus (first | assumption | omega | ((try simp only [LN] at *); omega)))))
    | ((with_reducible apply ex_and); exact rfl))
  all_goals (try (conv => whnf))
  all_goals first
    | ((first | (with_reducible apply Z.retF1) | (with_reducible apply Z.retF2) | (with_reducible apply Z.retF0)); (focus (exact rfl)); (repeat' (first | exact trivial | (with_reducible apply Z.frz_one) | (with_reducible apply Z.frz_agg) | (with_reducible apply Z.fq_int) | (with_reducible apply Z.fq_bool) | (exact Z.frz_nil) | (exact Z.frz_osl0 rfl rfl rfl) | (with_reducible apply Z.fq_nil) | (with_reducible apply Z.fq_ro) | ((with_reducible apply Z.fq_gsl); (focus (first | rfl | exact Z.isB_map _ | exact Z.gB_snoc.symm)); (focus (exact fun _ => rfl))) | ((with_reducible apply Z.fq_osl); (focus (exact rfl)); (focus (first | exact rfl | (simp only [List.length_map, Nat.zero_add]; done) | ((try simp only [LN] at *) <;> omega))); (focus (exact fun _ => rfl))) | ((with_reducible apply Z.fq_src); (focus (exact rfl)); (focus (first | exact rfl | (simp only [List.length_map, Nat.zero_add]; done) | ((try simp only [LN] at *) <;> omega))); (focus (exact fun _ => rfl))) | exact rfl | ((apply Z.fq_osl); (focus (exact rfl)); (focus (first | exact rfl | (simp only [List.length_map, Nat.zero_add]; done) | ((try simp only [LN] at *) <;> omega))); (focus (exact fun _ => rfl))) | ((apply Z.fq_src); (focus (exact rfl)); (focus (first | exact rfl | (simp only [List.length_map, Nat.zero_add]; done) | ((try simp only [LN] at *) <;> omega))); (focus (exact fun _ => rfl))) | (apply Z.fq_ro) | (apply Z.fq_int) | (apply Z.fq_bool) | apply And.intro)); (all_goals (try exact (fun _ => none))); all_goals (rfl))
    | (exfalso; simp_all; done)
    | (fail)

theorem wakes_con : Con Try.prog 9 [] (fun x K t => x = .val (.bool true) ∧ K = [] ∧ t = 0) := Y.con_run ftabOk tabOk mixOk 40 12 (by kernel_rfl) (by kernel_rfl)
end Go.Proofs.Ytgdkhdooekmfgaa
