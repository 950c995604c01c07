import Derived.Test.YtnlcmncfbiognaaRa3
namespace Go.Proofs.Ytnlcmncfbiognaa
open Go Go.RowKit Wx
set_option linter.unusedVariables false
set_option linter.unusedSimpArgs false
set_option maxHeartbeats 4000000
theorem ren_row {l : List Kp} {i sz : Nat} {ty : TypeId} {bx : Bool} {q : Kp} {r : Nat → Nat} (hq : l[i]? = some q) : (Blk.ren r ⟨l.map cK, sz, ty, bx⟩).rows[0 + i]? = some (cK q) := by
  show ((l.map cK).map (List.map (Ce.ren r)))[0 + i]? = _
  rw [Nat.zero_add, List.getElem?_map, List.getElem?_map, hq]; rfl
theorem low_set {l : List Kp} {i : Nat} {y : Kp} {r : Nat → Nat} : ∃ rows, Ce.ro false 3 ((l.set i y).map eK) = Ce.ro false 3 rows ∧ rows.length = l.length ∧ (((((l.map cK).map (List.map (Ce.ren r))).set (0 + i) (cK y)).drop 0).take l.length).map (List.map RT.of) = rows.map (List.map some) := by
  have e : (l.map cK).map (List.map (Ce.ren r)) = l.map cK := by rw [List.map_map]; exact List.map_congr_left fun x _ => rfl
  refine ⟨_, rfl, by simp, ?_⟩
  rw [e, Nat.zero_add, ← List.map_set, List.drop_zero, List.take_of_length_le (by simp), List.map_map, List.map_map]
  exact List.map_congr_left fun x _ => rfl
theorem find_t (keep number : Int) (l : List Kp) (hl : l.length ≤ 9223372036854775807) (i : Nat) (hi : idxN number l = i) (ha : anyN number l = true) : Con Try.prog 45 [.agg [.v (.int .i64 keep), .ro false 3 (l.map eK)], .one (.v (.int .u64 number))] (fun rx rK rt => rx = .tup [.one (.v (.int .i64 (i : Int))), .one (.v (.bool true))] ∧ rK = [] ∧ rt = 0) := by
  have := find_con keep number l hl
  rw [ha, hi] at this; exact this
theorem find_n (keep number : Int) (l : List Kp) (hl : l.length ≤ 9223372036854775807) (ha : anyN number l = false) : Con Try.prog 45 [.agg [.v (.int .i64 keep), .ro false 3 (l.map eK)], .one (.v (.int .u64 number))] (fun rx rK rt => rx = .tup [.one (.v (.int .i64 (-1))), .one (.v (.bool false))] ∧ rK = [] ∧ rt = 0) := by
  have := find_con keep number l hl
  rw [ha] at this; exact this
theorem anyN_get {number : Int} : ∀ {l : List Kp}, anyN number l = true → ∃ x, l[idxN number l]? = some x ∧ x.num = number
  | [], h => by simp [anyN] at h
  | q :: l, h => by
    unfold idxN
    rw [List.findIdx_cons]
    by_cases e : q.num = number
    · exact ⟨q, by simp [e], e⟩
    · have h2 : anyN number l = true := by unfold anyN at h ⊢; simpa [e] using h
      obtain ⟨x, hx, hn⟩ := anyN_get h2
      exact ⟨x, by simp [e]; exact hx, hn⟩
def plK (x : Kp) : Bool := !x.save && !x.opn
def npl (l : List Kp) : Nat := l.countP plK
def keptF (k : Int) : List Kp → List Kp
  | [] => []
  | x :: r => bif plK x && decide (k ≤ (npl r : Int)) then keptF k r else x :: keptF k r
def goneF (k : Int) : List Kp → List Int
  | [] => []
  | x :: r => bif plK x && decide (k ≤ (npl r : Int)) then x.num :: goneF k r else goneF k r
theorem keptF_len (k : Int) : ∀ l : List Kp, (keptF k l).length + (goneF k l).length = l.length
  | [] => rfl
  | x :: r => by
    have := keptF_len k r
    unfold keptF goneF
    cases plK x && decide (k ≤ (npl r : Int)) <;> simp only [cond_true, cond_false, List.length_cons] <;> omega
theorem keptF_nil (k : Int) {l : List Kp} (h : goneF k l = []) : keptF k l = l := by
  induction l with
  | nil => rfl
  | cons x r ih =>
    unfold goneF at h; unfold keptF
    revert h
    cases plK x && decide (k ≤ (npl r : Int)) with
    | true => intro h; cases h
    | false => intro h; exact congrArg (x :: ·) (ih h)
def inv (keep : Int) (l : List Kp) (m : Nat) (kp : Int) (g : List Int) (K : List Kp) : Prop := m ≤ l.length ∧ kp = keep - (npl (l.drop m) : Int) ∧ g = (goneF keep (l.drop m)).reverse ∧ K = l.take m ++ keptF keep (l.drop m)
theorem inv_0 (keep : Int) (l : List Kp) : inv keep l l.length keep [] l := ⟨Nat.le_refl _, by simp [npl], by simp [goneF], by simp [keptF]⟩
section
variable {keep kp : Int} {l K : List Kp} {m : Nat} {g : List Int} {x : Kp}
theorem inv_len (h : inv keep l m kp g K) : K.length ≤ l.length ∧ g.length ≤ l.length ∧ g.length + K.length = l.length := by
  obtain ⟨h1, h2, h3, h4⟩ := h
  have := keptF_len keep (l.drop m)
  rw [List.length_drop] at this
  subst h3 h4
  simp only [List.length_append, List.length_take, List.length_reverse]
  omega
theorem inv_at (h : inv keep l (m + 1) kp g K) (hx : l[m]? = some x) : K[m]? = some x ∧ m < K.length := by
  obtain ⟨h1, h2, h3, h4⟩ := h
  have : K[m]? = some x := by
    subst h4
    rw [List.getElem?_append_left (by rw [List.length_take]; omega), List.getElem?_take_of_lt (by omega)]; exact hx
  exact ⟨this, (List.getElem?_eq_some_iff.1 this).1⟩
theorem inv_non (h : inv keep l (m + 1) kp g K) (hx : l[m]? = some x) (hp : plK x = false) : inv keep l m kp g K := by
  obtain ⟨h1, h2, h3, h4⟩ := h
  have hd := drop_cons hx
  refine ⟨by omega, ?_, ?_, ?_⟩
  · rw [hd, h2]; unfold npl; rw [List.countP_cons_of_neg (by simp [hp])]
  · rw [hd, h3]; conv => rhs; unfold goneF
    rw [hp]; rfl
  · rw [hd, h4, take_snoc hx]; conv => rhs; unfold keptF
    rw [hp]; simp
theorem inv_keep (h : inv keep l (m + 1) kp g K) (hx : l[m]? = some x) (hp : plK x = true) (h0 : 0 ≤ kp - 1) : inv keep l m (kp - 1) g K := by
  obtain ⟨h1, h2, h3, h4⟩ := h
  have hd := drop_cons hx
  have hc : decide (keep ≤ (npl (l.drop (m + 1)) : Int)) = false := decide_eq_false (by omega)
  refine ⟨by omega, ?_, ?_, ?_⟩
  · rw [hd, h2]; unfold npl; rw [List.countP_cons_of_pos (by simp [hp])]; omega
  · rw [hd, h3]; conv => rhs; unfold goneF
    rw [hp, hc]; rfl
  · rw [hd, h4, take_snoc hx]; conv => rhs; unfold keptF
    rw [hp, hc]; simp
theorem inv_drop (h : inv keep l (m + 1) kp g K) (hx : l[m]? = some x) (hp : plK x = true) (h0 : kp - 1 < 0) : inv keep l m (kp - 1) (g ++ [x.num]) (K.eraseIdx m) := by
  obtain ⟨h1, h2, h3, h4⟩ := h
  have hd := drop_cons hx
  have hc : decide (keep ≤ (npl (l.drop (m + 1)) : Int)) = true := decide_eq_true (by omega)
  refine ⟨by omega, ?_, ?_, ?_⟩
  · rw [hd, h2]; unfold npl; rw [List.countP_cons_of_pos (by simp [hp])]; omega
  · rw [hd, h3]; conv => rhs; unfold goneF
    rw [hp, hc]; simp
  · rw [hd, h4, take_snoc hx]; conv => rhs; unfold keptF
    rw [hp, hc, List.append_assoc]
    have : (l.take m).length = m := by rw [List.length_take]; omega
    rw [List.eraseIdx_append_of_length_le (by omega), this, Nat.sub_self]; rfl
theorem inv_end (h : inv keep l 0 kp g K) : g = (goneF keep l).reverse ∧ K = keptF keep l := by
  obtain ⟨h1, h2, h3, h4⟩ := h
  exact ⟨by simpa using h3, by simpa using h4⟩
end
theorem okR_mono {a b : Kp} {l : List Kp} (h : okR a l = true) (h1 : b.num ≤ a.num) (h2 : b.opn = true → a.opn = true) : okR b l = true := by
  cases l with
  | nil => rfl
  | cons r rs =>
    simp only [okR, Bool.and_eq_true, decide_eq_true_eq] at h ⊢
    exact ⟨⟨by omega, h.1.2.1, fun e => h.1.2.2 (h2 e)⟩, h.2⟩
theorem okR_kept {k : Int} : ∀ {l : List Kp} {a : Kp}, okR a l = true → okR a (keptF k l) = true
  | [], _, _ => rfl
  | x :: r, a, h => by
    simp only [okR, Bool.and_eq_true, decide_eq_true_eq] at h
    have h3 := okR_kept (k := k) h.2
    unfold keptF
    cases plK x && decide (k ≤ (npl r : Int)) with
    | true => exact okR_mono h3 (by omega) h.1.2.2
    | false =>
      simp only [cond_false, okR, Bool.and_eq_true, decide_eq_true_eq]
      exact ⟨h.1, h3⟩
theorem okR_gt : ∀ {l : List Kp} {a x : Kp}, okR a l = true → x ∈ l → a.num < x.num
  | [], _, _, _, h => by cases h
  | r :: rs, a, x, h, hx => by
    simp only [okR, Bool.and_eq_true, decide_eq_true_eq] at h
    rcases List.mem_cons.1 hx with rfl | hx
    · exact h.1.1
    · have := okR_gt h.2 hx; omega
theorem okR_uniq : ∀ {l : List Kp} {a x y : Kp}, okR a l = true → x ∈ l → y ∈ l → x.num = y.num → x = y
  | [], _, _, _, _, h, _, _ => by cases h
  | r :: rs, a, x, y, h, hx, hy, e => by
    simp only [okR, Bool.and_eq_true, decide_eq_true_eq] at h
    rcases List.mem_cons.1 hx with rfl | hx' <;> rcases List.mem_cons.1 hy with rfl | hy'
    · rfl
    · have := okR_gt h.2 hy'; omega
    · have := okR_gt h.2 hx'; omega
    · exact okR_uniq h.2 hx' hy' e
theorem okR_set : ∀ {l : List Kp} {i : Nat} {a q y : Kp}, l[i]? = some q → y.num = q.num → y.opn = q.opn → okR a (l.set i y) = okR a l
  | [], _, _, _, _, h, _, _ => by simp at h
  | r :: rs, 0, a, q, y, h, e1, e2 => by
    simp only [List.getElem?_cons_zero, Option.some.injEq] at h
    subst h
    simp only [List.set_cons_zero, okR, e1, e2]
    congr 1
    cases rs with
    | nil => rfl
    | cons s t => simp only [okR, e1, e2]
  | r :: rs, i + 1, a, q, y, h, e1, e2 => by
    simp only [List.set_cons_succ, okR]
    rw [okR_set (by simpa using h) e1 e2]
theorem okS_set {keep : Int} {l : List Kp} {i : Nat} {q y : Kp} (h : okS keep l = true) (hq : l[i]? = some q) (e1 : y.num = q.num) (e2 : y.opn = q.opn) : okS keep (l.set i y) = true := by
  unfold okS at h ⊢
  rw [List.length_set, okR_set hq e1 e2]; exact h
theorem okS_kept {keep : Int} {l : List Kp} (h : okS keep l = true) : okS keep (keptF keep l) = true := by
  unfold okS at h ⊢
  simp only [Bool.and_eq_true, decide_eq_true_eq] at h ⊢
  have := keptF_len keep l
  exact ⟨⟨h.1.1, by omega⟩, okR_kept h.2⟩
theorem kept_mem {k : Int} {x : Kp} (hp : plK x = false) : ∀ {l : List Kp}, x ∈ l → x ∈ keptF k l
  | [], h => h
  | r :: rs, h => by
    unfold keptF
    rcases List.mem_cons.1 h with rfl | h
    · rw [hp]; simp
    · have := kept_mem (k := k) hp h
      cases plK r && decide (k ≤ (npl rs : Int)) <;> simp [this]
theorem anyN_mem {n : Int} {l : List Kp} {x : Kp} (h : x ∈ l) (e : x.num = n) : anyN n l = true := List.any_eq_true.2 ⟨x, h, decide_eq_true e⟩
theorem idxN_set : ∀ {l : List Kp} {i : Nat} {n : Int} {q y : Kp}, l[i]? = some q → y.num = q.num → idxN n (l.set i y) = idxN n l
  | [], _, _, _, _, h, _ => by simp at h
  | r :: rs, 0, n, q, y, h, e1 => by
    simp only [List.getElem?_cons_zero, Option.some.injEq] at h
    subst h
    simp only [List.set_cons_zero, idxN, List.findIdx_cons, e1]
  | r :: rs, i + 1, n, q, y, h, e1 => by
    have := idxN_set (n := n) (by simpa using h) e1
    simp only [idxN, List.set_cons_succ, List.findIdx_cons] at this ⊢
    rw [this]
structure Rs where
  keep : Int
  rows : List Kp
  gone : List Int
  err : Int
def okRs (keep : Int) (l : List Kp) : Rs := ⟨keep, keptF keep l, goneF keep l, 0⟩
def atR (keep n : Int) (l : List Kp) (k : Nat → Kp → Rs) : Rs := bif okS keep l then (match l[idxN n l]? with
  | some q => k (idxN n l) q
  | none => ⟨0, [], [], 4⟩) else ⟨0, [], [], 330⟩
def markR (keep n : Int) (l : List Kp) : Rs := atR keep n l fun i q => bif q.save then ⟨0, [], [], 5⟩ else okRs keep (l.set i ⟨q.num, true, q.opn⟩)
def relR (keep n : Int) (l : List Kp) : Rs := atR keep n l fun i q => bif q.save then okRs keep (l.set i ⟨q.num, false, q.opn⟩) else ⟨0, [], [], 2⟩
theorem atR_bad {keep n : Int} {l : List Kp} {k : Nat → Kp → Rs} (h : okS keep l = false) : atR keep n l k = ⟨0, [], [], 330⟩ := by unfold atR; rw [h]; rfl
theorem idxN_none {n : Int} : ∀ {l : List Kp}, anyN n l = false → l[idxN n l]? = none
  | [], _ => rfl
  | r :: rs, h => by
    unfold anyN at h
    simp only [List.any_cons, Bool.or_eq_false_iff] at h
    unfold idxN
    rw [List.findIdx_cons, h.1]
    have := idxN_none (n := n) (l := rs) h.2
    simpa [idxN] using this
theorem atR_none {keep n : Int} {l : List Kp} {k : Nat → Kp → Rs} (h : okS keep l = true) (h2 : anyN n l = false) : atR keep n l k = ⟨0, [], [], 4⟩ := by unfold atR; rw [h, idxN_none h2]; rfl
theorem atR_some {keep n : Int} {l : List Kp} {k : Nat → Kp → Rs} {i : Nat} {q : Kp} (h : okS keep l = true) (hi : idxN n l = i) (hq : l[i]? = some q) : atR keep n l k = k i q := by subst hi; unfold atR; rw [h, hq]; rfl
theorem mark_err {keep n : Int} {l : List Kp} (h : (markR keep n l).err ≠ 0) : (markR keep n l).rows = [] := by
  revert h
  unfold markR atR
  cases okS keep l with
  | false => intro _; rfl
  | true =>
    cases l[idxN n l]? with
    | none => intro _; rfl
    | some q => cases hs : q.save <;> intro h <;> simp [okRs, hs] at h ⊢
theorem marks_ok {keep n : Int} {l : List Kp} (h : (markR keep n l).err = 0) : (markR keep n l).keep = keep ∧ (relR keep n (markR keep n l).rows).err = 0 ∧ (relR keep n (markR keep n l).rows).rows.length + (relR keep n (markR keep n l).rows).gone.length = (markR keep n l).rows.length ∧ ((markR keep n l).rows.length = l.length → (relR keep n (markR keep n l).rows).gone = [] → (relR keep n (markR keep n l).rows).keep = keep ∧ (relR keep n (markR keep n l).rows).rows = l) ∧ (markR keep n l).rows.length ≤ 16 := by
  cases hk : okS keep l with
  | false => unfold markR at h; rw [atR_bad hk] at h; simp at h
  | true =>
    cases ha : anyN n l with
    | false => unfold markR at h; rw [atR_none hk ha] at h; simp at h
    | true =>
      obtain ⟨q, hq, hn⟩ := anyN_get ha
      cases hs : q.save with
      | true => unfold markR at h; rw [atR_some hk rfl hq, hs] at h; simp at h
      | false =>
        have e : markR keep n l = okRs keep (l.set (idxN n l) ⟨q.num, true, q.opn⟩) := by unfold markR; rw [atR_some hk rfl hq, hs]; rfl
        rw [e]
        have hk1 := okS_set hk hq (y := ⟨q.num, true, q.opn⟩) rfl rfl
        have hk2 := okS_kept hk1
        have hil := (List.getElem?_eq_some_iff.1 hq).1
        have hm1 : (⟨q.num, true, q.opn⟩ : Kp) ∈ l.set (idxN n l) ⟨q.num, true, q.opn⟩ := List.mem_iff_getElem?.2 ⟨idxN n l, by simp [hil]⟩
        have hm := kept_mem (k := keep) rfl hm1
        have ha2 := anyN_mem (n := n) hm hn
        generalize hL : l.set (idxN n l) ⟨q.num, true, q.opn⟩ = L at *
        simp only [okRs]
        obtain ⟨q2, hq2, hn2⟩ := anyN_get ha2
        have hu : q2 = ⟨q.num, true, q.opn⟩ := okR_uniq (by unfold okS at hk2; simp only [Bool.and_eq_true] at hk2; exact hk2.2) (List.mem_of_getElem? hq2) hm (by rw [hn2, ← hn])
        have e2 : relR keep n (keptF keep L) = okRs keep ((keptF keep L).set (idxN n (keptF keep L)) ⟨q.num, false, q.opn⟩) := by unfold relR; rw [atR_some hk2 rfl hq2, hu]; rfl
        rw [e2]
        refine ⟨trivial, rfl, ?_, fun h1 h2 => ⟨rfl, ?_⟩, ?_⟩
        · have := keptF_len keep ((keptF keep L).set (idxN n (keptF keep L)) ⟨q.num, false, q.opn⟩)
          rw [List.length_set] at this; exact this
        · have hl := keptF_len keep L
          have hLl : L.length = l.length := by rw [← hL, List.length_set]
          have hg : goneF keep L = [] := List.eq_nil_of_length_eq_zero (by omega)
          have hK := keptF_nil keep hg
          simp only [okRs] at h2 ⊢
          rw [keptF_nil keep h2, hK]
          have hix : idxN n L = idxN n l := by rw [← hL]; exact idxN_set hq rfl
          rw [hix, ← hL, List.set_set]
          have hqq : (⟨q.num, false, q.opn⟩ : Kp) = q := by cases q; simp_all
          rw [hqq]
          exact List.ext_getElem? fun j => by
            rw [List.getElem?_set]
            split
            · next e => subst e; rw [hq]
            · rfl
        · unfold okS at hk2; simp only [Bool.and_eq_true, decide_eq_true_eq] at hk2; exact hk2.1.2
theorem marks_ok2 {keep n : Int} {l : List Kp} (h : (markR keep n l).err = 0) : (markR keep n l).keep = keep ∧ (relR (markR keep n l).keep n (markR keep n l).rows).err = 0 ∧ (relR (markR keep n l).keep n (markR keep n l).rows).rows.length + (relR (markR keep n l).keep n (markR keep n l).rows).gone.length = (markR keep n l).rows.length ∧ ((markR keep n l).rows.length = l.length → (relR (markR keep n l).keep n (markR keep n l).rows).gone = [] → (relR (markR keep n l).keep n (markR keep n l).rows).keep = keep ∧ (relR (markR keep n l).keep n (markR keep n l).rows).rows = l) ∧ (markR keep n l).rows.length ≤ 16 := by
  have h1 := marks_ok h
  refine ⟨h1.1, ?_⟩
  rw [h1.1]; exact h1.2
theorem mark_len {keep n : Int} {l : List Kp} : (markR keep n l).rows.length ≤ 16 := by
  by_cases h : (markR keep n l).err = 0
  · exact (marks_ok h).2.2.2.2
  · rw [mark_err h]; exact Nat.zero_le _
abbrev eU (z : Int) : List RT := [RT.v (.int .u64 z)]
abbrev cU (z : Int) : List Ce := [Ce.v (.int .u64 z)]
def zK : Kp := ⟨0, false, false⟩
def padK (N : Nat) (K : List Kp) : List Kp := K ++ List.replicate (N - K.length) zK
theorem padK_len {N : Nat} {K : List Kp} (h : K.length ≤ N) : (padK N K).length = N := by
  simp only [padK, List.length_append, List.length_replicate]; omega
theorem padK_full {K : List Kp} : padK K.length K = K := by simp [padK]
theorem padK_take {N n : Nat} {K : List Kp} (h : n = K.length) : List.take n ((padK N K).map cK) = K.map cK := by
  subst h
  unfold padK; rw [List.map_append, List.take_left' (by simp)]
theorem pad_drop {N i m : Nat} {K : List Kp} (hm : m = K.length) : List.take (m - (i + 1)) (List.drop (0 + (i + 1)) ((padK N K).map cK)) = (K.map cK).drop (i + 1) := by
  subst hm
  unfold padK
  rw [Nat.zero_add, List.map_append]
  rcases Nat.lt_or_ge (i + 1) (K.map cK).length with h | h
  · rw [List.drop_append_of_le_length (by omega), List.take_left' (by simp)]
  · rw [List.length_map] at h
    rw [show K.length - (i + 1) = 0 by omega, List.take_zero, List.drop_eq_nil_of_le (by simpa using h)]
theorem pad_del {N i : Nat} {K : List Kp} {R : List (List Ce)} (hi : i < K.length) (hN : K.length ≤ N) (hR : R = (K.map cK).drop (i + 1)) : lay (lay ((padK N K).map cK) (i - 0) R) (0 + (K.length - 1)) [cK zK] = (padK N (K.eraseIdx i)).map cK := by
  subst hR
  unfold padK
  rw [List.length_eraseIdx, if_pos hi, List.eraseIdx_eq_take_drop_succ, List.map_append, List.map_append, List.map_append, List.map_take, List.map_drop, List.map_replicate, List.map_replicate, show N - (K.length - 1) = (N - K.length) + 1 by omega, List.replicate_succ]
  generalize hM : K.map cK = M
  have hl : M.length = K.length := by rw [← hM, List.length_map]
  generalize List.replicate (N - K.length) (cK zK) = Z
  rw [Nat.sub_zero, Nat.zero_add]
  unfold lay
  have e1 : (List.take i (M ++ Z) : List (List Ce)) = M.take i := List.take_append_of_le_length (by omega)
  have e2 : List.drop (i + (List.drop (i + 1) M).length) (M ++ Z) = M.drop (K.length - 1) ++ Z := by
    rw [List.length_drop, show i + (M.length - (i + 1)) = K.length - 1 by omega, List.drop_append_of_le_length (by omega)]
  rw [e1, e2, ← List.append_assoc (M.take i)]
  have e3 : (M.take i ++ M.drop (i + 1)).length = K.length - 1 := by simp; omega
  have e4 : (M.drop (K.length - 1)).length = 1 := by simp; omega
  generalize M.take i ++ M.drop (i + 1) = A at *
  generalize M.drop (K.length - 1) = B at *
  rw [List.take_left' e3, show K.length - 1 + [cK zK].length = A.length + B.length by simp; omega, ← List.append_assoc, ← List.append_assoc A, List.drop_left' (by simp)]
  simp
theorem ren_cK {L : List Kp} {r : Nat → Nat} : (L.map cK).map (List.map (Ce.ren r)) = L.map cK := by rw [List.map_map]; exact List.map_congr_left fun x _ => rfl
theorem set_cK {l : List Kp} {i : Nat} {y : Kp} {r : Nat → Nat} : ((l.map cK).map (List.map (Ce.ren r))).set (0 + i) (cK y) = (l.set i y).map cK := by rw [ren_cK, Nat.zero_add, ← List.map_set]
theorem pad_cK {L : List Kp} {n : Nat} (h : L.length = n) : L.map cK = (padK n L).map cK := by subst h; rw [padK_full]
theorem inv_len0 (keep : Int) {l : List Kp} {n : Nat} (h : l.length = n) : inv keep l n keep [] l := by subst h; exact inv_0 keep l
theorem inv_kp {keep kp : Int} {l K : List Kp} {m : Nat} {g : List Int} (h : inv keep l m kp g K) : kp ≤ keep ∧ keep - (l.length : Int) ≤ kp := by
  obtain ⟨h1, h2, _, _⟩ := h
  have h3 : npl (l.drop m) ≤ (l.drop m).length := List.countP_le_length
  rw [List.length_drop] at h3
  omega
theorem okS_keep {keep : Int} {l : List Kp} (h : okS keep l = true) : 1 ≤ keep ∧ keep ≤ 4 ∧ l.length ≤ 16 := by
  unfold okS at h; simp only [Bool.and_eq_true, decide_eq_true_eq] at h; omega
theorem wr_to {z : Int} {A : Int → Prop} (v : Int) (e : z = v) (h1 : -9223372036854775808 ≤ v ∧ v ≤ 9223372036854775807) (k : A v) : wr .i64 z A := by subst e; exact wr_i64 h1 k
theorem pad_del2 {N i c : Nat} {K : List Kp} {R : List (List Ce)} {z : List Ce} (hc : c = 1) (hz : z = cK zK) (hi : i < K.length) (hN : K.length ≤ N) (hR : R = (K.map cK).drop (i + 1)) : lay (lay ((padK N K).map cK) (i - 0) R) (0 + (K.length - 1)) (List.replicate c z) = (padK N (K.eraseIdx i)).map cK := by
  subst hc hz; exact pad_del hi hN hR
/-- What a row is, while it is turned round from both ends. -/
def revI (g : List Int) (i : Nat) (cur : List Int) : Prop := i ≤ g.length ∧ cur.length = g.length ∧ ∀ k, k < g.length → cur[k]? = if i ≤ k ∧ k + i < g.length then g[k]? else g[g.length - 1 - k]?
theorem revI_0 (g : List Int) : revI g 0 g := ⟨Nat.zero_le _, rfl, fun k h => by rw [if_pos ⟨Nat.zero_le _, h⟩]⟩
theorem revI_end {g cur : List Int} {i : Nat} (h : revI g i cur) (he : g.length ≤ i + i + 1) : cur = g.reverse := by
  obtain ⟨_, h2, h3⟩ := h
  refine List.ext_getElem? fun k => ?_
  rcases Nat.lt_or_ge k g.length with hk | hk
  · rw [h3 k hk, List.getElem?_reverse hk]
    split
    · next h4 => rw [show g.length - 1 - k = k by omega]
    · rfl
  · rw [List.getElem?_eq_none (by omega), List.getElem?_eq_none (by simpa using hk)]
theorem revI_at {g cur : List Int} {i : Nat} (h : revI g i cur) (hi : i + i + 1 < g.length) : (∃ a, cur[i]? = some a ∧ g[i]? = some a) ∧ ∃ b, cur[g.length - 1 - i]? = some b ∧ g[g.length - 1 - i]? = some b := by
  obtain ⟨_, h2, h3⟩ := h
  have h4 := h3 i (by omega)
  have h5 := h3 (g.length - 1 - i) (by omega)
  rw [if_pos (by omega)] at h4 h5
  exact ⟨⟨g[i]'(by omega), by rw [h4]; simp, by simp⟩, ⟨g[g.length - 1 - i]'(by omega), by rw [h5]; simp, by simp⟩⟩
theorem revI_step {g cur : List Int} {i : Nat} {a b : Int} (h : revI g i cur) (hi : i + i + 1 < g.length) (ha : g[i]? = some a) (hb : g[g.length - 1 - i]? = some b) : revI g (i + 1) ((cur.set i b).set (g.length - 1 - i) a) := by
  obtain ⟨_, h2, h3⟩ := h
  refine ⟨by omega, by simpa using h2, fun k hk => ?_⟩
  rw [List.getElem?_set, List.getElem?_set, List.length_set, h2]
  rcases Nat.lt_trichotomy k i with h4 | h4 | h4
  · rw [if_neg (by omega), if_neg (by omega), if_neg (by omega), h3 k hk, if_neg (by omega)]
  · subst h4
    rw [if_neg (by omega), if_pos rfl, if_pos hk, if_neg (by omega), hb]
  · by_cases h5 : g.length - 1 - i = k
    · rw [if_pos h5, if_pos (by omega), if_neg (by omega), ← ha]; congr 1; omega
    · rw [if_neg h5, if_neg (by omega), h3 k hk]
      by_cases h6 : k + i < g.length
      · rw [if_pos (by omega), if_pos (by omega)]
      · rw [if_neg (by omega), if_neg (by omega)]
theorem gone_nil {k : Int} {l : List Kp} (h : [] = (goneF k l).reverse) : goneF k l = [] := by simpa using h.symm
theorem fz_cur {K : Nat → Option Blk} {cur : List Int} {i : Nat} {g0 : Int} {gs : List Int} (h : K i = some ⟨cur.map cU, 1, 25, false⟩) (hc : cur.length = (g0 :: gs).length) : Z.frzC K (.gsl i (cur.map cU)) (.ro true 1 (cur.map eU)) := by
  refine ⟨1, 25, _, rfl, ?_, by rw [List.map_map, List.map_map]; exact List.map_congr_left fun x _ => rfl⟩
  cases cur with
  | nil => simp at hc
  | cons c cs => exact h
theorem plain_con (x : Kp)  : Con Try.prog 50 [.agg [.v (.int .u64 x.num), .v (.bool x.save), .v (.bool x.opn)]] (fun rx rK rt => rx = .val (.bool (plK x)) ∧ rK = [] ∧ rt = 0) := by
  refine Z.con_ofF tabOk 8 Try.f50 _ Try.func50 (by kernel_rfl) rfl rfl rfl rfl ?_
  repeat' ((conv => whnf); first
    | with_reducible first | refine spB_t ?_
    | ((with_reducible apply spB_cong); (focus (simp only [beq_self_eq_true, bne_self_eq_false, Bool.true_bne, Bool.false_bne, Bool.bne_true, Bool.bne_false, Bool.true_beq, Bool.false_beq, Bool.not_true, Bool.not_false, Bool.not_not, Int.reduceBEq, Int.reduceBNe, Int.reduceLE, Int.reduceLT, Int.reduceEq, decide_true, decide_false]; rfl)))
    | with_reducible first | refine spB_yes (by decide) ?_ | refine spB_no (by decide) ?_ | refine spB_f ?_ | refine spB_not ?_ | refine spB_yes (by assumption) ?_ | refine spB_no (by assumption) ?_
    | (with_reducible refine spB_dec ?_ ?_ <;> intro _ <;> (try (exfalso; first | contradiction | omega | (rename_i hz; with_reducible exact absurd rfl hz))))
    | (with_reducible refine spB_beq ?_ ?_ <;> intro _ <;> (try (exfalso; first | contradiction | omega | (rename_i hz; with_reducible exact absurd rfl hz))))
    | (with_reducible refine spB_bne ?_ ?_ <;> intro _ <;> (try (exfalso; first | contradiction | omega | (rename_i hz; with_reducible exact absurd rfl hz))))
    | (with_reducible refine spB_mk ?_ ?_ <;> intro _ <;> (try (exfalso; first | contradiction | omega | (rename_i hz; with_reducible exact absurd rfl hz))))
    | ((with_reducible apply rowN_mk); (focus rfl))
    | ((with_reducible apply ixN_lit); (focus (exact rfl)); (focus (exact rfl)))
    | ((with_reducible apply ixN_litp); (focus (exact rfl)); (focus ((try simp only [LN] at *) <;> omega)))
    | ((with_reducible refine eqN_mk2 ?_ ?_); (focus rfl))
    | with_reducible refine wr_i64 (by first | omega | (simp only [LN] at *; omega)) ?_
    | with_reducible refine wr_u64 (by omega) ?_
    | with_reducible first | refine wr_mk _ rfl ?_
    | ((with_reducible refine ixN_nat ?_ ?_); (focus ((try simp only [LN] at *) <;> omega)))
    | ((with_reducible refine rowN_map ?_ ?_); (focus ((try simp only [LN] at *) <;> omega)); intro x hx)
    | with_reducible refine eqN_dec (by omega) ?_
    | with_reducible first | refine apN_mk (by kernel_rfl) ?_
    | ((with_reducible refine eqN_mk2 ?_ ?_); (focus (exact Z.kb_some rfl)))
    | ((with_reducible apply ex_and); exact rfl))
  all_goals (try (conv => whnf))
  all_goals first
    | ((first | (with_reducible apply Z.retF1) | (with_reducible apply Z.retF2) | (with_reducible apply Z.retF0)); (focus (exact rfl)); (repeat' (first | exact trivial | (with_reducible apply Z.frz_one) | (with_reducible apply Z.frz_agg) | (with_reducible apply Z.fq_int) | (with_reducible apply Z.fq_bool) | (exact Z.frz_nil) | (exact Z.frz_osl0 rfl rfl rfl) | (with_reducible apply Z.fq_nil) | (with_reducible apply Z.fq_ro) | ((with_reducible apply Z.fq_gsl); (focus (first | rfl | exact Z.isB_map _ | exact Z.gB_snoc.symm)); (focus (exact fun _ => rfl))) | ((with_reducible apply Z.fq_osl); (focus (exact rfl)); (focus (first | exact rfl | (simp only [List.length_map, Nat.zero_add]; done) | ((try simp only [LN] at *) <;> omega))); (focus (exact fun _ => rfl))) | ((with_reducible apply Z.fq_src); (focus (exact rfl)); (focus (first | exact rfl | (simp only [List.length_map, Nat.zero_add]; done) | ((try simp only [LN] at *) <;> omega))); (focus (exact fun _ => rfl))) | exact rfl | ((apply Z.fq_osl); (focus (exact rfl)); (focus (first | exact rfl | (simp only [List.length_map, Nat.zero_add]; done) | ((try simp only [LN] at *) <;> omega))); (focus (exact fun _ => rfl))) | ((apply Z.fq_src); (focus (exact rfl)); (focus (first | exact rfl | (simp only [List.length_map, Nat.zero_add]; done) | ((try simp only [LN] at *) <;> omega))); (focus (exact fun _ => rfl))) | (apply Z.fq_ro) | (apply Z.fq_int) | (apply Z.fq_bool) | apply And.intro)); (all_goals (try exact (fun _ => none))); all_goals (first | rfl | (unfold plK; simp_all; done) | (unfold plK; cases x.save <;> cases x.opn <;> simp)))
    | (fail)

end Go.Proofs.Ytnlcmncfbiognaa
