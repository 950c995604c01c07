import Derived.Test.YtnlcmncfbiognaaRa7
import Derived.Test.YtnlcmncfbiognaaRc2
import Derived.Test.YtnlcmncfbiognaaRd3
import Derived.Test.YtnlcmncfbiognaaRa8
import Derived.Test.YtnlcmncfbiognaaWzm
namespace Go.Proofs.Ytnlcmncfbiognaa
open Go Go.RowKit Wx
set_option linter.unusedVariables false
set_option linter.unusedSimpArgs false
set_option maxHeartbeats 4000000
def opens (l : List Kp) : Nat := l.countP (fun q => q.opn)
def hasL (n : Int) (save : Bool) (l : List Kp) : Prop := ∃ pre x, l = pre ++ [x] ∧ x.num = n ∧ x.save = save
theorem put_err {keep n : Int} {save : Bool} {l : List Kp} (h : (putR keep n save l).err ≠ 0) : (putR keep n save l).rows = [] := by
  revert h
  unfold putR fullR
  cases okS keep l <;> cases decide ((lastK l).num < n ∧ n ≤ 4611686018427387904) <;> cases decide ((keptF keep (l ++ [⟨n, save, true⟩])).length ≤ 16) <;> simp [okRs]
theorem okR_snoc : ∀ {l : List Kp} {a y : Kp}, okR a l = true → (l.getLast?.getD a).num < y.num → y.num ≤ 4611686018427387904 → y.opn = true → okR a (l ++ [y]) = true
  | [], a, y, _, h1, h2, h3 => by
    simp only [List.getLast?_nil, Option.getD_none] at h1
    simp [okR, h1, h2, h3]
  | r :: rs, a, y, h, h1, h2, h3 => by
    simp only [okR, Bool.and_eq_true, decide_eq_true_eq] at h
    have h4 : okR r (rs ++ [y]) = true := okR_snoc h.2 (by
      cases rs with
      | nil => simpa using h1
      | cons s t =>
        rw [List.getLast?_cons_cons] at h1
        cases hs : (s :: t).getLast? with
        | none => simp at hs
        | some v => rw [hs] at h1; exact h1) h2 h3
    simp only [List.cons_append, okR, Bool.and_eq_true, decide_eq_true_eq]
    exact ⟨h.1, h4⟩
theorem kept_last {k : Int} (hk : 1 ≤ k) {x : Kp} : ∀ pre : List Kp, ∃ pre', keptF k (pre ++ [x]) = pre' ++ [x]
  | [] => ⟨[], by
    rw [List.nil_append]; unfold keptF
    rw [show decide (k ≤ (npl ([] : List Kp) : Int)) = false from decide_eq_false (by simp [npl]; omega), Bool.and_false]; rfl⟩
  | y :: pre => by
    obtain ⟨p, hp⟩ := kept_last hk (x := x) pre
    rw [List.cons_append]; unfold keptF
    cases plK y && decide (k ≤ (npl (pre ++ [x]) : Int)) with
    | true => exact ⟨p, hp⟩
    | false => exact ⟨y :: p, by simp [hp]⟩
theorem gone_last {k : Int} (hk : 1 ≤ k) {x : Kp} : ∀ {pre : List Kp} {a : Kp}, okR a (pre ++ [x]) = true → ∀ g ∈ goneF k (pre ++ [x]), g ≠ x.num
  | [], a, h, g, hg => by
    rw [List.nil_append] at hg; unfold goneF at hg
    rw [show decide (k ≤ (npl ([] : List Kp) : Int)) = false from decide_eq_false (by simp [npl]; omega), Bool.and_false] at hg
    simp [goneF] at hg
  | y :: pre, a, h, g, hg => by
    simp only [List.cons_append, okR, Bool.and_eq_true, decide_eq_true_eq] at h
    have hx := okR_gt h.2 (x := x) (by simp)
    rw [List.cons_append] at hg; unfold goneF at hg
    revert hg
    cases plK y && decide (k ≤ (npl (pre ++ [x]) : Int)) with
    | true =>
      intro hg
      rcases List.mem_cons.1 hg with rfl | hg
      · omega
      · exact gone_last hk h.2 g hg
    | false => intro hg; exact gone_last hk h.2 g hg
theorem opens_kept {k : Int} : ∀ l : List Kp, opens (keptF k l) ≤ opens l
  | [] => Nat.le_refl _
  | x :: r => by
    have := opens_kept (k := k) r
    unfold keptF
    cases hp : plK x && decide (k ≤ (npl r : Int)) with
    | true =>
      simp only [cond_true, opens] at this ⊢
      rw [List.countP_cons]; omega
    | false =>
      simp only [cond_false, opens] at this ⊢
      rw [List.countP_cons, List.countP_cons]; omega
theorem okR_open : ∀ {l : List Kp} {a q : Kp}, okR a l = true → a.opn = false → l[idxO l]? = some q → okR a (l.set (idxO l) ⟨q.num, q.save, false⟩) = true
  | [], _, _, _, _, h => by simp at h
  | r :: rs, a, q, h, ha, hq => by
    simp only [okR, Bool.and_eq_true, decide_eq_true_eq] at h
    cases hr : r.opn with
    | true =>
      have hi : idxO (r :: rs) = 0 := by unfold idxO; rw [List.findIdx_cons, hr]; rfl
      rw [hi] at hq ⊢
      simp only [List.getElem?_cons_zero, Option.some.injEq] at hq
      subst hq
      simp only [List.set_cons_zero, okR, Bool.and_eq_true, decide_eq_true_eq]
      exact ⟨⟨h.1.1, h.1.2.1, fun e => by rw [ha] at e; cases e⟩, okR_mono h.2 (Int.le_refl _) (fun e => by cases e)⟩
    | false =>
      have hi : idxO (r :: rs) = idxO rs + 1 := by unfold idxO; rw [List.findIdx_cons, hr]; rfl
      rw [hi] at hq ⊢
      simp only [List.set_cons_succ, okR, Bool.and_eq_true, decide_eq_true_eq]
      exact ⟨h.1, okR_open h.2 hr (by simpa using hq)⟩
theorem anyO_get : ∀ {l : List Kp}, anyO l = true → ∃ q, l[idxO l]? = some q ∧ q.opn = true
  | [], h => by simp [anyO] at h
  | r :: rs, h => by
    unfold idxO
    rw [List.findIdx_cons]
    cases hr : r.opn with
    | true => exact ⟨r, by simp, hr⟩
    | false =>
      have h2 : anyO rs = true := by unfold anyO at h ⊢; simpa [hr] using h
      obtain ⟨q, hq, ho⟩ := anyO_get h2
      exact ⟨q, by simpa [idxO] using hq, ho⟩
theorem idx_same : ∀ {l : List Kp} {a q : Kp}, okR a l = true → l[idxO l]? = some q → idxN q.num l = idxO l
  | [], _, _, _, h => by simp at h
  | r :: rs, a, q, h, hq => by
    simp only [okR, Bool.and_eq_true, decide_eq_true_eq] at h
    cases hr : r.opn with
    | true =>
      have hi : idxO (r :: rs) = 0 := by unfold idxO; rw [List.findIdx_cons, hr]; rfl
      rw [hi] at hq ⊢
      simp only [List.getElem?_cons_zero, Option.some.injEq] at hq
      subst hq
      unfold idxN; rw [List.findIdx_cons]; simp
    | false =>
      have hi : idxO (r :: rs) = idxO rs + 1 := by unfold idxO; rw [List.findIdx_cons, hr]; rfl
      rw [hi] at hq ⊢
      have hq2 : rs[idxO rs]? = some q := by simpa using hq
      have hgt := okR_gt h.2 (List.mem_of_getElem? hq2)
      unfold idxN; rw [List.findIdx_cons, decide_eq_false (by omega)]
      have := idx_same h.2 hq2
      unfold idxN at this; simp [this]
theorem opens_set : ∀ {l : List Kp} {i : Nat} {q y : Kp}, l[i]? = some q → q.opn = true → y.opn = false → opens (l.set i y) + 1 = opens l
  | [], _, _, _, h, _, _ => by simp at h
  | r :: rs, 0, q, y, h, h1, h2 => by
    simp only [List.getElem?_cons_zero, Option.some.injEq] at h
    subst h
    simp [opens, h1, h2]
  | r :: rs, i + 1, q, y, h, h1, h2 => by
    have := opens_set (l := rs) (i := i) (by simpa using h) h1 h2
    simp only [opens, List.set_cons_succ, List.countP_cons] at this ⊢
    omega
theorem hasL_set {n : Int} {save : Bool} {l : List Kp} {i : Nat} {q y : Kp} (h : hasL n save l) (hq : l[i]? = some q) (e1 : y.num = q.num) (e2 : y.save = q.save) : hasL n save (l.set i y) := by
  obtain ⟨pre, x, rfl, h1, h2⟩ := h
  rcases Nat.lt_or_ge i pre.length with hi | hi
  · exact ⟨pre.set i y, x, by rw [List.set_append_left _ _ hi], h1, h2⟩
  · have hi2 : i = pre.length := by have := (List.getElem?_eq_some_iff.1 hq).1; simp at this; omega
    subst hi2
    have : x = q := by simpa using hq
    subst this
    exact ⟨pre, y, by simp, by rw [e1, h1], by rw [e2, h2]⟩
theorem last_step {keep n : Int} {save : Bool} {l : List Kp} (hk : okS keep l = true) (hl : hasL n save l) (ho : anyO l = true) : (setR keep (nxtN l) l).err = 0 ∧ (setR keep (nxtN l) l).keep = keep ∧ okS keep (setR keep (nxtN l) l).rows = true ∧ hasL n save (setR keep (nxtN l) l).rows ∧ (∀ g ∈ (setR keep (nxtN l) l).gone, g ≠ n) ∧ opens (setR keep (nxtN l) l).rows + 1 ≤ opens l := by
  obtain ⟨q, hq, hqo⟩ := anyO_get ho
  have hn : nxtN l = q.num := nxtN_at hq rfl
  have hkk := hk
  unfold okS at hkk
  simp only [Bool.and_eq_true, decide_eq_true_eq] at hkk
  have hix : idxN (nxtN l) l = idxO l := by rw [hn]; exact idx_same hkk.2 hq
  have e : setR keep (nxtN l) l = okRs keep (l.set (idxO l) ⟨q.num, q.save, false⟩) := by
    unfold setR; rw [atR_some hk hix hq, ho, decide_eq_true rfl]; rfl
  rw [e]
  have hL := hasL_set hl hq (y := ⟨q.num, q.save, false⟩) rfl rfl
  have hR := okR_open hkk.2 rfl hq
  have hO := opens_set hq hqo (y := ⟨q.num, q.save, false⟩) rfl
  have hS : okS keep (l.set (idxO l) ⟨q.num, q.save, false⟩) = true := by
    unfold okS; simp only [Bool.and_eq_true, decide_eq_true_eq, List.length_set]; exact ⟨hkk.1, hR⟩
  generalize l.set (idxO l) ⟨q.num, q.save, false⟩ = L at *
  obtain ⟨pre, x, rfl, h1, h2⟩ := hL
  obtain ⟨pre', hp⟩ := kept_last (x := x) hkk.1.1.1 pre
  refine ⟨rfl, rfl, okS_kept hS, ⟨pre', x, hp, h1, h2⟩, fun g hg => ?_, ?_⟩
  · rw [← h1]; exact gone_last hkk.1.1.1 hR g hg
  · have := opens_kept (k := keep) (pre ++ [x])
    simp only [okRs]; omega
theorem put_ok {keep n : Int} {save : Bool} {l : List Kp} (h : (putR keep n save l).err = 0) : (putR keep n save l).keep = keep ∧ okS keep (putR keep n save l).rows = true ∧ hasL n save (putR keep n save l).rows ∧ opens (putR keep n save l).rows ≤ 16 := by
  revert h
  unfold putR fullR
  cases hk : okS keep l with
  | false => intro h; simp at h
  | true =>
    by_cases hd : (lastK l).num < n ∧ n ≤ 4611686018427387904
    · rw [decide_eq_true hd]
      by_cases hf : (keptF keep (l ++ [⟨n, save, true⟩])).length ≤ 16
      · rw [decide_eq_true hf]
        intro _
        have hkk := hk
        unfold okS at hkk
        simp only [Bool.and_eq_true, decide_eq_true_eq] at hkk
        obtain ⟨pre', hp⟩ := kept_last (x := ⟨n, save, true⟩) hkk.1.1.1 l
        have hR : okR ⟨0, false, false⟩ (l ++ [⟨n, save, true⟩]) = true := okR_snoc hkk.2 hd.1 hd.2 rfl
        refine ⟨rfl, ?_, ⟨pre', _, hp, rfl, rfl⟩, ?_⟩
        · simp only [cond_true, okRs]
          unfold okS; simp only [Bool.and_eq_true, decide_eq_true_eq]
          exact ⟨⟨hkk.1.1, hf⟩, okR_kept hR⟩
        · exact Nat.le_trans List.countP_le_length hf
      · rw [decide_eq_false hf]; intro h; simp at h
    · rw [decide_eq_false hd]; intro h; simp at h
theorem hasL_last {n : Int} {save : Bool} {l : List Kp} (h : hasL n save l) (ho : anyO l = false) : lastK l = ⟨n, save, false⟩ ∧ l ≠ [] := by
  obtain ⟨pre, x, rfl, h1, h2⟩ := h
  refine ⟨?_, by simp⟩
  unfold lastK
  simp only [List.getLast?_append, List.getLast?_singleton, Option.some_or, Option.getD_some]
  have : x.opn = false := by unfold anyO at ho; rw [List.any_eq_false] at ho; simpa using ho x (by simp)
  cases x; simp_all
theorem set_glen {keep n : Int} {l : List Kp} : (setR keep n l).gone.length ≤ l.length := by
  unfold setR atR
  cases okS keep l with
  | false => exact Nat.zero_le _
  | true =>
    cases l[idxN n l]? with
    | none => exact Nat.zero_le _
    | some q =>
      simp only [cond_true]
      cases anyO l && decide (nxtN l = n) with
      | false => exact Nat.zero_le _
      | true =>
        have := keptF_len keep (l.set (idxN n l) ⟨q.num, q.save, false⟩)
        rw [List.length_set] at this
        simp only [cond_true, okRs]; omega
def svN (n : Int) (l : List Kp) : Bool := l.any fun q => decide (q.num = n) && q.save
def opN (n : Int) (l : List Kp) : Bool := l.any fun q => decide (q.num = n) && q.opn
theorem okR_tail {a x : Kp} {l : List Kp} (h : okR a (x :: l) = true) : okR x l = true := by
  simp only [okR, Bool.and_eq_true] at h; exact h.2
theorem any_not {n : Int} {l : List Kp} (h : anyN n l = false) : svN n l = false ∧ opN n l = false := by
  unfold anyN at h; rw [List.any_eq_false] at h
  unfold svN opN
  refine ⟨List.any_eq_false.2 fun q hq => ?_, List.any_eq_false.2 fun q hq => ?_⟩ <;>
  · have := h q hq
    simp only [decide_eq_true_eq] at this
    simp [this]
theorem any_gt {a : Kp} {l : List Kp} {n : Int} (h : okR a l = true) (hn : n ≤ a.num) : anyN n l = false := by
  unfold anyN
  refine List.any_eq_false.2 fun q hq => ?_
  have := okR_gt h hq
  simp; omega
theorem at_sv {a q : Kp} {l : List Kp} (h : okR a l = true) (hq : q ∈ l) : svN q.num l = q.save ∧ opN q.num l = q.opn ∧ anyN q.num l = true := by
  refine ⟨?_, ?_, anyN_mem hq rfl⟩
  · cases hs : q.save with
    | true => exact List.any_eq_true.2 ⟨q, hq, by simp [hs]⟩
    | false =>
      refine List.any_eq_false.2 fun r hr => ?_
      by_cases e : r.num = q.num
      · rw [okR_uniq h hr hq e]; simp [hs]
      · simp [e]
  · cases hs : q.opn with
    | true => exact List.any_eq_true.2 ⟨q, hq, by simp [hs]⟩
    | false =>
      refine List.any_eq_false.2 fun r hr => ?_
      by_cases e : r.num = q.num
      · rw [okR_uniq h hr hq e]; simp [hs]
      · simp [e]
theorem any_mem {n : Int} {l : List Kp} (h : anyN n l = true) : ∃ q ∈ l, q.num = n := by
  obtain ⟨q, hq, e⟩ := List.any_eq_true.1 h
  exact ⟨q, hq, of_decide_eq_true e⟩
theorem kept_sub {k : Int} {q : Kp} : ∀ {l : List Kp}, q ∈ keptF k l → q ∈ l
  | [], h => h
  | x :: r, h => by
    unfold keptF at h
    revert h
    cases plK x && decide (k ≤ (npl r : Int)) with
    | true => intro h; exact List.mem_cons_of_mem _ (kept_sub h)
    | false =>
      intro h
      rcases List.mem_cons.1 h with rfl | h
      · simp
      · exact List.mem_cons_of_mem _ (kept_sub h)
theorem kept_or {k : Int} {q : Kp} : ∀ {l : List Kp}, q ∈ l → q ∈ keptF k l ∨ q.num ∈ goneF k l
  | [], h => .inl h
  | x :: r, h => by
    unfold keptF goneF
    rcases List.mem_cons.1 h with rfl | h
    · cases plK q && decide (k ≤ (npl r : Int)) <;> simp
    · rcases kept_or (k := k) h with h | h <;> cases plK x && decide (k ≤ (npl r : Int)) <;> simp [h]
theorem gone_pl {k x : Int} : ∀ {l : List Kp}, x ∈ goneF k l → ∃ q ∈ l, q.num = x ∧ plK q = true
  | [], h => by simp [goneF] at h
  | y :: r, h => by
    unfold goneF at h
    revert h
    cases hp : plK y && decide (k ≤ (npl r : Int)) with
    | true =>
      intro h
      rcases List.mem_cons.1 h with rfl | h
      · simp only [Bool.and_eq_true] at hp; exact ⟨y, by simp, rfl, hp.1⟩
      · obtain ⟨q, h1, h2⟩ := gone_pl h; exact ⟨q, List.mem_cons_of_mem _ h1, h2⟩
    | false => intro h; obtain ⟨q, h1, h2⟩ := gone_pl h; exact ⟨q, List.mem_cons_of_mem _ h1, h2⟩
theorem gone_gt {k x : Int} {l : List Kp} {a : Kp} (h : okR a l = true) (hx : x ∈ goneF k l) : a.num < x := by
  obtain ⟨q, h1, rfl, _⟩ := gone_pl hx
  exact okR_gt h h1
theorem gone_any {k x : Int} : ∀ {l : List Kp} {a : Kp}, okR a l = true → x ∈ goneF k l → anyN x (keptF k l) = false
  | [], _, _, h => by simp [goneF] at h
  | y :: r, a, hk, h => by
    have ht := okR_tail hk
    unfold goneF at h
    unfold keptF
    revert h
    cases hp : plK y && decide (k ≤ (npl r : Int)) with
    | true =>
      intro h
      rcases List.mem_cons.1 h with rfl | h
      · exact any_gt (okR_kept ht) (Int.le_refl _)
      · exact gone_any ht h
    | false =>
      intro h
      have h1 := gone_any ht h
      have h2 := gone_gt ht h
      unfold anyN at h1 ⊢
      simp only [cond_false, List.any_cons, h1, Bool.or_false]
      exact decide_eq_false (by omega)
theorem gone_srt {k : Int} : ∀ {l : List Kp} {a : Kp}, okR a l = true → (goneF k l).Pairwise (· < ·)
  | [], _, _ => by simp [goneF]
  | y :: r, a, hk => by
    have ht := okR_tail hk
    unfold goneF
    cases hp : plK y && decide (k ≤ (npl r : Int)) with
    | true => exact List.pairwise_cons.2 ⟨fun z hz => gone_gt ht hz, gone_srt ht⟩
    | false => exact gone_srt ht
theorem npl_kept {k : Int} : ∀ l : List Kp, npl (keptF k l) ≤ npl l
  | [] => Nat.le_refl _
  | x :: r => by
    have := npl_kept (k := k) r
    unfold keptF
    cases hp : plK x && decide (k ≤ (npl r : Int)) with
    | true => simp only [cond_true, npl] at this ⊢; rw [List.countP_cons]; omega
    | false => simp only [cond_false, npl] at this ⊢; rw [List.countP_cons, List.countP_cons]; omega
theorem kept_npl {k : Int} (hk : 0 ≤ k) : ∀ l : List Kp, (npl (keptF k l) : Int) ≤ k
  | [] => by simpa [keptF, npl] using hk
  | x :: r => by
    have h1 := kept_npl hk r
    have h2 := npl_kept (k := k) r
    unfold keptF
    cases hp : plK x && decide (k ≤ (npl r : Int)) with
    | true => exact h1
    | false =>
      simp only [cond_false, npl] at h1 h2 ⊢
      rw [List.countP_cons]
      cases hx : plK x with
      | false => simpa using h1
      | true =>
        rw [hx, Bool.true_and] at hp
        have := of_decide_eq_false hp
        simp only [npl] at this
        simp only [if_true]
        omega
theorem gone_few {k : Int} : ∀ {l : List Kp}, (npl l : Int) ≤ k → goneF k l = []
  | [], _ => rfl
  | x :: r, h => by
    unfold npl at h; rw [List.countP_cons] at h
    unfold goneF
    cases hx : plK x with
    | false => rw [hx] at h; simp only [Bool.false_and, cond_false]; exact gone_few (by unfold npl; simp at h; exact h)
    | true =>
      rw [hx] at h; simp only [if_true] at h
      have h2 : ¬ k ≤ (npl r : Int) := by unfold npl; omega
      rw [decide_eq_false h2]; simp only [Bool.and_false, cond_false]
      exact gone_few (by unfold npl at h2 ⊢; omega)
theorem any_set {z : Int} : ∀ {l : List Kp} {i : Nat} {q y : Kp}, l[i]? = some q → y.num = q.num → anyN z (l.set i y) = anyN z l
  | [], _, _, _, h, _ => by simp at h
  | r :: rs, 0, q, y, h, e => by
    simp only [List.getElem?_cons_zero, Option.some.injEq] at h
    subst h
    simp only [List.set_cons_zero, anyN, List.any_cons, e]
  | r :: rs, i + 1, q, y, h, e => by
    have := any_set (z := z) (l := rs) (by simpa using h) e
    simp only [List.set_cons_succ, anyN, List.any_cons] at this ⊢
    rw [this]
theorem sv_set {z : Int} : ∀ {l : List Kp} {i : Nat} {a q y : Kp}, okR a l = true → l[i]? = some q → y.num = q.num → svN z (l.set i y) = (if q.num = z then y.save else svN z l) ∧ opN z (l.set i y) = (if q.num = z then y.opn else opN z l)
  | [], _, _, _, _, _, h, _ => by simp at h
  | r :: rs, 0, a, q, y, hk, h, e => by
    simp only [List.getElem?_cons_zero, Option.some.injEq] at h
    subst h
    simp only [List.set_cons_zero, svN, opN, List.any_cons, e]
    by_cases hz : r.num = z
    · have h1 := any_not (any_gt (okR_tail hk) (n := z) (by omega))
      unfold svN opN at h1
      simp [hz, h1.1, h1.2]
    · simp [hz]
  | r :: rs, i + 1, a, q, y, hk, h, e => by
    have ht := okR_tail hk
    have h0 : rs[i]? = some q := by simpa using h
    have hq := okR_gt ht (List.mem_of_getElem? h0)
    have := sv_set (z := z) ht h0 e
    simp only [List.set_cons_succ, svN, opN, List.any_cons] at this ⊢
    rw [this.1, this.2]
    by_cases hz : q.num = z
    · have hr : ¬ r.num = z := by omega
      simp [hz, hr]
    · simp [hz]
theorem okR_app_lt : ∀ {pre : List Kp} {a x q : Kp}, okR a (pre ++ [x]) = true → q ∈ pre → q.num < x.num
  | [], _, _, _, _, h => by cases h
  | y :: pre, a, x, q, hk, h => by
    have ht := okR_tail (show okR a (y :: (pre ++ [x])) = true from hk)
    rcases List.mem_cons.1 h with rfl | h
    · exact okR_gt ht (by simp)
    · exact okR_app_lt ht h
theorem okR_lt : ∀ {l : List Kp} {a q r : Kp} {i j : Nat}, okR a l = true → l[i]? = some q → l[j]? = some r → i < j → q.num < r.num
  | [], _, _, _, _, _, _, h, _, _ => by simp at h
  | y :: l, a, q, r, 0, j, hk, h1, h2, hij => by
    simp only [List.getElem?_cons_zero, Option.some.injEq] at h1
    subst h1
    obtain ⟨j, rfl⟩ : ∃ m, j = m + 1 := ⟨j - 1, by omega⟩
    exact okR_gt (okR_tail hk) (List.mem_of_getElem? (by simpa using h2))
  | y :: l, a, q, r, i + 1, j, hk, h1, h2, hij => by
    obtain ⟨j, rfl⟩ : ∃ m, j = m + 1 := ⟨j - 1, by omega⟩
    exact okR_lt (okR_tail hk) (by simpa using h1) (by simpa using h2) (by omega)
theorem okR_same {l : List Kp} {a q : Kp} {i j : Nat} (hk : okR a l = true) (h1 : l[i]? = some q) (h2 : l[j]? = some q) : i = j := by
  rcases Nat.lt_trichotomy i j with h | h | h
  · exact absurd (okR_lt hk h1 h2 h) (Int.lt_irrefl _)
  · exact h
  · exact absurd (okR_lt hk h2 h1 h) (Int.lt_irrefl _)
theorem npl_set : ∀ {l : List Kp} {i : Nat} {q y : Kp}, l[i]? = some q → plK y = false → npl (l.set i y) ≤ npl l
  | [], _, _, _, h, _ => by simp at h
  | r :: rs, 0, q, y, h, e => by
    simp only [List.set_cons_zero, npl, List.countP_cons, e]; simp
  | r :: rs, i + 1, q, y, h, e => by
    have := npl_set (l := rs) (by simpa using h) e
    simp only [List.set_cons_succ, npl, List.countP_cons] at this ⊢
    omega
theorem idxO_leS : ∀ {l : List Kp} {k : Nat} {u : Kp}, l[k]? = some u → u.opn = true → idxO l ≤ k
  | [], _, _, h, _ => by simp at h
  | r :: rs, 0, u, h, e => by
    simp only [List.getElem?_cons_zero, Option.some.injEq] at h
    subst h; unfold idxO; rw [List.findIdx_cons, e]; exact Nat.le_refl _
  | r :: rs, k + 1, u, h, e => by
    have := idxO_leS (l := rs) (k := k) (by simpa using h) e
    unfold idxO at this ⊢; rw [List.findIdx_cons]
    cases r.opn <;> simp <;> omega
structure RI (k : Int) (l : List Kp) (last st : Int) (LD LS LO : List (Int × Bool)) : Prop where
  ok : okS k l = true
  np : (npl l : Int) ≤ k
  la : (l = [] ∧ last = 0) ∨ (∃ pre x, l = pre ++ [x] ∧ x.num = last)
  op : ∀ r ∈ l, r.opn = true → st < r.num
  sl : 0 ≤ st ∧ st ≤ last ∧ last ≤ 4611686018427387904
  d : ∀ y, (Z.lookK LD y).getD false = true → y ≤ last ∧ anyN y l = false
  s : ∀ y, (Z.lookK LS y).getD false = svN y l
  o : ∀ y, (Z.lookK LO y).getD false = opN y l
  p : ∀ y, (Z.lookK LO y).isSome = true → anyN y l = true ∨ (Z.lookK LD y).getD false = true
structure MI (k : Int) (l : List Kp) (last st : Int) (LD LS LO : List (Int × Bool)) : Prop where
  ok : okR ⟨0, false, false⟩ l = true
  kk : 1 ≤ k ∧ k ≤ 4
  la : ∃ pre x, l = pre ++ [x] ∧ x.num = last
  op : ∀ r ∈ l, r.opn = true → st < r.num
  sl : 0 ≤ st ∧ st ≤ last ∧ last ≤ 4611686018427387904
  d : ∀ y, (Z.lookK LD y).getD false = true → y ≤ last ∧ anyN y l = false
  s : ∀ y, (Z.lookK LS y).getD false = svN y l
  o : ∀ y, (Z.lookK LO y).getD false = opN y l
  p : ∀ y, (Z.lookK LO y).isSome = true → anyN y l = true ∨ (Z.lookK LD y).getD false = true
theorem okS_all {k : Int} {l : List Kp} (h : okS k l = true) : (1 ≤ k ∧ k ≤ 4) ∧ l.length ≤ 16 ∧ okR ⟨0, false, false⟩ l = true := by
  unfold okS at h; simp only [Bool.and_eq_true, decide_eq_true_eq] at h
  exact ⟨h.1.1, h.1.2, h.2⟩
theorem MI.at {k last st : Int} {l : List Kp} {LD LS LO : List (Int × Bool)} (h : MI k l last st LD LS LO) {i : Nat} {x : Int} (hx : (goneF k l)[i]? = some x) : (Z.lookK LD x).getD false = false ∧ (Z.lookK LS x).getD false = false ∧ (Z.lookK LO x).getD false = false ∧ x ∉ (goneF k l).take i := by
  obtain ⟨q, hq, rfl, hp⟩ := gone_pl (List.mem_of_getElem? hx)
  obtain ⟨h1, h2, h3⟩ := at_sv h.ok hq
  unfold plK at hp
  simp only [Bool.and_eq_true, Bool.not_eq_true'] at hp
  refine ⟨Bool.eq_false_iff.2 fun hd => ?_, by rw [h.s, h1, hp.1], by rw [h.o, h2, hp.2], fun hm => ?_⟩
  · rw [(h.d _ hd).2] at h3; cases h3
  · obtain ⟨j, hj⟩ := List.getElem?_of_mem hm
    obtain ⟨hjl, hje⟩ := List.getElem?_eq_some_iff.1 hj
    rw [List.length_take] at hjl
    rw [List.getElem_take] at hje
    obtain ⟨hi, hie⟩ := List.getElem?_eq_some_iff.1 hx
    have := List.pairwise_iff_getElem.1 (gone_srt (k := k) h.ok) j i (by omega) hi (by omega)
    rw [hje, hie] at this
    omega
theorem MI.drop {k last st : Int} {l : List Kp} {LD LS LO LD' : List (Int × Bool)} (h : MI k l last st LD LS LO) (hl : (keptF k l).length ≤ 16) (hD : ∀ y, (Z.lookK LD' y).getD false = ((Z.lookK LD y).getD false || decide (y ∈ goneF k l))) : RI k (keptF k l) last st LD' LS LO := by
  have hkk := okR_kept (k := k) h.ok
  have hsub : ∀ y, anyN y (keptF k l) = true → anyN y l = true := fun y hy => by
    obtain ⟨q, hq, e⟩ := any_mem hy
    exact anyN_mem (kept_sub hq) e
  have hpl : ∀ q ∈ l, q.num ∈ goneF k l → q.save = false ∧ q.opn = false := fun q hq hg => by
    obtain ⟨r, hr, e, hp⟩ := gone_pl hg
    have := okR_uniq h.ok hr hq e
    subst this
    unfold plK at hp
    simpa using hp
  have hso : ∀ y, svN y (keptF k l) = svN y l ∧ opN y (keptF k l) = opN y l := fun y => by
    cases hy : anyN y (keptF k l) with
    | true =>
      obtain ⟨q, hq, rfl⟩ := any_mem hy
      have h1 := at_sv hkk hq
      have h2 := at_sv h.ok (kept_sub hq)
      exact ⟨h1.1.trans h2.1.symm, h1.2.1.trans h2.2.1.symm⟩
    | false =>
      have h1 := any_not hy
      rw [h1.1, h1.2]
      cases hy2 : anyN y l with
      | false => have h2 := any_not hy2; exact ⟨h2.1.symm, h2.2.symm⟩
      | true =>
        obtain ⟨q, hq, rfl⟩ := any_mem hy2
        have h2 := at_sv h.ok hq
        rcases kept_or (k := k) hq with h3 | h3
        · rw [anyN_mem h3 rfl] at hy; cases hy
        · have h4 := hpl q hq h3
          rw [h2.1, h2.2.1, h4.1, h4.2]; exact ⟨rfl, rfl⟩
  refine ⟨?_, kept_npl (by have := h.kk; omega) l, .inr ?_, fun r hr => h.op r (kept_sub hr), h.sl, fun y hy => ?_, fun y => by rw [h.s, (hso y).1], fun y => by rw [h.o, (hso y).2], fun y hy => ?_⟩
  · unfold okS; simp only [Bool.and_eq_true, decide_eq_true_eq]; exact ⟨⟨h.kk, hl⟩, hkk⟩
  · obtain ⟨pre, x, e, hx⟩ := h.la
    obtain ⟨pre', hp⟩ := kept_last h.kk.1 (x := x) pre
    exact ⟨pre', x, by rw [e, hp], hx⟩
  · rw [hD] at hy
    simp only [Bool.or_eq_true, decide_eq_true_eq] at hy
    rcases hy with hy | hy
    · obtain ⟨h1, h2⟩ := h.d y hy
      exact ⟨h1, Bool.eq_false_iff.2 fun h3 => by rw [hsub y h3] at h2; cases h2⟩
    · refine ⟨?_, gone_any h.ok hy⟩
      obtain ⟨q, hq, rfl, _⟩ := gone_pl hy
      obtain ⟨pre, x, e, hx⟩ := h.la
      rw [e] at hq
      rcases List.mem_append.1 hq with hq | hq
      · have := okR_app_lt (by rw [← e]; exact h.ok) hq; omega
      · simp at hq; subst hq; omega
  · rw [hD]
    rcases h.p y hy with h1 | h1
    · obtain ⟨q, hq, rfl⟩ := any_mem h1
      rcases kept_or (k := k) hq with h2 | h2
      · exact .inl (anyN_mem h2 rfl)
      · right; simp [h2]
    · right; rw [h1]; rfl
theorem RI.put {k last st n : Int} {save : Bool} {l : List Kp} {LD LS LO : List (Int × Bool)} (h : RI k l last st LD LS LO) (he : (putR k n save l).err = 0) : last < n ∧ n ≤ 4611686018427387904 ∧ ∃ L, putR k n save l = ⟨k, keptF k L, goneF k L, 0⟩ ∧ (keptF k L).length ≤ 16 ∧ MI k L n st LD (Z.putK LS n save) (Z.putK LO n true) := by
  obtain ⟨hk, hl, hr⟩ := okS_all h.ok
  unfold putR at he ⊢
  rw [h.ok] at he ⊢
  simp only [cond_true] at he ⊢
  cases hd : decide ((lastK l).num < n ∧ n ≤ 4611686018427387904) with
  | false => rw [hd] at he; simp at he
  | true =>
    rw [hd] at he; simp only [cond_true] at he ⊢
    have hd := of_decide_eq_true hd
    have hln : last < n := by
      rcases h.la with ⟨rfl, rfl⟩ | ⟨pre, x, rfl, rfl⟩
      · simpa [lastK] using hd.1
      · have := hd.1; unfold lastK at this; simpa using this
    unfold fullR at he ⊢
    cases h16 : decide ((keptF k (l ++ [⟨n, save, true⟩])).length ≤ 16) with
    | false => rw [h16] at he; simp at he
    | true =>
      simp only [cond_true]
      have hle : ∀ q ∈ l, q.num ≤ last := fun q hq => by
        rcases h.la with ⟨rfl, _⟩ | ⟨pre, x, e, hx⟩
        · cases hq
        · rw [e] at hq
          rcases List.mem_append.1 hq with hq | hq
          · have := okR_app_lt (by rw [← e]; exact hr) hq; omega
          · simp at hq; subst hq; omega
      have hno : anyN n l = false := List.any_eq_false.2 fun q hq => by have := hle q hq; simp; omega
      have hno2 := any_not hno
      refine ⟨hln, hd.2, _, rfl, of_decide_eq_true h16, ⟨okR_snoc hr (by
        have := hd.1; unfold lastK at this
        exact this) hd.2 rfl, hk, ⟨l, _, rfl, rfl⟩, fun r hrm => ?_, ⟨h.sl.1, by have := h.sl; omega, hd.2⟩, fun y hy => ?_, fun y => ?_, fun y => ?_, fun y hy => ?_⟩⟩
      · rcases List.mem_append.1 hrm with hm | hm
        · exact h.op r hm
        · simp at hm; subst hm; intro _; have := h.sl; show st < n; omega
      · obtain ⟨h1, h2⟩ := h.d y hy
        refine ⟨by omega, ?_⟩
        unfold anyN at h2 ⊢
        rw [List.any_append, h2]; simp; omega
      · rw [Z.look_put]
        unfold svN
        rw [List.any_append]
        by_cases hy : n = y
        · subst hy
          have := hno2.1; unfold svN at this
          simp [this]
        · have := h.s y; unfold svN at this
          rw [if_neg hy, this]; simp [hy]
      · rw [Z.look_put]
        unfold opN
        rw [List.any_append]
        by_cases hy : n = y
        · subst hy; simp
        · have := h.o y; unfold opN at this
          rw [if_neg hy, this]; simp [hy]
      · rw [Z.look_put] at hy
        by_cases hn : n = y
        · subst hn; left; exact anyN_mem (x := ⟨n, save, true⟩) (List.mem_append_right _ (by simp)) rfl
        · rw [if_neg hn] at hy
          rcases h.p y hy with h1 | h1
          · left
            obtain ⟨q, hq, e⟩ := any_mem h1
            exact anyN_mem (List.mem_append_left _ hq) e
          · exact .inr h1
theorem RI.one {k last st n : Int} {l : List Kp} {LD LS LO LS' LO' : List (Int × Bool)} {i : Nat} {q y : Kp} {st' : Int} (h : RI k l last st LD LS LO) (hq : l[i]? = some q) (hn : q.num = n) (e1 : y.num = q.num) (hok : okR ⟨0, false, false⟩ (l.set i y) = true)
    (hS : ∀ z, (Z.lookK LS' z).getD false = if n = z then y.save else (Z.lookK LS z).getD false) (hO : ∀ z, (Z.lookK LO' z).getD false = if n = z then y.opn else (Z.lookK LO z).getD false) (hP : ∀ z, (Z.lookK LO' z).isSome = true → n = z ∨ (Z.lookK LO z).isSome = true)
    (hst : st ≤ st' ∧ st' ≤ last) (hop : ∀ r ∈ l.set i y, r.opn = true → st' < r.num) : MI k (l.set i y) last st' LD LS' LO' := by
  obtain ⟨hk, hl, hr⟩ := okS_all h.ok
  have hqm := List.mem_of_getElem? hq
  refine ⟨hok, hk, ?_, hop, ⟨by have := h.sl; omega, hst.2, h.sl.2.2⟩, fun z hz => ?_, fun z => ?_, fun z => ?_, fun z hz => ?_⟩
  · rcases h.la with ⟨rfl, _⟩ | ⟨pre, x, rfl, hx⟩
    · simp at hq
    · by_cases hi : i < pre.length
      · exact ⟨pre.set i y, x, List.set_append_left _ _ hi, hx⟩
      · rw [List.getElem?_append_right (by omega)] at hq
        have hi2 : i - pre.length = 0 := by
          have := (List.getElem?_eq_some_iff.1 hq).1; simp at this; omega
        rw [hi2] at hq; simp at hq; subst hq
        exact ⟨pre, y, by rw [List.set_append_right _ _ (by omega), hi2]; rfl, by omega⟩
  · rw [any_set hq e1]; exact h.d z hz
  · rw [hS, (sv_set hr hq e1).1, hn, h.s]
  · rw [hO, (sv_set hr hq e1).2, hn, h.o]
  · rw [any_set hq e1]
    rcases hP z hz with h1 | h1
    · left; rw [← h1, ← hn]; exact anyN_mem hqm rfl
    · exact h.p z h1
theorem atR_ok {k n : Int} {l : List Kp} {f : Nat → Kp → Rs} (hk : okS k l = true) (he : (atR k n l f).err = 0) : ∃ q, l[idxN n l]? = some q ∧ q.num = n ∧ atR k n l f = f (idxN n l) q := by
  cases ha : anyN n l with
  | false => rw [atR_none hk ha] at he; simp at he
  | true =>
    obtain ⟨q, hq, hn⟩ := anyN_get ha
    exact ⟨q, hq, hn, atR_some hk rfl hq⟩
theorem set_len {k : Int} {l : List Kp} {i : Nat} {y : Kp} (h : l.length ≤ 16) : (keptF k (l.set i y)).length ≤ 16 := by
  have := keptF_len k (l.set i y)
  rw [List.length_set] at this; omega
theorem RI.rel {k last st n : Int} {l : List Kp} {LD LS LO : List (Int × Bool)} (h : RI k l last st LD LS LO) (he : (relR k n l).err = 0) : (Z.lookK LS n).getD false = true ∧ ∃ L, relR k n l = ⟨k, keptF k L, goneF k L, 0⟩ ∧ (keptF k L).length ≤ 16 ∧ MI k L last st LD (Z.putK LS n false) LO := by
  obtain ⟨hk, hl, hr⟩ := okS_all h.ok
  obtain ⟨q, hq, hn, e⟩ := atR_ok h.ok he
  have hqm := List.mem_of_getElem? hq
  unfold relR at he ⊢
  rw [e] at he ⊢
  cases hs : q.save with
  | false => rw [hs] at he; simp at he
  | true =>
    rw [hs] at he
    refine ⟨by rw [h.s, ← hn, (at_sv hr hqm).1, hs], _, rfl, set_len hl, h.one hq hn rfl ((okR_set (y := ⟨q.num, false, q.opn⟩) hq rfl rfl).trans hr) (fun z => ?_) (fun z => ?_) (fun z hz => .inr hz) ⟨Int.le_refl _, h.sl.2.1⟩ (fun r hr2 => ?_)⟩
    · rw [Z.look_put]; split <;> rfl
    · by_cases hz : n = z
      · subst hz; rw [if_pos rfl, h.o, ← hn, (at_sv hr hqm).2.1]
      · rw [if_neg hz]
    · rcases List.mem_or_eq_of_mem_set hr2 with h1 | rfl
      · exact h.op r h1
      · exact h.op q hqm
theorem RI.mark {k last st n : Int} {l : List Kp} {LD LS LO : List (Int × Bool)} (h : RI k l last st LD LS LO) (he : (markR k n l).err = 0) : (Z.lookK LS n).getD false = false ∧ ∃ L, markR k n l = ⟨k, keptF k L, goneF k L, 0⟩ ∧ goneF k L = [] ∧ (keptF k L).length ≤ 16 ∧ MI k L last st LD (Z.putK LS n true) LO := by
  obtain ⟨hk, hl, hr⟩ := okS_all h.ok
  obtain ⟨q, hq, hn, e⟩ := atR_ok h.ok he
  have hqm := List.mem_of_getElem? hq
  unfold markR at he ⊢
  rw [e] at he ⊢
  cases hs : q.save with
  | true => rw [hs] at he; simp at he
  | false =>
    rw [hs] at he
    refine ⟨by rw [h.s, ← hn, (at_sv hr hqm).1, hs], _, rfl, gone_few ?_, set_len hl, h.one hq hn rfl ((okR_set (y := ⟨q.num, true, q.opn⟩) hq rfl rfl).trans hr) (fun z => ?_) (fun z => ?_) (fun z hz => .inr hz) ⟨Int.le_refl _, h.sl.2.1⟩ (fun r hr2 => ?_)⟩
    · have := npl_set (y := ⟨q.num, true, q.opn⟩) hq (by simp [plK])
      have := h.np; omega
    · rw [Z.look_put]; split <;> rfl
    · by_cases hz : n = z
      · subst hz; rw [if_pos rfl, h.o, ← hn, (at_sv hr hqm).2.1]
      · rw [if_neg hz]
    · rcases List.mem_or_eq_of_mem_set hr2 with h1 | rfl
      · exact h.op r h1
      · exact h.op q hqm
theorem RI.set {k last st n : Int} {l : List Kp} {LD LS LO : List (Int × Bool)} (h : RI k l last st LD LS LO) (he : (setR k n l).err = 0) : st < n ∧ (Z.lookK LO n).getD false = true ∧ ∃ L, setR k n l = ⟨k, keptF k L, goneF k L, 0⟩ ∧ (keptF k L).length ≤ 16 ∧ MI k L last n LD LS (Z.putK LO n false) := by
  obtain ⟨hk, hl, hr⟩ := okS_all h.ok
  obtain ⟨q, hq, hn, e⟩ := atR_ok h.ok he
  unfold setR at he ⊢
  rw [e] at he ⊢
  cases hs : (anyO l && decide (nxtN l = n)) with
  | false => rw [hs] at he; simp at he
  | true =>
    simp only [Bool.and_eq_true, decide_eq_true_eq] at hs
    obtain ⟨q2, hq2, ho⟩ := anyO_get hs.1
    have hn2 : q2.num = n := by rw [← hs.2]; exact (nxtN_at hq2 rfl).symm
    have hix : idxN n l = idxO l := by rw [← hn2]; exact idx_same hr hq2
    rw [hix] at hq ⊢
    rw [hq2] at hq; cases hq
    have hqm := List.mem_of_getElem? hq2
    have hokn := okR_open hr rfl hq2
    have hgt : ∀ r ∈ l, r.opn = true → r = q ∨ n < r.num := fun r hrm hro => by
      obtain ⟨j, hj⟩ := List.getElem?_of_mem hrm
      have h1 := idxO_leS hj hro
      by_cases hji : j = idxO l
      · subst hji; rw [hq2] at hj; cases hj; exact .inl rfl
      · right; rw [← hn]; exact okR_lt hr hq2 hj (by omega)
    refine ⟨by rw [← hn]; exact h.op q hqm ho, by rw [h.o, ← hn, (at_sv hr hqm).2.1, ho], _, rfl, set_len hl, h.one hq2 hn rfl hokn (fun z => ?_) (fun z => ?_) (fun z hz => ?_) ⟨?_, ?_⟩ (fun r hr2 => ?_)⟩
    · by_cases hz : n = z
      · subst hz; rw [if_pos rfl, h.s, ← hn, (at_sv hr hqm).1]
      · rw [if_neg hz]
    · rw [Z.look_put]; split <;> rfl
    · rw [Z.look_put] at hz
      by_cases h9 : n = z
      · exact .inl h9
      · rw [if_neg h9] at hz; exact .inr hz
    · have := h.op q hqm ho; omega
    · rcases h.la with ⟨rfl, _⟩ | ⟨pre, x, e, hx⟩
      · cases hqm
      · rw [e] at hqm
        rcases List.mem_append.1 hqm with hm | hm
        · have := okR_app_lt (by rw [← e]; exact hr) hm; omega
        · simp at hm; subst hm; omega
    · intro hro
      rcases List.mem_or_eq_of_mem_set hr2 with h1 | rfl
      · rcases hgt r h1 hro with rfl | h2
        · exfalso
          obtain ⟨j, hj⟩ := List.getElem?_of_mem hr2
          have h3 := hj
          rw [List.getElem?_set] at hj
          split at hj
          · split at hj
            · have h8 := congrArg Kp.opn (Option.some.inj hj); rw [ho] at h8; exact absurd h8 (by simp)
            · cases hj
          · rename_i hne
            have h3 := hj
            exact absurd (okR_same hr hq2 h3) hne
        · exact h2
      · simp at hro
theorem RI.row {k last st : Int} {l : List Kp} {LD LS LO : List (Int × Bool)} (h : RI k l last st LD LS LO) {j : Nat} {x : Kp} (hx : l[j]? = some x) : (Z.lookK LD x.num).getD false = false ∧ (Z.lookK LS x.num).getD false = x.save ∧ (Z.lookK LO x.num).getD false = x.opn := by
  obtain ⟨h1, h2, h3⟩ := at_sv (okS_all h.ok).2.2 (List.mem_of_getElem? hx)
  refine ⟨Bool.eq_false_iff.2 fun hd => ?_, by rw [h.s, h1], by rw [h.o, h2]⟩
  rw [(h.d _ hd).2] at h3; cases h3
theorem RI.key {k last st y : Int} {b : Bool} {l : List Kp} {LD LS LO : List (Int × Bool)} (h : RI k l last st LD LS LO) (hn : (LO.map (·.1)).Nodup) (hm : (y, b) ∈ LO) (ht : anyN y l = false) : (Z.lookK LO y).getD false = false ∧ (Z.lookK LS y).getD false = false ∧ (Z.lookK LD y).getD false = true := by
  have h1 := any_not ht
  refine ⟨by rw [h.o, h1.2], by rw [h.s, h1.1], ?_⟩
  have h2 := (Z.look_mem hn).2 hm
  rcases h.p y (by rw [h2]; rfl) with h3 | h3
  · rw [ht] at h3; cases h3
  · exact h3
theorem any_take {z : Int} {l : List Kp} {j : Nat} {x : Kp} (hx : l[j]? = some x) : anyN z (l.take (j + 1)) = (decide (x.num = z) || anyN z (l.take j)) := by
  rw [take_snoc hx]; unfold anyN; rw [List.any_append]; simp [Bool.or_comm]
theorem there_step {l : List Kp} {j : Nat} {x : Kp} {L : List (Int × Bool)} (hx : l[j]? = some x) (hL : ∀ z, (Z.lookK L z).getD false = anyN z (l.take j)) : ∀ z, (Z.lookK (Z.putK L x.num true) z).getD false = anyN z (l.take (j + 1)) := fun z => by
  rw [Z.look_put, any_take hx]
  by_cases h : x.num = z
  · simp [h]
  · simp [h, hL]
theorem npl_take {l : List Kp} {j : Nat} {x : Kp} (hx : l[j]? = some x) : npl (l.take (j + 1)) = npl (l.take j) + if plK x then 1 else 0 := by
  rw [take_snoc hx]; unfold npl; rw [List.countP_append]; simp
theorem gone_step {g : List Int} {h : Nat} {x : Int} {LD L : List (Int × Bool)} (hx : g[h]? = some x) (hL : ∀ y, (Z.lookK L y).getD false = ((Z.lookK LD y).getD false || decide (y ∈ g.take h))) : ∀ y, (Z.lookK (Z.putK L x true) y).getD false = ((Z.lookK LD y).getD false || decide (y ∈ g.take (h + 1))) := fun y => by
  rw [Z.look_put, take_snoc hx]
  by_cases e : x = y
  · subst e; simp
  · have e2 : ¬ y = x := fun h => e h.symm
    simp [e, e2, hL]
theorem RI.lastK {k last st : Int} {l : List Kp} {LD LS LO : List (Int × Bool)} (h : RI k l last st LD LS LO) (hne : l ≠ []) : (lastK l).num = last := by
  rcases h.la with ⟨rfl, _⟩ | ⟨pre, x, rfl, hx⟩
  · exact absurd rfl hne
  · show (Option.getD (List.getLast? (pre ++ [x])) _).num = last; simpa using hx
theorem RI.zero {k : Int} (hk : 1 ≤ k ∧ k ≤ 4) : RI k [] 0 0 [] [] [] := by
  refine ⟨?_, by simp [npl]; omega, .inl ⟨rfl, rfl⟩, (fun r hr => absurd hr (by simp)), by decide, fun y hy => by simp [Z.lookK] at hy, fun y => rfl, fun y => rfl, fun y hy => by simp [Z.lookK] at hy⟩
  unfold okS; simp [okR, hk]
theorem RI.nil {k n : Int} {last st : Int} {LD LS LO : List (Int × Bool)} (h : RI k [] last st LD LS LO) : (setR k n []).err ≠ 0 ∧ (relR k n []).err ≠ 0 ∧ (markR k n []).err ≠ 0 := by
  have h1 : anyN n [] = false := rfl
  unfold setR relR markR
  rw [atR_none h.ok h1, atR_none h.ok h1, atR_none h.ok h1]
  simp
theorem srt_lenS : ∀ {l : List Int} {a b : Int}, l.Pairwise (· < ·) → (∀ x ∈ l, a < x ∧ x < b) → a < b → (l.length : Int) < b - a
  | [], a, b, _, _, h => by simp; omega
  | x :: l, a, b, h, g, hab => by
    rw [List.pairwise_cons] at h
    have hx := g x (by simp)
    have := srt_lenS (a := x) (b := b) h.2 (fun y hy => ⟨h.1 y hy, (g y (by simp [hy])).2⟩) hx.2
    simp only [List.length_cons]; omega
theorem okR_le : ∀ {l : List Kp} {a q : Kp}, okR a l = true → q ∈ l → q.num ≤ 4611686018427387904
  | [], _, _, _, h => by cases h
  | y :: l, a, q, hk, h => by
    have ht := okR_tail hk
    simp only [okR, Bool.and_eq_true, decide_eq_true_eq] at hk
    rcases List.mem_cons.1 h with rfl | h
    · exact hk.1.2.1
    · exact okR_le ht h
theorem MI.pos {k last st : Int} {l : List Kp} {LD LS LO : List (Int × Bool)} (h : MI k l last st LD LS LO) (hl : (keptF k l).length ≤ 16) : 0 < (keptF k l).length := by
  obtain ⟨pre, x, e, _⟩ := h.la
  obtain ⟨pre', hp⟩ := kept_last h.kk.1 (x := x) pre
  rw [e, hp]; simp
theorem MI.glen {k last st : Int} {l : List Kp} {LD LS LO : List (Int × Bool)} (h : MI k l last st LD LS LO) : (goneF k l).length ≤ 9223372036854775807 := by
  have h1 := srt_lenS (a := 0) (b := 4611686018427387905) (gone_srt (k := k) h.ok) (fun x hx => ?_) (by decide)
  · omega
  · obtain ⟨q, hq, rfl, _⟩ := gone_pl hx
    have h2 := okR_gt h.ok hq
    have h3 := okR_le h.ok hq
    exact ⟨h2, by omega⟩
structure Dd where
  kind : Int
  by_ : Int
  save : Bool
  choice : Int
abbrev eDd (x : Dd) : List RT := [RT.v (.int .i64 x.kind), RT.v (.int .u64 x.by_), RT.v (.bool x.save), RT.v (.int .i64 x.choice)]
abbrev enB (b : Bool) : A0 := .one (.v (.bool b))
theorem look_is {z : Value} {es : Y.MS} {L : List (Int × Bool)} {k : Int} {A : A0 → Bool → Prop} {b : Bool} (HM : Z.MapL .u64 enB es L) (hv : (Z.lookK L k).getD false = b) (hz : Y.zeroA z = enB false) (h : ∀ ok, A (enB b) ok) : Z.lookN .u64 z es k A := by
  refine Z.MapL.look HM (z0 := false) hz ?_
  rw [hv]; exact h _
theorem vN_to {z : Int} {A : Int → Prop} (v : Int) (h : z = v) (k : A v) : vN z A := ⟨v, h, k⟩
theorem tm_nn {a b : Int} (ha : 0 ≤ a) (hb : 0 < b) : 0 ≤ a.tmod b ∧ a.tmod b < b := ⟨Int.tmod_nonneg b ha, Int.tmod_lt_of_pos a hb⟩
theorem tm_4 (a : Int) : -4 < a.tmod 4 ∧ a.tmod 4 < 4 := ⟨by
  have := Int.tmod_lt_of_pos (-a) (show (0 : Int) < 4 by decide)
  rw [Int.neg_tmod] at this; omega, Int.tmod_lt_of_pos a (by decide)⟩
theorem tm_n {a : Int} {n : Nat} (hn : 0 < n) : ∃ k : Nat, (max a 0).tmod (n : Int) = (k : Int) ∧ k < n := by
  have h := tm_nn (a := max a 0) (b := (n : Int)) (by omega) (by omega)
  exact ⟨((max a 0).tmod (n : Int)).toNat, by omega, by omega⟩
theorem kind4 (r : Int) (h : -4 < r ∧ r < 4) : ∃ k : Int, (r + 4).tmod 4 = k ∧ (k = 0 ∨ k = 1 ∨ k = 2 ∨ k = 3) := by
  have : r = -3 ∨ r = -2 ∨ r = -1 ∨ r = 0 ∨ r = 1 ∨ r = 2 ∨ r = 3 := by omega
  rcases this with rfl | rfl | rfl | rfl | rfl | rfl | rfl
  · exact ⟨1, by decide, by omega⟩
  · exact ⟨2, by decide, by omega⟩
  · exact ⟨3, by decide, by omega⟩
  · exact ⟨0, by decide, by omega⟩
  · exact ⟨1, by decide, by omega⟩
  · exact ⟨2, by decide, by omega⟩
  · exact ⟨3, by decide, by omega⟩
theorem new_con (keep : Int) (hk : 1 ≤ keep ∧ keep ≤ 4) : Con Try.prog 22 [.one (.v (.int .i64 keep))] (fun rx rK rt => rx = .tup [.agg [.v (.int .i64 keep), .ro true 3 (([] : List Kp).map eK)], .one (.v (.int .i64 0))] ∧ rK = [] ∧ rt = 0) := by
  refine Z.con_ofF tabOk 12 Try.f22 _ Try.func22 (by kernel_rfl) rfl rfl rfl rfl ?_
  have hk0 : okS keep [] = true := by unfold okS; simp [okR, hk]
  have ck := check_con keep [] (Nat.zero_le _)
  rw [hk0] at ck
  simp only [cond_true] at ck
  repeat' ((conv => whnf); first
    | ((with_reducible apply spB_cong); (focus (simp only [beq_self_eq_true, bne_self_eq_false, Bool.true_bne, Bool.false_bne, Bool.bne_true, Bool.bne_false, Bool.true_beq, Bool.false_beq, Bool.not_true, Bool.not_false, Bool.not_not, Int.reduceBEq, Int.reduceBNe, Int.reduceLE, Int.reduceLT, Int.reduceEq, decide_true, decide_false, cond_true]; rfl)))
    | with_reducible first | refine spB_yes (by decide) ?_ | refine spB_no (by decide) ?_ | refine spB_f ?_ | refine spB_not ?_ | refine spB_yes (by assumption) ?_ | refine spB_no (by assumption) ?_
    | ((first | (with_reducible refine Z.conZ_mz ?_ (ck) ?_) | (with_reducible refine Z.callZ_mk ?_ (ck) ?_)); (focus ((repeat' (first | exact trivial | exact rfl | exact Z.low_nil | exact Z.low_nil2 | exact low_osl (fun _ => rfl) | (refine Z.low_osln ?_ (fun _ => rfl); (simp only [List.length_map]; done)) | exact low_oslr (fun _ => rfl) | exact Z.low_gslm (by first | rfl | exact Z.kb_some rfl) (fun _ => rfl) | exact .inl rfl | exact .inr ⟨_, rfl⟩ | apply And.intro)); done)))
    | ((with_reducible apply ex_and); exact rfl))
  all_goals (try (conv => whnf))
  all_goals try (show Nat.ble _ _ = true; rfl)
  all_goals first
    | ((first | (with_reducible apply Z.retF1) | (with_reducible apply Z.retF2) | (with_reducible apply Z.retF0)); (focus (exact rfl)); (repeat' (first | exact trivial | (with_reducible apply Z.frz_one) | (with_reducible apply Z.frz_agg) | (with_reducible apply Z.fq_int) | (with_reducible apply Z.fq_bool) | (exact Z.frz_nil) | (exact Z.frz_osl0 rfl rfl rfl) | (with_reducible apply Z.fq_nil) | (with_reducible apply Z.fq_ro) | ((with_reducible apply Z.fq_gsl); (focus (first | rfl | exact Z.isB_map _ | exact Z.gB_snoc.symm)); (focus (exact fun _ => rfl))) | ((with_reducible apply Z.fq_osl); (focus (exact rfl)); (focus (first | exact rfl | (simp only [List.length_map, Nat.zero_add]; done) | ((try simp only [LN] at *) <;> omega))); (focus (exact fun _ => rfl))) | ((with_reducible apply Z.fq_src); (focus (exact rfl)); (focus (first | exact rfl | (simp only [List.length_map, Nat.zero_add]; done) | ((try simp only [LN] at *) <;> omega))); (focus (exact fun _ => rfl))) | exact rfl | ((apply Z.fq_osl); (focus (exact rfl)); (focus (first | exact rfl | (simp only [List.length_map, Nat.zero_add]; done) | ((try simp only [LN] at *) <;> omega))); (focus (exact fun _ => rfl))) | ((apply Z.fq_src); (focus (exact rfl)); (focus (first | exact rfl | (simp only [List.length_map, Nat.zero_add]; done) | ((try simp only [LN] at *) <;> omega))); (focus (exact fun _ => rfl))) | (apply Z.fq_ro) | (apply Z.fq_int) | (apply Z.fq_bool) | apply And.intro)); (all_goals (try exact (fun _ => none))); all_goals (rfl))
    | (exfalso; rename_i hz; cases hz; done)
    | (exfalso; (try simp only [LN] at *) <;> omega)
    | (fail)

end Go.Proofs.Ytnlcmncfbiognaa
