import Derived.Test.YtnlcmncfbiognaaRd3
import Derived.Test.YtnlcmncfbiognaaRc2
import Derived.Test.YtnlcmncfbiognaaRa8
namespace Go.Proofs.Ytnlcmncfbiognaa
open Go Go.RowKit Wx
set_option linter.unusedVariables false
set_option linter.unusedSimpArgs false
set_option maxHeartbeats 4000000
def opens (l : List Kp) : Nat := l.countP (fun q => q.opn)
def hasL (n : Int) (save : Bool) (l : List Kp) : Prop := ∃ pre x, l = pre ++ [x] ∧ x.num = n ∧ x.save = save
theorem put_err {keep n : Int} {save : Bool} {l : List Kp} (h : (putR keep n save l).err ≠ 0) : (putR keep n save l).rows = [] := by
  revert h
  unfold putR fullR
  cases okS keep l <;> cases decide ((lastK l).num < n ∧ n ≤ 4611686018427387904) <;> cases decide ((keptF keep (l ++ [⟨n, save, true⟩])).length ≤ 16) <;> simp [okRs]
theorem okR_snoc : ∀ {l : List Kp} {a y : Kp}, okR a l = true → (l.getLast?.getD a).num < y.num → y.num ≤ 4611686018427387904 → y.opn = true → okR a (l ++ [y]) = true
  | [], a, y, _, h1, h2, h3 => by
    simp only [List.getLast?_nil, Option.getD_none] at h1
    simp [okR, h1, h2, h3]
  | r :: rs, a, y, h, h1, h2, h3 => by
    simp only [okR, Bool.and_eq_true, decide_eq_true_eq] at h
    have h4 : okR r (rs ++ [y]) = true := okR_snoc h.2 (by
      cases rs with
      | nil => simpa using h1
      | cons s t =>
        rw [List.getLast?_cons_cons] at h1
        cases hs : (s :: t).getLast? with
        | none => simp at hs
        | some v => rw [hs] at h1; exact h1) h2 h3
    simp only [List.cons_append, okR, Bool.and_eq_true, decide_eq_true_eq]
    exact ⟨h.1, h4⟩
theorem kept_last {k : Int} (hk : 1 ≤ k) {x : Kp} : ∀ pre : List Kp, ∃ pre', keptF k (pre ++ [x]) = pre' ++ [x]
  | [] => ⟨[], by
    rw [List.nil_append]; unfold keptF
    rw [show decide (k ≤ (npl ([] : List Kp) : Int)) = false from decide_eq_false (by simp [npl]; omega), Bool.and_false]; rfl⟩
  | y :: pre => by
    obtain ⟨p, hp⟩ := kept_last hk (x := x) pre
    rw [List.cons_append]; unfold keptF
    cases plK y && decide (k ≤ (npl (pre ++ [x]) : Int)) with
    | true => exact ⟨p, hp⟩
    | false => exact ⟨y :: p, by simp [hp]⟩
theorem gone_last {k : Int} (hk : 1 ≤ k) {x : Kp} : ∀ {pre : List Kp} {a : Kp}, okR a (pre ++ [x]) = true → ∀ g ∈ goneF k (pre ++ [x]), g ≠ x.num
  | [], a, h, g, hg => by
    rw [List.nil_append] at hg; unfold goneF at hg
    rw [show decide (k ≤ (npl ([] : List Kp) : Int)) = false from decide_eq_false (by simp [npl]; omega), Bool.and_false] at hg
    simp [goneF] at hg
  | y :: pre, a, h, g, hg => by
    simp only [List.cons_append, okR, Bool.and_eq_true, decide_eq_true_eq] at h
    have hx := okR_gt h.2 (x := x) (by simp)
    rw [List.cons_append] at hg; unfold goneF at hg
    revert hg
    cases plK y && decide (k ≤ (npl (pre ++ [x]) : Int)) with
    | true =>
      intro hg
      rcases List.mem_cons.1 hg with rfl | hg
      · omega
      · exact gone_last hk h.2 g hg
    | false => intro hg; exact gone_last hk h.2 g hg
theorem opens_kept {k : Int} : ∀ l : List Kp, opens (keptF k l) ≤ opens l
  | [] => Nat.le_refl _
  | x :: r => by
    have := opens_kept (k := k) r
    unfold keptF
    cases hp : plK x && decide (k ≤ (npl r : Int)) with
    | true =>
      simp only [cond_true, opens] at this ⊢
      rw [List.countP_cons]; omega
    | false =>
      simp only [cond_false, opens] at this ⊢
      rw [List.countP_cons, List.countP_cons]; omega
theorem okR_open : ∀ {l : List Kp} {a q : Kp}, okR a l = true → a.opn = false → l[idxO l]? = some q → okR a (l.set (idxO l) ⟨q.num, q.save, false⟩) = true
  | [], _, _, _, _, h => by simp at h
  | r :: rs, a, q, h, ha, hq => by
    simp only [okR, Bool.and_eq_true, decide_eq_true_eq] at h
    cases hr : r.opn with
    | true =>
      have hi : idxO (r :: rs) = 0 := by unfold idxO; rw [List.findIdx_cons, hr]; rfl
      rw [hi] at hq ⊢
      simp only [List.getElem?_cons_zero, Option.some.injEq] at hq
      subst hq
      simp only [List.set_cons_zero, okR, Bool.and_eq_true, decide_eq_true_eq]
      exact ⟨⟨h.1.1, h.1.2.1, fun e => by rw [ha] at e; cases e⟩, okR_mono h.2 (Int.le_refl _) (fun e => by cases e)⟩
    | false =>
      have hi : idxO (r :: rs) = idxO rs + 1 := by unfold idxO; rw [List.findIdx_cons, hr]; rfl
      rw [hi] at hq ⊢
      simp only [List.set_cons_succ, okR, Bool.and_eq_true, decide_eq_true_eq]
      exact ⟨h.1, okR_open h.2 hr (by simpa using hq)⟩
theorem anyO_get : ∀ {l : List Kp}, anyO l = true → ∃ q, l[idxO l]? = some q ∧ q.opn = true
  | [], h => by simp [anyO] at h
  | r :: rs, h => by
    unfold idxO
    rw [List.findIdx_cons]
    cases hr : r.opn with
    | true => exact ⟨r, by simp, hr⟩
    | false =>
      have h2 : anyO rs = true := by unfold anyO at h ⊢; simpa [hr] using h
      obtain ⟨q, hq, ho⟩ := anyO_get h2
      exact ⟨q, by simpa [idxO] using hq, ho⟩
theorem idx_same : ∀ {l : List Kp} {a q : Kp}, okR a l = true → l[idxO l]? = some q → idxN q.num l = idxO l
  | [], _, _, _, h => by simp at h
  | r :: rs, a, q, h, hq => by
    simp only [okR, Bool.and_eq_true, decide_eq_true_eq] at h
    cases hr : r.opn with
    | true =>
      have hi : idxO (r :: rs) = 0 := by unfold idxO; rw [List.findIdx_cons, hr]; rfl
      rw [hi] at hq ⊢
      simp only [List.getElem?_cons_zero, Option.some.injEq] at hq
      subst hq
      unfold idxN; rw [List.findIdx_cons]; simp
    | false =>
      have hi : idxO (r :: rs) = idxO rs + 1 := by unfold idxO; rw [List.findIdx_cons, hr]; rfl
      rw [hi] at hq ⊢
      have hq2 : rs[idxO rs]? = some q := by simpa using hq
      have hgt := okR_gt h.2 (List.mem_of_getElem? hq2)
      unfold idxN; rw [List.findIdx_cons, decide_eq_false (by omega)]
      have := idx_same h.2 hq2
      unfold idxN at this; simp [this]
theorem opens_set : ∀ {l : List Kp} {i : Nat} {q y : Kp}, l[i]? = some q → q.opn = true → y.opn = false → opens (l.set i y) + 1 = opens l
  | [], _, _, _, h, _, _ => by simp at h
  | r :: rs, 0, q, y, h, h1, h2 => by
    simp only [List.getElem?_cons_zero, Option.some.injEq] at h
    subst h
    simp [opens, h1, h2]
  | r :: rs, i + 1, q, y, h, h1, h2 => by
    have := opens_set (l := rs) (i := i) (by simpa using h) h1 h2
    simp only [opens, List.set_cons_succ, List.countP_cons] at this ⊢
    omega
theorem hasL_set {n : Int} {save : Bool} {l : List Kp} {i : Nat} {q y : Kp} (h : hasL n save l) (hq : l[i]? = some q) (e1 : y.num = q.num) (e2 : y.save = q.save) : hasL n save (l.set i y) := by
  obtain ⟨pre, x, rfl, h1, h2⟩ := h
  rcases Nat.lt_or_ge i pre.length with hi | hi
  · exact ⟨pre.set i y, x, by rw [List.set_append_left _ _ hi], h1, h2⟩
  · have hi2 : i = pre.length := by have := (List.getElem?_eq_some_iff.1 hq).1; simp at this; omega
    subst hi2
    have : x = q := by simpa using hq
    subst this
    exact ⟨pre, y, by simp, by rw [e1, h1], by rw [e2, h2]⟩
theorem last_step {keep n : Int} {save : Bool} {l : List Kp} (hk : okS keep l = true) (hl : hasL n save l) (ho : anyO l = true) : (setR keep (nxtN l) l).err = 0 ∧ (setR keep (nxtN l) l).keep = keep ∧ okS keep (setR keep (nxtN l) l).rows = true ∧ hasL n save (setR keep (nxtN l) l).rows ∧ (∀ g ∈ (setR keep (nxtN l) l).gone, g ≠ n) ∧ opens (setR keep (nxtN l) l).rows + 1 ≤ opens l := by
  obtain ⟨q, hq, hqo⟩ := anyO_get ho
  have hn : nxtN l = q.num := nxtN_at hq rfl
  have hkk := hk
  unfold okS at hkk
  simp only [Bool.and_eq_true, decide_eq_true_eq] at hkk
  have hix : idxN (nxtN l) l = idxO l := by rw [hn]; exact idx_same hkk.2 hq
  have e : setR keep (nxtN l) l = okRs keep (l.set (idxO l) ⟨q.num, q.save, false⟩) := by
    unfold setR; rw [atR_some hk hix hq, ho, decide_eq_true rfl]; rfl
  rw [e]
  have hL := hasL_set hl hq (y := ⟨q.num, q.save, false⟩) rfl rfl
  have hR := okR_open hkk.2 rfl hq
  have hO := opens_set hq hqo (y := ⟨q.num, q.save, false⟩) rfl
  have hS : okS keep (l.set (idxO l) ⟨q.num, q.save, false⟩) = true := by
    unfold okS; simp only [Bool.and_eq_true, decide_eq_true_eq, List.length_set]; exact ⟨hkk.1, hR⟩
  generalize l.set (idxO l) ⟨q.num, q.save, false⟩ = L at *
  obtain ⟨pre, x, rfl, h1, h2⟩ := hL
  obtain ⟨pre', hp⟩ := kept_last (x := x) hkk.1.1.1 pre
  refine ⟨rfl, rfl, okS_kept hS, ⟨pre', x, hp, h1, h2⟩, fun g hg => ?_, ?_⟩
  · rw [← h1]; exact gone_last hkk.1.1.1 hR g hg
  · have := opens_kept (k := keep) (pre ++ [x])
    simp only [okRs]; omega
theorem put_ok {keep n : Int} {save : Bool} {l : List Kp} (h : (putR keep n save l).err = 0) : (putR keep n save l).keep = keep ∧ okS keep (putR keep n save l).rows = true ∧ hasL n save (putR keep n save l).rows ∧ opens (putR keep n save l).rows ≤ 16 := by
  revert h
  unfold putR fullR
  cases hk : okS keep l with
  | false => intro h; simp at h
  | true =>
    by_cases hd : (lastK l).num < n ∧ n ≤ 4611686018427387904
    · rw [decide_eq_true hd]
      by_cases hf : (keptF keep (l ++ [⟨n, save, true⟩])).length ≤ 16
      · rw [decide_eq_true hf]
        intro _
        have hkk := hk
        unfold okS at hkk
        simp only [Bool.and_eq_true, decide_eq_true_eq] at hkk
        obtain ⟨pre', hp⟩ := kept_last (x := ⟨n, save, true⟩) hkk.1.1.1 l
        have hR : okR ⟨0, false, false⟩ (l ++ [⟨n, save, true⟩]) = true := okR_snoc hkk.2 hd.1 hd.2 rfl
        refine ⟨rfl, ?_, ⟨pre', _, hp, rfl, rfl⟩, ?_⟩
        · simp only [cond_true, okRs]
          unfold okS; simp only [Bool.and_eq_true, decide_eq_true_eq]
          exact ⟨⟨hkk.1.1, hf⟩, okR_kept hR⟩
        · exact Nat.le_trans List.countP_le_length hf
      · rw [decide_eq_false hf]; intro h; simp at h
    · rw [decide_eq_false hd]; intro h; simp at h
theorem hasL_last {n : Int} {save : Bool} {l : List Kp} (h : hasL n save l) (ho : anyO l = false) : lastK l = ⟨n, save, false⟩ ∧ l ≠ [] := by
  obtain ⟨pre, x, rfl, h1, h2⟩ := h
  refine ⟨?_, by simp⟩
  unfold lastK
  simp only [List.getLast?_append, List.getLast?_singleton, Option.some_or, Option.getD_some]
  have : x.opn = false := by unfold anyO at ho; rw [List.any_eq_false] at ho; simpa using ho x (by simp)
  cases x; simp_all
theorem set_glen {keep n : Int} {l : List Kp} : (setR keep n l).gone.length ≤ l.length := by
  unfold setR atR
  cases okS keep l with
  | false => exact Nat.zero_le _
  | true =>
    cases l[idxN n l]? with
    | none => exact Nat.zero_le _
    | some q =>
      simp only [cond_true]
      cases anyO l && decide (nxtN l = n) with
      | false => exact Nat.zero_le _
      | true =>
        have := keptF_len keep (l.set (idxN n l) ⟨q.num, q.save, false⟩)
        rw [List.length_set] at this
        simp only [cond_true, okRs]; omega
theorem retainlast_con (keep number : Int) (save : Bool) (l : List Kp) (hl : l.length ≤ 9223372036854775807) : Con Try.prog 8 [.agg [.v (.int .i64 keep), .ro false 3 (l.map eK)], .one (.v (.int .u64 number)), .one (.v (.bool save))] (fun rx rK rt => rx = .val (.bool true) ∧ rK = [] ∧ rt = 0) := by
  refine Z.con_ofF tabOk 81 Try.f8 _ Try.func8 (by kernel_rfl) rfl rfl rfl rfl ?_
  by_cases hlen : l.length ≤ 100
  rotate_left
  · skip
    repeat' ((conv => whnf); first
      | ((with_reducible apply spB_cong); (focus (simp only [beq_self_eq_true, bne_self_eq_false, Bool.true_bne, Bool.false_bne, Bool.bne_true, Bool.bne_false, Bool.true_beq, Bool.false_beq, Bool.not_true, Bool.not_false, Bool.not_not, Int.reduceBEq, Int.reduceBNe, Int.reduceLE, Int.reduceLT, Int.reduceEq, decide_true, decide_false]; rfl)))
      | with_reducible first | refine spB_yes (by decide) ?_ | refine spB_no (by decide) ?_ | refine spB_f ?_ | refine spB_not ?_ | refine spB_yes (by assumption) ?_ | refine spB_no (by assumption) ?_
      | (with_reducible refine spB_dec ?_ ?_ <;> intro _ <;> (try (exfalso; first | contradiction | omega | (simp only [LN] at *; omega))))
      | ((first | (with_reducible refine Z.conZ_mz ?_ (wakes_con) ?_) | (with_reducible refine Z.callZ_mk ?_ (wakes_con) ?_)); (focus ((repeat' (first | exact trivial | exact rfl | exact Z.low_nil | exact Z.low_nil2 | exact low_osl (fun _ => rfl) | (refine Z.low_osln ?_ (fun _ => rfl); (simp only [List.length_map]; done)) | exact low_oslr (fun _ => rfl) | exact Z.low_gslm (by first | rfl | exact Z.kb_some rfl) (fun _ => rfl) | exact .inl rfl | exact .inr ⟨_, rfl⟩ | apply And.intro)); done))))
    all_goals (try (conv => whnf))
    all_goals first
      | ((first | (with_reducible apply Z.retF1) | (with_reducible apply Z.retF2) | (with_reducible apply Z.retF0)); (focus (exact rfl)); (repeat' (first | exact trivial | (with_reducible apply Z.frz_one) | (with_reducible apply Z.frz_agg) | (with_reducible apply Z.fq_int) | (with_reducible apply Z.fq_bool) | (exact Z.frz_nil) | (exact Z.frz_osl0 rfl rfl rfl) | (with_reducible apply Z.fq_nil) | (with_reducible apply Z.fq_ro) | ((with_reducible apply Z.fq_gsl); (focus (first | rfl | exact Z.isB_map _ | exact Z.gB_snoc.symm)); (focus (exact fun _ => rfl))) | ((with_reducible apply Z.fq_osl); (focus (exact rfl)); (focus (first | exact rfl | (simp only [List.length_map, Nat.zero_add]; done) | ((try simp only [LN] at *) <;> omega))); (focus (exact fun _ => rfl))) | ((with_reducible apply Z.fq_src); (focus (exact rfl)); (focus (first | exact rfl | (simp only [List.length_map, Nat.zero_add]; done) | ((try simp only [LN] at *) <;> omega))); (focus (exact fun _ => rfl))) | exact rfl | ((apply Z.fq_osl); (focus (exact rfl)); (focus (first | exact rfl | (simp only [List.length_map, Nat.zero_add]; done) | ((try simp only [LN] at *) <;> omega))); (focus (exact fun _ => rfl))) | ((apply Z.fq_src); (focus (exact rfl)); (focus (first | exact rfl | (simp only [List.length_map, Nat.zero_add]; done) | ((try simp only [LN] at *) <;> omega))); (focus (exact fun _ => rfl))) | (apply Z.fq_ro) | (apply Z.fq_int) | (apply Z.fq_bool) | apply And.intro)); (all_goals (try exact (fun _ => none))); all_goals (rfl))
      | (exfalso; simp_all; done)
      | (fail)
  have c1 := put_con keep number save l (by omega)
  have hE := put_err (keep := keep) (n := number) (save := save) (l := l)
  have hO := put_ok (keep := keep) (n := number) (save := save) (l := l)
  generalize putR keep number save l = A at *
  by_cases he : A.err = 0
  rotate_left
  · have hE1 := hE he
    repeat' ((conv => whnf); first
      | ((with_reducible apply spB_cong); (focus (simp only [beq_self_eq_true, bne_self_eq_false, Bool.true_bne, Bool.false_bne, Bool.bne_true, Bool.bne_false, Bool.true_beq, Bool.false_beq, Bool.not_true, Bool.not_false, Bool.not_not, Int.reduceBEq, Int.reduceBNe, Int.reduceLE, Int.reduceLT, Int.reduceEq, decide_true, decide_false]; rfl)))
      | with_reducible first | refine spB_yes (by decide) ?_ | refine spB_no (by decide) ?_ | refine spB_f ?_ | refine spB_not ?_ | refine spB_yes (by assumption) ?_ | refine spB_no (by assumption) ?_
      | (with_reducible refine spB_dec ?_ ?_ <;> intro _ <;> (try (exfalso; first | contradiction | omega | (simp only [LN] at *; omega))))
      | (with_reducible refine spB_bne ?_ ?_ <;> intro _ <;> (try (exfalso; first | contradiction | omega | (simp only [LN] at *; omega))))
      | ((first | (with_reducible refine Z.conZ_mz ?_ (wakes_con) ?_) | (with_reducible refine Z.callZ_mk ?_ (wakes_con) ?_) | (with_reducible refine Z.conZ_mz ?_ (c1) ?_) | (with_reducible refine Z.callZ_mk ?_ (c1) ?_)); (focus ((repeat' (first | exact trivial | exact rfl | exact Z.low_nil | exact Z.low_nil2 | exact low_osl (fun _ => rfl) | (refine Z.low_osln ?_ (fun _ => rfl); (simp only [List.length_map]; done)) | exact low_oslr (fun _ => rfl) | exact Z.low_gslm (by first | rfl | exact Z.kb_some rfl) (fun _ => rfl) | exact .inl rfl | exact .inr ⟨_, rfl⟩ | apply And.intro)); done))))
    all_goals (try (conv => whnf))
    all_goals first
      | ((first | (with_reducible apply Z.retF1) | (with_reducible apply Z.retF2) | (with_reducible apply Z.retF0)); (focus (exact rfl)); (repeat' (first | exact trivial | (with_reducible apply Z.frz_one) | (with_reducible apply Z.frz_agg) | (with_reducible apply Z.fq_int) | (with_reducible apply Z.fq_bool) | (exact Z.frz_nil) | (exact Z.frz_osl0 rfl rfl rfl) | (with_reducible apply Z.fq_nil) | (with_reducible apply Z.fq_ro) | ((with_reducible apply Z.fq_gsl); (focus (first | rfl | exact Z.isB_map _ | exact Z.gB_snoc.symm)); (focus (exact fun _ => rfl))) | ((with_reducible apply Z.fq_osl); (focus (exact rfl)); (focus (first | exact rfl | (simp only [List.length_map, Nat.zero_add]; done) | ((try simp only [LN] at *) <;> omega))); (focus (exact fun _ => rfl))) | ((with_reducible apply Z.fq_src); (focus (exact rfl)); (focus (first | exact rfl | (simp only [List.length_map, Nat.zero_add]; done) | ((try simp only [LN] at *) <;> omega))); (focus (exact fun _ => rfl))) | exact rfl | ((apply Z.fq_osl); (focus (exact rfl)); (focus (first | exact rfl | (simp only [List.length_map, Nat.zero_add]; done) | ((try simp only [LN] at *) <;> omega))); (focus (exact fun _ => rfl))) | ((apply Z.fq_src); (focus (exact rfl)); (focus (first | exact rfl | (simp only [List.length_map, Nat.zero_add]; done) | ((try simp only [LN] at *) <;> omega))); (focus (exact fun _ => rfl))) | (apply Z.fq_ro) | (apply Z.fq_int) | (apply Z.fq_bool) | apply And.intro)); (all_goals (try exact (fun _ => none))); all_goals (first | rfl | (rw [hE1]; rfl)))
      | (exfalso; simp_all; done)
      | (fail)
  obtain ⟨hk0, hO1, hO2, hO3⟩ := hO he
  rw [hk0] at c1
  repeat' ((conv => whnf); first
    | ((with_reducible apply spB_cong); (focus (simp only [beq_self_eq_true, bne_self_eq_false, Bool.true_bne, Bool.false_bne, Bool.bne_true, Bool.bne_false, Bool.true_beq, Bool.false_beq, Bool.not_true, Bool.not_false, Bool.not_not, Int.reduceBEq, Int.reduceBNe, Int.reduceLE, Int.reduceLT, Int.reduceEq, decide_true, decide_false]; rfl)))
    | with_reducible first | refine spB_yes (by decide) ?_ | refine spB_no (by decide) ?_ | refine spB_f ?_ | refine spB_not ?_ | refine spB_yes (by assumption) ?_ | refine spB_no (by assumption) ?_
    | (with_reducible refine spB_dec ?_ ?_ <;> intro _ <;> (try (exfalso; first | contradiction | omega | (simp only [LN] at *; omega))))
    | (with_reducible refine spB_bne ?_ ?_ <;> intro _ <;> (try (exfalso; first | contradiction | omega | (simp only [LN] at *; omega))))
    | ((first | (with_reducible refine Z.conZ_mz ?_ (wakes_con) ?_) | (with_reducible refine Z.callZ_mk ?_ (wakes_con) ?_) | (with_reducible refine Z.conZ_mz ?_ (c1) ?_) | (with_reducible refine Z.callZ_mk ?_ (c1) ?_)); (focus ((repeat' (first | exact trivial | exact rfl | exact Z.low_nil | exact Z.low_nil2 | exact low_osl (fun _ => rfl) | (refine Z.low_osln ?_ (fun _ => rfl); (simp only [List.length_map]; done)) | exact low_oslr (fun _ => rfl) | exact Z.low_gslm (by first | rfl | exact Z.kb_some rfl) (fun _ => rfl) | exact .inl rfl | exact .inr ⟨_, rfl⟩ | apply And.intro)); done))))
  all_goals (try (conv => whnf))
  refine Z.loopK tabOk (fun zq : Nat × List Kp => [(38, .val (.int .i64 (zq.1 : Int)))]) (fun zq : Nat × List Kp => ([(0, some (Z.Ob.b ⟨[[.v (.int .i64 keep), .ro true 3 (zq.2.map eK)]], 2, 24, true⟩))] : Z.Kr)) (fun zq => okS keep zq.2 = true ∧ hasL number save zq.2 ∧ opens zq.2 + zq.1 ≤ 16) (fun zq => 17 - zq.1) (0, A.rows) 1 [(1, _), (2, _), (3, _)] ⟨rfl, rfl, rfl, trivial⟩ [] trivial ?_ ?_ rfl rfl ⟨hO1, hO2, by simpa using hO3⟩ ?_
  · repeat' (first | exact trivial | apply And.intro | exact ⟨_, rfl, rfl⟩ | exact ⟨_, rfl, Z.Imp.refl _⟩ | exact ⟨_, rfl, Z.Imp.nilg _⟩ | exact ⟨_, rfl, Z.Imp.nilr _ _⟩)
  · repeat' (first | exact trivial | (intro b hb; cases hb; done) | exact (fun b hb => ⟨b, hb, Z.ImpO.refl b⟩) | (intro b hb; cases hb; refine ⟨_, rfl, ⟨rfl, rfl, rfl⟩, ?_⟩; (repeat' (first | exact trivial | apply And.intro | exact Z.Imp.refl _ | exact Z.Imp.nilg _ | exact Z.Imp.nilr _ _)); done) | apply And.intro)
  rintro ⟨i, L⟩ HINV
  dsimp only at HINV ⊢
  obtain ⟨hk, hH, hop⟩ := HINV
  have hL16 := (okS_keep hk).2.2
  cases ho : anyO L
  · obtain ⟨hla, hne⟩ := hasL_last hH ho
    have cN := Nxt_con keep L (by omega)
    have cL := Lat_con keep L (by omega)
    rw [hk, ho] at cN
    rw [hk, hla, show (!L.isEmpty) = true by simpa using hne] at cL
    repeat' ((conv => whnf); first
      | with_reducible first | refine spB_t ?_
      | ((with_reducible apply spB_cong); (focus (simp only [beq_self_eq_true, bne_self_eq_false, Bool.true_bne, Bool.false_bne, Bool.bne_true, Bool.bne_false, Bool.true_beq, Bool.false_beq, Bool.not_true, Bool.not_false, Bool.not_not, Int.reduceBEq, Int.reduceBNe, Int.reduceLE, Int.reduceLT, Int.reduceEq, decide_true, decide_false, cond_true, cond_false]; rfl)))
      | (with_reducible refine spB_dec ?_ ?_ <;> intro _ <;> (try (exfalso; first | contradiction | omega | (simp only [LN] at *; omega))))
      | ((first | (with_reducible refine Z.conZ_mz ?_ (wakes_con) ?_) | (with_reducible refine Z.callZ_mk ?_ (wakes_con) ?_) | (with_reducible refine Z.conZ_mz ?_ (c1) ?_) | (with_reducible refine Z.callZ_mk ?_ (c1) ?_) | (with_reducible refine Z.conZ_mz ?_ (cL) ?_) | (with_reducible refine Z.callZ_mk ?_ (cL) ?_) | (with_reducible refine Z.conZ_mz ?_ (cN) ?_) | (with_reducible refine Z.callZ_mk ?_ (cN) ?_)); (focus ((repeat' (first | exact trivial | exact rfl | exact Z.low_nil | exact Z.low_nil2 | exact low_osl (fun _ => rfl) | (refine Z.low_osln ?_ (fun _ => rfl); (simp only [List.length_map]; done)) | exact low_oslr (fun _ => rfl) | exact Z.low_gslm (by first | rfl | exact Z.kb_some rfl) (fun _ => rfl) | exact .inl rfl | exact .inr ⟨_, rfl⟩ | apply And.intro)); done))))
    all_goals (try (conv => whnf))
    all_goals first
      | ((first | (with_reducible apply Z.retF1) | (with_reducible apply Z.retF2) | (with_reducible apply Z.retF0)); (focus (exact rfl)); (repeat' (first | exact trivial | (with_reducible apply Z.frz_one) | (with_reducible apply Z.frz_agg) | (with_reducible apply Z.fq_int) | (with_reducible apply Z.fq_bool) | (exact Z.frz_nil) | (exact Z.frz_osl0 rfl rfl rfl) | (with_reducible apply Z.fq_nil) | (with_reducible apply Z.fq_ro) | ((with_reducible apply Z.fq_gsl); (focus (first | rfl | exact Z.isB_map _ | exact Z.gB_snoc.symm)); (focus (exact fun _ => rfl))) | ((with_reducible apply Z.fq_osl); (focus (exact rfl)); (focus (first | exact rfl | (simp only [List.length_map, Nat.zero_add]; done) | ((try simp only [LN] at *) <;> omega))); (focus (exact fun _ => rfl))) | ((with_reducible apply Z.fq_src); (focus (exact rfl)); (focus (first | exact rfl | (simp only [List.length_map, Nat.zero_add]; done) | ((try simp only [LN] at *) <;> omega))); (focus (exact fun _ => rfl))) | exact rfl | ((apply Z.fq_osl); (focus (exact rfl)); (focus (first | exact rfl | (simp only [List.length_map, Nat.zero_add]; done) | ((try simp only [LN] at *) <;> omega))); (focus (exact fun _ => rfl))) | ((apply Z.fq_src); (focus (exact rfl)); (focus (first | exact rfl | (simp only [List.length_map, Nat.zero_add]; done) | ((try simp only [LN] at *) <;> omega))); (focus (exact fun _ => rfl))) | (apply Z.fq_ro) | (apply Z.fq_int) | (apply Z.fq_bool) | apply And.intro)); (all_goals (try exact (fun _ => none))); all_goals (first | rfl | (simp; done)))
      | (exfalso; simp_all; done)
      | (fail)
  · have cN := Nxt_con keep L (by omega)
    rw [hk, ho] at cN
    have cS := set_con keep (nxtN L) L (by omega)
    obtain ⟨s1, s2, s3, s4, s5, s6⟩ := last_step hk hH ho
    rw [s1, s2] at cS
    have hS16 := (okS_keep s3).2.2
    generalize (setR keep (nxtN L) L).rows = L2 at *
    have hgl : (setR keep (nxtN L) L).gone.length ≤ 100 := Nat.le_trans set_glen (by omega)
    generalize (setR keep (nxtN L) L).gone = G at *
    repeat' ((conv => whnf); first
      | ((with_reducible apply spB_cong); (focus (simp only [beq_self_eq_true, bne_self_eq_false, Bool.true_bne, Bool.false_bne, Bool.bne_true, Bool.bne_false, Bool.true_beq, Bool.false_beq, Bool.not_true, Bool.not_false, Bool.not_not, Int.reduceBEq, Int.reduceBNe, Int.reduceLE, Int.reduceLT, Int.reduceEq, decide_true, decide_false, cond_true, cond_false]; rfl)))
      | with_reducible first | refine spB_yes (by decide) ?_ | refine spB_no (by decide) ?_ | refine spB_f ?_ | refine spB_not ?_ | refine spB_yes (by assumption) ?_ | refine spB_no (by assumption) ?_
      | (with_reducible refine spB_dec ?_ ?_ <;> intro _ <;> (try (exfalso; first | contradiction | omega | (simp only [LN] at *; omega))))
      | ((first | (with_reducible refine Z.conZ_mz ?_ (wakes_con) ?_) | (with_reducible refine Z.callZ_mk ?_ (wakes_con) ?_) | (with_reducible refine Z.conZ_mz ?_ (c1) ?_) | (with_reducible refine Z.callZ_mk ?_ (c1) ?_) | (with_reducible refine Z.conZ_mz ?_ (cS) ?_) | (with_reducible refine Z.callZ_mk ?_ (cS) ?_) | (with_reducible refine Z.conZ_mz ?_ (cL) ?_) | (with_reducible refine Z.callZ_mk ?_ (cL) ?_) | (with_reducible refine Z.conZ_mz ?_ (cN) ?_) | (with_reducible refine Z.callZ_mk ?_ (cN) ?_)); (focus ((repeat' (first | exact trivial | exact rfl | exact Z.low_nil | exact Z.low_nil2 | exact low_osl (fun _ => rfl) | (refine Z.low_osln ?_ (fun _ => rfl); (simp only [List.length_map]; done)) | exact low_oslr (fun _ => rfl) | exact Z.low_gslm (by first | rfl | exact Z.kb_some rfl) (fun _ => rfl) | exact .inl rfl | exact .inr ⟨_, rfl⟩ | apply And.intro)); done))))
    all_goals (try (conv => whnf))
    all_goals try (exfalso; simp_all; done)
    refine Z.loopK tabOk (fun zq : Nat => [(58, .val (.int .i64 (zq : Int)))]) (fun zq : Nat => ([] : Z.Kr)) (fun zq => zq ≤ G.length) (fun zq => G.length - zq) 0 2 [(1, _), (2, _), (3, _), (11, _), (38, _), (56, _), (57, _)] ⟨rfl, rfl, rfl, rfl, rfl, rfl, rfl, trivial⟩ [(0, some _), (1, some _)] ⟨rfl, rfl, trivial⟩ ?_ ?_ rfl rfl (Nat.zero_le _) ?_
    · repeat' (first | exact trivial | apply And.intro | exact ⟨_, rfl, rfl⟩ | exact ⟨_, rfl, Z.Imp.refl _⟩ | exact ⟨_, rfl, Z.Imp.nilg _⟩ | exact ⟨_, rfl, Z.Imp.nilr _ _⟩)
    · repeat' (first | exact trivial | (intro b hb; cases hb; done) | exact (fun b hb => ⟨b, hb, Z.ImpO.refl b⟩) | (intro b hb; cases hb; refine ⟨_, rfl, ⟨rfl, rfl, rfl⟩, ?_⟩; (repeat' (first | exact trivial | apply And.intro | exact Z.Imp.refl _ | exact Z.Imp.nilg _ | exact Z.Imp.nilr _ _)); done) | apply And.intro)
    rintro h HINV
    dsimp only at HINV ⊢
    repeat' ((conv => whnf); first
      | (with_reducible refine spB_dec ?_ ?_ <;> intro _ <;> (try (exfalso; first | contradiction | omega | (simp only [LN] at *; omega))))
      | (with_reducible refine spB_beq ?_ ?_ <;> intro _ <;> (try (exfalso; first | contradiction | omega | (simp only [LN] at *; omega))))
      | ((with_reducible apply ixN_litp); (focus (exact rfl)); (focus ((try simp only [LN] at *) <;> omega)))
      | with_reducible refine wr_i64 (by first | omega | (simp only [LN] at *; omega)) ?_
      | ((with_reducible refine rowN_map ?_ ?_); (focus ((try simp only [LN] at *) <;> omega)); intro x hx; have hgx := s5 x (List.mem_of_getElem? hx)))
    all_goals (try (conv => whnf))
    all_goals first
      | ((refine Z.rndK (h + 1) (fun s => [0, 1]) rfl rfl rfl rfl ?_ ?_ ?_ ?_); (focus (repeat' (first | exact trivial | exact rfl | (rw [List.map_append]; exact rfl) | apply And.intro))); (focus (repeat' (first | exact trivial | (intro b hb; cases hb; rfl) | (intro b hb; cases hb; subst hlb; rfl) | (intro b hb; cases hb; rw [List.map_append]; rfl) | (intro b hb; cases hb; done) | exact Z.blk_sub rfl rfl (ren_map fun _ => rfl) | exact Z.blk_sub rfl rfl (Z.ren_app (ren_map fun _ => rfl) (ren_map fun _ => rfl)) | exact Z.blk_sub rfl (by first | (rw [List.map_append]; rfl) | (rw [List.map_set]; rfl) | simp only [List.map_append, List.map_cons, List.map_nil, List.map_set]) (ren_map fun _ => rfl) | exact Z.gB_sub rfl rfl (ren_map fun _ => rfl) | exact Z.gB_sub' rfl (by first | rfl | (rw [List.map_append]; rfl) | simp only [List.map_append, List.map_cons, List.map_nil]) (ren_map fun _ => rfl) | apply And.intro))); (focus ((try dsimp only); (try simp only [LN] at *) <;> omega)); (try simp only [LN] at *); (try dsimp only); omega)
      | ((refine Z.rndK ((i + 1, L2)) (fun s => [0]) rfl rfl rfl rfl ?_ ?_ ?_ ?_); (focus (repeat' (first | exact trivial | exact rfl | (rw [List.map_append]; exact rfl) | apply And.intro))); (focus (repeat' (first | exact trivial | (intro b hb; cases hb; rfl) | (intro b hb; cases hb; subst hlb; rfl) | (intro b hb; cases hb; rw [List.map_append]; rfl) | (intro b hb; cases hb; done) | exact Z.blk_sub rfl rfl (ren_map fun _ => rfl) | exact Z.blk_sub rfl rfl (Z.ren_app (ren_map fun _ => rfl) (ren_map fun _ => rfl)) | exact Z.blk_sub rfl (by first | (rw [List.map_append]; rfl) | (rw [List.map_set]; rfl) | simp only [List.map_append, List.map_cons, List.map_nil, List.map_set]) (ren_map fun _ => rfl) | exact Z.gB_sub rfl rfl (ren_map fun _ => rfl) | exact Z.gB_sub' rfl (by first | rfl | (rw [List.map_append]; rfl) | simp only [List.map_append, List.map_cons, List.map_nil]) (ren_map fun _ => rfl) | apply And.intro))); (focus (exact ⟨s3, s4, by (try dsimp only); omega⟩)); (dsimp only; omega))
      | (exfalso; simp_all; done)
      | (fail)

end Go.Proofs.Ytnlcmncfbiognaa
