import Derived.Test.YtnlcmncfbiognaaRa8
import Derived.Test.YtnlcmncfbiognaaRc0
namespace Go.Proofs.Ytnlcmncfbiognaa
open Go Go.RowKit Wx
set_option linter.unusedVariables false
set_option linter.unusedSimpArgs false
set_option maxHeartbeats 4000000
theorem anyO_ex : ∀ {l : List Kp}, anyO l = true → ∃ q, l[idxO l]? = some q ∧ q.opn = true
  | [], h => by simp [anyO] at h
  | r :: rs, h => by
    unfold idxO
    rw [List.findIdx_cons]
    cases hr : r.opn with
    | true => exact ⟨r, by simp, hr⟩
    | false =>
      have h2 : anyO rs = true := by unfold anyO at h ⊢; simpa [hr] using h
      obtain ⟨q, hq, ho⟩ := anyO_ex h2
      exact ⟨q, by simpa [idxO] using hq, ho⟩
theorem npl_at {l : List Kp} {i : Nat} {z : Kp} (h : l[i]? = some z) : npl (l.drop i) = (bif plK z then 1 else 0) + npl (l.drop (i + 1)) := by
  rw [drop_cons h]; unfold npl; rw [List.countP_cons]
  cases plK z <;> simp <;> omega
def wthF (l : List Kp) (p : Nat) (y : Kp) : List Kp := if p = l.length then l ++ [y] else l.set p y
theorem set_take_eq {l : List Kp} {p i : Nat} {y : Kp} (hi : i < l.length) (h : i = p) : (l.set p y).take (i + 1) = (l.set p y).take i ++ [y] := by
  subst h; exact take_snoc (by simp [hi])
theorem set_take_ne {l : List Kp} {p i : Nat} {x y : Kp} (hx : l[i]? = some x) (h : ¬ i = p) : (l.set p y).take (i + 1) = (l.set p y).take i ++ [x] :=
  take_snoc (by rw [List.getElem?_set_ne (fun e => h e.symm)]; exact hx)
theorem set_past {l : List Kp} {p : Nat} {y : Kp} (h : p = l.length) : l.set p y = l := List.set_eq_of_length_le (by omega)
theorem kept_yes {k : Int} {l : List Kp} {i : Nat} {x : Kp} (h : l[i]? = some x) (hp : (plK x && decide (k ≤ (npl (l.drop (i + 1)) : Int))) = false) : keptF k (l.drop i) = x :: keptF k (l.drop (i + 1)) ∧ goneF k (l.drop i) = goneF k (l.drop (i + 1)) := by
  rw [drop_cons h]; constructor
  · conv => lhs; unfold keptF
    rw [hp]; rfl
  · conv => lhs; unfold goneF
    rw [hp]; rfl
theorem kept_no {k : Int} {l : List Kp} {i : Nat} {x : Kp} (h : l[i]? = some x) (hp : (plK x && decide (k ≤ (npl (l.drop (i + 1)) : Int))) = true) : keptF k (l.drop i) = keptF k (l.drop (i + 1)) ∧ goneF k (l.drop i) = x.num :: goneF k (l.drop (i + 1)) := by
  rw [drop_cons h]; constructor
  · conv => lhs; unfold keptF
    rw [hp]; rfl
  · conv => lhs; unfold goneF
    rw [hp]; rfl
theorem okR_mono_opn : ∀ {l : List Kp} {a u z : Kp} {k j : Nat}, okR a l = true → l[k]? = some u → u.opn = true → k ≤ j → l[j]? = some z → z.opn = true
  | [], _, _, _, _, _, _, h, _, _, _ => by simp at h
  | r :: rs, a, u, z, 0, 0, h, hu, ho, _, hz => by
    simp only [List.getElem?_cons_zero, Option.some.injEq] at hu hz
    subst hu; subst hz; exact ho
  | r :: rs, a, u, z, 0, j + 1, h, hu, ho, _, hz => by
    simp only [List.getElem?_cons_zero, Option.some.injEq] at hu
    subst hu
    simp only [okR, Bool.and_eq_true, decide_eq_true_eq] at h
    cases rs with
    | nil => simp at hz
    | cons s t =>
      have h5 := h.2
      simp only [okR, Bool.and_eq_true, decide_eq_true_eq] at h5
      exact okR_mono_opn (k := 0) (j := j) h.2 (by simp) (h5.1.2.2 ho) (Nat.zero_le _) (by simpa using hz)
  | r :: rs, a, u, z, k + 1, 0, _, _, _, h, _ => by omega
  | r :: rs, a, u, z, k + 1, j + 1, h, hu, ho, hkj, hz => by
    simp only [okR, Bool.and_eq_true, decide_eq_true_eq] at h
    exact okR_mono_opn (k := k) (j := j) h.2 (by simpa using hu) ho (by omega) (by simpa using hz)
theorem idxN_le {n : Int} : ∀ {l : List Kp} {k : Nat} {u : Kp}, l[k]? = some u → u.num = n → idxN n l ≤ k
  | [], _, _, h, _ => by simp at h
  | r :: rs, 0, u, h, e => by
    simp only [List.getElem?_cons_zero, Option.some.injEq] at h
    subst h; unfold idxN; rw [List.findIdx_cons, decide_eq_true e]; exact Nat.le_refl _
  | r :: rs, k + 1, u, h, e => by
    have := idxN_le (n := n) (l := rs) (k := k) (by simpa using h) e
    unfold idxN at this ⊢; rw [List.findIdx_cons]
    cases decide (r.num = n) <;> simp <;> omega
theorem idxO_le : ∀ {l : List Kp} {k : Nat} {u : Kp}, l[k]? = some u → u.opn = true → idxO l ≤ k
  | [], _, _, h, _ => by simp at h
  | r :: rs, 0, u, h, e => by
    simp only [List.getElem?_cons_zero, Option.some.injEq] at h
    subst h; unfold idxO; rw [List.findIdx_cons, e]; exact Nat.le_refl _
  | r :: rs, k + 1, u, h, e => by
    have := idxO_le (l := rs) (k := k) (by simpa using h) e
    unfold idxO at this ⊢; rw [List.findIdx_cons]
    cases r.opn <;> simp <;> omega
theorem anyO_mem {l : List Kp} {k : Nat} {u : Kp} (h : l[k]? = some u) (e : u.opn = true) : anyO l = true := List.any_eq_true.2 ⟨u, List.mem_of_getElem? h, e⟩
section
variable {l : List Kp} {a q z : Kp} {n : Int} {i j : Nat}
theorem set_n1 (hk : okR a l = true) (hq : l[i]? = some q) (hn : q.num = n) (ho : q.opn = false) : (anyO l && decide (nxtN l = n)) = false := by
  cases hA : anyO l with
  | false => rfl
  | true =>
    rw [Bool.true_and]
    refine decide_eq_false fun e => ?_
    obtain ⟨u, hu, huo⟩ := anyO_ex hA
    rw [nxtN_at hu rfl] at e
    have := okR_uniq hk (List.mem_of_getElem? hu) (List.mem_of_getElem? hq) (by omega)
    subst this; rw [ho] at huo; cases huo
theorem set_n2 (hi : idxN n l = j + 1) (hz : l[j]? = some z) (ho : z.opn = true) : (anyO l && decide (nxtN l = n)) = false := by
  rw [anyO_mem hz ho, Bool.true_and]
  refine decide_eq_false fun e => ?_
  obtain ⟨u, hu, huo⟩ := anyO_ex (anyO_mem hz ho)
  rw [nxtN_at hu rfl] at e
  have h1 := idxN_le hu e
  have h2 := idxO_le hz ho
  omega
theorem set_t1 (hq : l[0]? = some q) (hn : q.num = n) (ho : q.opn = true) : (anyO l && decide (nxtN l = n)) = true := by
  have h2 := idxO_le hq ho
  rw [anyO_mem hq ho, nxtN_at hq (by omega), decide_eq_true hn]; rfl
theorem set_t2 (hk : okR a l = true) (hq : l[j + 1]? = some q) (hn : q.num = n) (ho : q.opn = true) (hz : l[j]? = some z) (hzo : z.opn = false) : (anyO l && decide (nxtN l = n)) = true := by
  have h2 := idxO_le hq ho
  have hA := anyO_mem hq ho
  obtain ⟨u, hu, huo⟩ := anyO_ex hA
  have h3 : idxO l = j + 1 := by
    rcases Nat.lt_or_ge (idxO l) (j + 1) with h | h
    · have := okR_mono_opn hk hu huo (show idxO l ≤ j by omega) hz
      rw [hzo] at this; cases this
    · omega
  rw [hA, nxtN_at hq h3, decide_eq_true hn]; rfl
end
theorem copied_con (keep : Int) (l : List Kp) (hl : l.length ≤ 100) : Con Try.prog 10 [.agg [.v (.int .i64 keep), .ro false 3 (l.map eK)]] (fun rx rK rt => rx = .pl (.agg [.v (.int .i64 keep), .ro true 3 (l.map eK)]) ∧ rK = [] ∧ rt = 0) := by
  refine Z.con_ofF tabOk 9 Try.f10 _ Try.func10 (by kernel_rfl) rfl rfl rfl rfl ?_
  repeat' ((conv => whnf); first
    | ((with_reducible refine apdE_n ?_); (with_reducible refine apdN.mk ?_ ?_ ?_ ?_ ?_ ?_); (focus (simp; done)); (focus (exact one_map2 fun _ => rfl)); (focus ((try simp only [LN] at *) <;> omega)); (focus ((try simp only [LN] at *) <;> omega)); (focus ((try simp only [LN] at *) <;> omega))))
  all_goals (try (conv => whnf))
  all_goals first
    | ((first | (with_reducible apply Z.retF1) | (with_reducible apply Z.retF2) | (with_reducible apply Z.retF0)); (focus (exact rfl)); (repeat' (first | exact trivial | (with_reducible apply Z.frz_one) | (with_reducible apply Z.frz_agg) | (with_reducible apply Z.fq_int) | (with_reducible apply Z.fq_bool) | (exact Z.frz_nil) | (exact Z.frz_osl0 rfl rfl rfl) | (with_reducible apply Z.fq_nil) | (with_reducible apply Z.fq_ro) | ((with_reducible apply Z.fq_gsl); (focus (first | rfl | exact Z.isB_map _ | exact Z.gB_snoc.symm)); (focus (exact fun _ => rfl))) | ((with_reducible apply Z.fq_osl); (focus (exact rfl)); (focus (first | exact rfl | (simp only [List.length_map, Nat.zero_add]; done) | ((try simp only [LN] at *) <;> omega))); (focus (exact fun _ => rfl))) | ((with_reducible apply Z.fq_src); (focus (exact rfl)); (focus (first | exact rfl | (simp only [List.length_map, Nat.zero_add]; done) | ((try simp only [LN] at *) <;> omega))); (focus (exact fun _ => rfl))) | exact rfl | ((apply Z.fq_osl); (focus (exact rfl)); (focus (first | exact rfl | (simp only [List.length_map, Nat.zero_add]; done) | ((try simp only [LN] at *) <;> omega))); (focus (exact fun _ => rfl))) | ((apply Z.fq_src); (focus (exact rfl)); (focus (first | exact rfl | (simp only [List.length_map, Nat.zero_add]; done) | ((try simp only [LN] at *) <;> omega))); (focus (exact fun _ => rfl))) | (apply Z.fq_ro) | (apply Z.fq_int) | (apply Z.fq_bool) | apply And.intro)); (all_goals (try exact (fun _ => none))); all_goals (rfl))
    | (fail)

theorem eqn_con (a b : List Int) (hla : a.length ≤ 9223372036854775807)  : Con Try.prog 14 [.one (.ro false 1 (a.map eU)), .one (.ro false 1 (b.map eU))] (fun rx rK rt => rx = .val (.bool (decide (a = b))) ∧ rK = [] ∧ rt = 0) := by
  refine Z.con_ofF tabOk 26 Try.f14 _ Try.func14 (by kernel_rfl) rfl rfl rfl rfl ?_
  repeat' ((conv => whnf); first
    | (with_reducible refine spB_bne ?_ ?_ <;> intro _ <;> (try (exfalso; first | contradiction | omega | (rename_i hz; with_reducible exact absurd rfl hz)))))
  all_goals (try (conv => whnf))
  all_goals try ((first | (with_reducible apply Z.retF1) | (with_reducible apply Z.retF2) | (with_reducible apply Z.retF0)); (focus (exact rfl)); (repeat' (first | exact trivial | (with_reducible apply Z.frz_one) | (with_reducible apply Z.frz_agg) | (with_reducible apply Z.fq_int) | (with_reducible apply Z.fq_bool) | (exact Z.frz_nil) | (exact Z.frz_osl0 rfl rfl rfl) | (with_reducible apply Z.fq_nil) | (with_reducible apply Z.fq_ro) | ((with_reducible apply Z.fq_gsl); (focus (first | rfl | exact Z.isB_map _ | exact Z.gB_snoc.symm)); (focus (exact fun _ => rfl))) | ((with_reducible apply Z.fq_osl); (focus (exact rfl)); (focus (first | exact rfl | (simp only [List.length_map, Nat.zero_add]; done) | ((try simp only [LN] at *) <;> omega))); (focus (exact fun _ => rfl))) | ((with_reducible apply Z.fq_src); (focus (exact rfl)); (focus (first | exact rfl | (simp only [List.length_map, Nat.zero_add]; done) | ((try simp only [LN] at *) <;> omega))); (focus (exact fun _ => rfl))) | exact rfl | ((apply Z.fq_osl); (focus (exact rfl)); (focus (first | exact rfl | (simp only [List.length_map, Nat.zero_add]; done) | ((try simp only [LN] at *) <;> omega))); (focus (exact fun _ => rfl))) | ((apply Z.fq_src); (focus (exact rfl)); (focus (first | exact rfl | (simp only [List.length_map, Nat.zero_add]; done) | ((try simp only [LN] at *) <;> omega))); (focus (exact fun _ => rfl))) | (apply Z.fq_ro) | (apply Z.fq_int) | (apply Z.fq_bool) | apply And.intro)); (all_goals (try exact (fun _ => none))); all_goals (exact bool_f (ne_len (by simp only [LN] at *; omega))))
  refine Z.loopK tabOk (fun zq : Nat => [(13, .val (.int .i64 (zq : Int)))]) (fun zq : Nat => ([] : Z.Kr)) (fun zq => zq ≤ a.length ∧ a.length = b.length ∧ a.take zq = b.take zq) (fun zq => a.length - zq) 0 0 [(0, _), (1, _), (12, _)] ⟨rfl, rfl, rfl, trivial⟩ [] trivial ?_ ?_ rfl rfl ⟨Nat.zero_le _, by simp only [LN] at *; omega, rfl⟩ ?_
  · repeat' (first | exact trivial | apply And.intro | exact ⟨_, rfl, rfl⟩ | exact ⟨_, rfl, Z.Imp.refl _⟩ | exact ⟨_, rfl, Z.Imp.nilg _⟩ | exact ⟨_, rfl, Z.Imp.nilr _ _⟩)
  · repeat' (first | exact trivial | (intro b hb; cases hb; done) | exact (fun b hb => ⟨b, hb, Z.ImpO.refl b⟩) | (intro b hb; cases hb; refine ⟨_, rfl, ⟨rfl, rfl, rfl⟩, ?_⟩; (repeat' (first | exact trivial | apply And.intro | exact Z.Imp.refl _ | exact Z.Imp.nilg _ | exact Z.Imp.nilr _ _)); done) | apply And.intro)
  rintro i HINV
  dsimp only at HINV ⊢
  obtain ⟨HI, HL, HT⟩ := HINV
  repeat' ((conv => whnf); first
    | (with_reducible refine spB_dec ?_ ?_ <;> intro _ <;> (try (exfalso; first | contradiction | omega | (rename_i hz; with_reducible exact absurd rfl hz))))
    | (with_reducible refine spB_bne ?_ ?_ <;> intro _ <;> (try (exfalso; first | contradiction | omega | (rename_i hz; with_reducible exact absurd rfl hz))))
    | ((with_reducible apply ixN_litp); (focus (exact rfl)); (focus ((try simp only [LN] at *) <;> omega)))
    | with_reducible refine wr_i64 (by first | omega | (simp only [LN] at *; omega)) ?_
    | ((with_reducible refine rowN_map ?_ ?_); (focus ((try simp only [LN] at *) <;> omega)); intro x hx)
    | with_reducible first | refine Z.drawZ_rule tabOk mixOk ?_ | refine Z.apZ_mk (by kernel_rfl) ?_)
  all_goals (try (conv => whnf))
  all_goals first
    | ((refine Z.rndK (i + 1) (fun s => []) rfl rfl rfl rfl ?_ ?_ ?_ ?_); (focus (repeat' (first | exact trivial | exact rfl | (rw [List.map_append]; exact rfl) | apply And.intro))); (focus (repeat' (first | exact trivial | (intro b hb; cases hb; rfl) | (intro b hb; cases hb; subst hlb; rfl) | (intro b hb; cases hb; rw [List.map_append]; rfl) | (intro b hb; cases hb; done) | exact Z.blk_sub rfl rfl (ren_map fun _ => rfl) | exact Z.blk_sub rfl rfl (Z.ren_app (ren_map fun _ => rfl) (ren_map fun _ => rfl)) | exact Z.blk_sub rfl (by first | (rw [List.map_append]; rfl) | (rw [List.map_set]; rfl) | simp only [List.map_append, List.map_cons, List.map_nil, List.map_set]) (ren_map fun _ => rfl) | exact Z.gB_sub rfl rfl (ren_map fun _ => rfl) | exact Z.gB_sub' rfl (by first | rfl | (rw [List.map_append]; rfl) | simp only [List.map_append, List.map_cons, List.map_nil]) (ren_map fun _ => rfl) | apply And.intro))); (focus (refine ⟨by simp only [LN] at *; omega, HL, eq_step HT (by assumption) (by assumption) ?_⟩; (first | assumption | omega | simp_all))); (try simp only [LN] at *); (try dsimp only); omega)
    | ((first | (with_reducible apply Z.retF1) | (with_reducible apply Z.retF2) | (with_reducible apply Z.retF0)); (focus (exact rfl)); (repeat' (first | exact trivial | (with_reducible apply Z.frz_one) | (with_reducible apply Z.frz_agg) | (with_reducible apply Z.fq_int) | (with_reducible apply Z.fq_bool) | (exact Z.frz_nil) | (exact Z.frz_osl0 rfl rfl rfl) | (with_reducible apply Z.fq_nil) | (with_reducible apply Z.fq_ro) | ((with_reducible apply Z.fq_gsl); (focus (first | rfl | exact Z.isB_map _ | exact Z.gB_snoc.symm)); (focus (exact fun _ => rfl))) | ((with_reducible apply Z.fq_osl); (focus (exact rfl)); (focus (first | exact rfl | (simp only [List.length_map, Nat.zero_add]; done) | ((try simp only [LN] at *) <;> omega))); (focus (exact fun _ => rfl))) | ((with_reducible apply Z.fq_src); (focus (exact rfl)); (focus (first | exact rfl | (simp only [List.length_map, Nat.zero_add]; done) | ((try simp only [LN] at *) <;> omega))); (focus (exact fun _ => rfl))) | exact rfl | ((apply Z.fq_osl); (focus (exact rfl)); (focus (first | exact rfl | (simp only [List.length_map, Nat.zero_add]; done) | ((try simp only [LN] at *) <;> omega))); (focus (exact fun _ => rfl))) | ((apply Z.fq_src); (focus (exact rfl)); (focus (first | exact rfl | (simp only [List.length_map, Nat.zero_add]; done) | ((try simp only [LN] at *) <;> omega))); (focus (exact fun _ => rfl))) | (apply Z.fq_ro) | (apply Z.fq_int) | (apply Z.fq_bool) | apply And.intro)); (all_goals (try exact (fun _ => none))); all_goals (first | exact bool_t (eq_end HL HT (by simp only [LN] at *; omega)) | (refine bool_f (ne_at (by assumption) (by assumption) ?_); intro e; subst e; first | contradiction | (simp_all; done))))
    | (fail)

theorem rsame_con (k1 k2 : Int) (a b : List Kp) (hla : a.length ≤ 9223372036854775807) : Con Try.prog 13 [.agg [.v (.int .i64 k1), .ro false 3 (a.map eK)], .agg [.v (.int .i64 k2), .ro false 3 (b.map eK)]] (fun rx rK rt => rx = .val (.bool (decide (k1 = k2 ∧ a = b))) ∧ rK = [] ∧ rt = 0) := by
  refine Z.con_ofF tabOk 38 Try.f13 _ Try.func13 (by kernel_rfl) rfl rfl rfl rfl ?_
  repeat' ((conv => whnf); first
    | with_reducible first | refine spB_t ?_
    | with_reducible first | refine spB_yes (by decide) ?_ | refine spB_no (by decide) ?_ | refine spB_f ?_ | refine spB_not ?_ | refine spB_yes (by assumption) ?_ | refine spB_no (by assumption) ?_
    | (with_reducible refine spB_bne ?_ ?_ <;> intro _ <;> (try (exfalso; first | contradiction | omega | (rename_i hz; with_reducible exact absurd rfl hz)))))
  all_goals (try (conv => whnf))
  all_goals try ((first | (with_reducible apply Z.retF1) | (with_reducible apply Z.retF2) | (with_reducible apply Z.retF0)); (focus (exact rfl)); (repeat' (first | exact trivial | (with_reducible apply Z.frz_one) | (with_reducible apply Z.frz_agg) | (with_reducible apply Z.fq_int) | (with_reducible apply Z.fq_bool) | (exact Z.frz_nil) | (exact Z.frz_osl0 rfl rfl rfl) | (with_reducible apply Z.fq_nil) | (with_reducible apply Z.fq_ro) | ((with_reducible apply Z.fq_gsl); (focus (first | rfl | exact Z.isB_map _ | exact Z.gB_snoc.symm)); (focus (exact fun _ => rfl))) | ((with_reducible apply Z.fq_osl); (focus (exact rfl)); (focus (first | exact rfl | (simp only [List.length_map, Nat.zero_add]; done) | ((try simp only [LN] at *) <;> omega))); (focus (exact fun _ => rfl))) | ((with_reducible apply Z.fq_src); (focus (exact rfl)); (focus (first | exact rfl | (simp only [List.length_map, Nat.zero_add]; done) | ((try simp only [LN] at *) <;> omega))); (focus (exact fun _ => rfl))) | exact rfl | ((apply Z.fq_osl); (focus (exact rfl)); (focus (first | exact rfl | (simp only [List.length_map, Nat.zero_add]; done) | ((try simp only [LN] at *) <;> omega))); (focus (exact fun _ => rfl))) | ((apply Z.fq_src); (focus (exact rfl)); (focus (first | exact rfl | (simp only [List.length_map, Nat.zero_add]; done) | ((try simp only [LN] at *) <;> omega))); (focus (exact fun _ => rfl))) | (apply Z.fq_ro) | (apply Z.fq_int) | (apply Z.fq_bool) | apply And.intro)); (all_goals (try exact (fun _ => none))); all_goals (exact (decide_eq_false (by rintro ⟨h1, h2⟩; (try subst h2); first | contradiction | omega | (simp only [LN] at *; omega))).symm))
  refine Z.loopK tabOk (fun zq : Nat => [(5, .val (.int .i64 (zq : Int)))]) (fun zq : Nat => ([] : Z.Kr)) (fun zq => zq ≤ a.length ∧ a.length = b.length ∧ a.take zq = b.take zq) (fun zq => a.length - zq) 0 2 [(2, _), (3, _)] ⟨rfl, rfl, trivial⟩ [(0, some _), (1, some _)] ⟨rfl, rfl, trivial⟩ ?_ ?_ rfl rfl ⟨Nat.zero_le _, by simp only [LN] at *; omega, rfl⟩ ?_
  · repeat' (first | exact trivial | apply And.intro | exact ⟨_, rfl, rfl⟩ | exact ⟨_, rfl, Z.Imp.refl _⟩ | exact ⟨_, rfl, Z.Imp.nilg _⟩ | exact ⟨_, rfl, Z.Imp.nilr _ _⟩)
  · repeat' (first | exact trivial | (intro b hb; cases hb; done) | exact (fun b hb => ⟨b, hb, Z.ImpO.refl b⟩) | (intro b hb; cases hb; refine ⟨_, rfl, ⟨rfl, rfl, rfl⟩, ?_⟩; (repeat' (first | exact trivial | apply And.intro | exact Z.Imp.refl _ | exact Z.Imp.nilg _ | exact Z.Imp.nilr _ _)); done) | apply And.intro)
  rintro i HINV
  dsimp only at HINV ⊢
  obtain ⟨HI, HL2, HT⟩ := HINV
  repeat' ((conv => whnf); first
    | with_reducible first | refine spB_yes (by decide) ?_ | refine spB_no (by decide) ?_ | refine spB_f ?_ | refine spB_not ?_ | refine spB_yes (by assumption) ?_ | refine spB_no (by assumption) ?_
    | (with_reducible refine spB_dec ?_ ?_ <;> intro _ <;> (try (exfalso; first | contradiction | omega | (rename_i hz; with_reducible exact absurd rfl hz))))
    | (with_reducible refine spB_mk ?_ ?_ <;> intro _ <;> (try (exfalso; first | contradiction | omega | (rename_i hz; with_reducible exact absurd rfl hz))))
    | ((with_reducible apply ixN_litp); (focus (exact rfl)); (focus ((try simp only [LN] at *) <;> omega)))
    | with_reducible refine wr_i64 (by first | omega | (simp only [LN] at *; omega)) ?_
    | ((with_reducible refine rowN_map ?_ ?_); (focus ((try simp only [LN] at *) <;> omega)); intro x hx)
    | with_reducible first | refine Z.drawZ_rule tabOk mixOk ?_ | refine Z.apZ_mk (by kernel_rfl) ?_)
  all_goals (try (conv => whnf))
  all_goals first
    | ((refine Z.rndK (i + 1) (fun s => [0, 1]) rfl rfl rfl rfl ?_ ?_ ?_ ?_); (focus (repeat' (first | exact trivial | exact rfl | (rw [List.map_append]; exact rfl) | apply And.intro))); (focus (repeat' (first | exact trivial | (intro b hb; cases hb; rfl) | (intro b hb; cases hb; subst hlb; rfl) | (intro b hb; cases hb; rw [List.map_append]; rfl) | (intro b hb; cases hb; done) | exact Z.blk_sub rfl rfl (ren_map fun _ => rfl) | exact Z.blk_sub rfl rfl (Z.ren_app (ren_map fun _ => rfl) (ren_map fun _ => rfl)) | exact Z.blk_sub rfl (by first | (rw [List.map_append]; rfl) | (rw [List.map_set]; rfl) | simp only [List.map_append, List.map_cons, List.map_nil, List.map_set]) (ren_map fun _ => rfl) | exact Z.gB_sub rfl rfl (ren_map fun _ => rfl) | exact Z.gB_sub' rfl (by first | rfl | (rw [List.map_append]; rfl) | simp only [List.map_append, List.map_cons, List.map_nil]) (ren_map fun _ => rfl) | apply And.intro))); (focus (refine ⟨by simp only [LN] at *; omega, HL2, eq_step HT (by assumption) (by assumption) ?_⟩; exact kp_ext (by assumption))); (try simp only [LN] at *); (try dsimp only); omega)
    | ((first | (with_reducible apply Z.retF1) | (with_reducible apply Z.retF2) | (with_reducible apply Z.retF0)); (focus (exact rfl)); (repeat' (first | exact trivial | (with_reducible apply Z.frz_one) | (with_reducible apply Z.frz_agg) | (with_reducible apply Z.fq_int) | (with_reducible apply Z.fq_bool) | (exact Z.frz_nil) | (exact Z.frz_osl0 rfl rfl rfl) | (with_reducible apply Z.fq_nil) | (with_reducible apply Z.fq_ro) | ((with_reducible apply Z.fq_gsl); (focus (first | rfl | exact Z.isB_map _ | exact Z.gB_snoc.symm)); (focus (exact fun _ => rfl))) | ((with_reducible apply Z.fq_osl); (focus (exact rfl)); (focus (first | exact rfl | (simp only [List.length_map, Nat.zero_add]; done) | ((try simp only [LN] at *) <;> omega))); (focus (exact fun _ => rfl))) | ((with_reducible apply Z.fq_src); (focus (exact rfl)); (focus (first | exact rfl | (simp only [List.length_map, Nat.zero_add]; done) | ((try simp only [LN] at *) <;> omega))); (focus (exact fun _ => rfl))) | exact rfl | ((apply Z.fq_osl); (focus (exact rfl)); (focus (first | exact rfl | (simp only [List.length_map, Nat.zero_add]; done) | ((try simp only [LN] at *) <;> omega))); (focus (exact fun _ => rfl))) | ((apply Z.fq_src); (focus (exact rfl)); (focus (first | exact rfl | (simp only [List.length_map, Nat.zero_add]; done) | ((try simp only [LN] at *) <;> omega))); (focus (exact fun _ => rfl))) | (apply Z.fq_ro) | (apply Z.fq_int) | (apply Z.fq_bool) | apply And.intro)); (all_goals (try exact (fun _ => none))); all_goals (first | (refine (decide_eq_true ⟨by first | assumption | (simp_all; done), eq_end HL2 HT (by simp only [LN] at *; omega)⟩).symm) | (refine (decide_eq_false ?_).symm; rintro ⟨h1, h2⟩; revert h2; refine ne_at (by assumption) (by assumption) ?_; intro e; subst e; simp_all; done)))
    | (fail)

theorem keeps_con (keep : Int) (l : List Kp) (p : Nat) (x : Kp) (hl : l.length ≤ 9223372036854775807) (hx : l[p]? = some x) : Con Try.prog 43 [.agg [.v (.int .i64 keep), .ro false 3 (l.map eK)], .one (.v (.int .i64 (p : Int)))] (fun rx rK rt => rx = .val (.bool (!(plK x && decide (keep ≤ (npl (l.drop (p + 1)) : Int))))) ∧ rK = [] ∧ rt = 0) := by
  refine Z.con_ofF tabOk 52 Try.f43 _ Try.func43 (by kernel_rfl) rfl rfl rfl rfl ?_
  have hpl9 := (List.getElem?_eq_some_iff.1 hx).1
  repeat' ((conv => whnf); first
    | with_reducible first | refine spB_t ?_
    | with_reducible first | refine spB_yes (by decide) ?_ | refine spB_no (by decide) ?_ | refine spB_f ?_ | refine spB_not ?_ | refine spB_yes (by assumption) ?_ | refine spB_no (by assumption) ?_
    | (with_reducible refine spB_mk ?_ ?_ <;> intro _ <;> (try (exfalso; first | contradiction | omega | (simp only [LN] at *; omega))))
    | with_reducible first | refine Z.rowN_known hx ?_
    | ((with_reducible apply ixN_litp); (focus (exact rfl)); (focus ((try simp only [LN] at *) <;> omega)))
    | with_reducible refine wr_i64 (by first | omega | (simp only [LN] at *; omega)) ?_)
  all_goals (try (conv => whnf))
  all_goals try ((first | (with_reducible apply Z.retF1) | (with_reducible apply Z.retF2) | (with_reducible apply Z.retF0)); (focus (exact rfl)); (repeat' (first | exact trivial | (with_reducible apply Z.frz_one) | (with_reducible apply Z.frz_agg) | (with_reducible apply Z.fq_int) | (with_reducible apply Z.fq_bool) | (exact Z.frz_nil) | (exact Z.frz_osl0 rfl rfl rfl) | (with_reducible apply Z.fq_nil) | (with_reducible apply Z.fq_ro) | ((with_reducible apply Z.fq_gsl); (focus (first | rfl | exact Z.isB_map _ | exact Z.gB_snoc.symm)); (focus (exact fun _ => rfl))) | ((with_reducible apply Z.fq_osl); (focus (exact rfl)); (focus (first | exact rfl | (simp only [List.length_map, Nat.zero_add]; done) | ((try simp only [LN] at *) <;> omega))); (focus (exact fun _ => rfl))) | ((with_reducible apply Z.fq_src); (focus (exact rfl)); (focus (first | exact rfl | (simp only [List.length_map, Nat.zero_add]; done) | ((try simp only [LN] at *) <;> omega))); (focus (exact fun _ => rfl))) | exact rfl | ((apply Z.fq_osl); (focus (exact rfl)); (focus (first | exact rfl | (simp only [List.length_map, Nat.zero_add]; done) | ((try simp only [LN] at *) <;> omega))); (focus (exact fun _ => rfl))) | ((apply Z.fq_src); (focus (exact rfl)); (focus (first | exact rfl | (simp only [List.length_map, Nat.zero_add]; done) | ((try simp only [LN] at *) <;> omega))); (focus (exact fun _ => rfl))) | (apply Z.fq_ro) | (apply Z.fq_int) | (apply Z.fq_bool) | apply And.intro)); (all_goals (try exact (fun _ => none))); all_goals (unfold plK; simp_all))
  refine Z.loopK tabOk (fun zq : Nat × Nat => [(6, .val (.int .i64 (zq.1 : Int))), (5, .val (.int .i64 (zq.2 : Int)))]) (fun zq : Nat × Nat => ([] : Z.Kr)) (fun zq => p + 1 ≤ zq.1 ∧ zq.1 ≤ l.length ∧ npl (l.drop (p + 1)) = zq.2 + npl (l.drop zq.1)) (fun zq => l.length - zq.1) (p + 1, 0) 1 [(2, _)] ⟨rfl, trivial⟩ [(0, some _)] ⟨rfl, trivial⟩ ?_ ?_ rfl rfl ⟨Nat.le_refl _, (List.getElem?_eq_some_iff.1 hx).1, (Nat.zero_add _).symm⟩ ?_
  · repeat' (first | exact trivial | apply And.intro | exact ⟨_, rfl, rfl⟩ | exact ⟨_, rfl, Z.Imp.refl _⟩ | exact ⟨_, rfl, Z.Imp.nilg _⟩ | exact ⟨_, rfl, Z.Imp.nilr _ _⟩)
  · repeat' (first | exact trivial | (intro b hb; cases hb; done) | exact (fun b hb => ⟨b, hb, Z.ImpO.refl b⟩) | (intro b hb; cases hb; refine ⟨_, rfl, ⟨rfl, rfl, rfl⟩, ?_⟩; (repeat' (first | exact trivial | apply And.intro | exact Z.Imp.refl _ | exact Z.Imp.nilg _ | exact Z.Imp.nilr _ _)); done) | apply And.intro)
  rintro ⟨i, c⟩ HINV
  dsimp only at HINV ⊢
  obtain ⟨H1, H2, H3⟩ := HINV
  have hcl : c < l.length := by
    have h8 : npl (l.drop (p + 1)) ≤ (l.drop (p + 1)).length := List.countP_le_length
    rw [List.length_drop] at h8; omega
  by_cases hil : i < l.length
  rotate_left
  · have hz9 : npl (l.drop i) = 0 := by rw [drop_end hil]; rfl
    have hpx : plK x = true := by unfold plK; simp_all
    repeat' ((conv => whnf); first
      | (with_reducible refine spB_dec ?_ ?_ <;> intro _ <;> (try (exfalso; first | contradiction | omega | (simp only [LN] at *; omega)))))
    all_goals (try (conv => whnf))
    all_goals first
      | ((first | (with_reducible apply Z.retF1) | (with_reducible apply Z.retF2) | (with_reducible apply Z.retF0)); (focus (exact rfl)); (repeat' (first | exact trivial | (with_reducible apply Z.frz_one) | (with_reducible apply Z.frz_agg) | (with_reducible apply Z.fq_int) | (with_reducible apply Z.fq_bool) | (exact Z.frz_nil) | (exact Z.frz_osl0 rfl rfl rfl) | (with_reducible apply Z.fq_nil) | (with_reducible apply Z.fq_ro) | ((with_reducible apply Z.fq_gsl); (focus (first | rfl | exact Z.isB_map _ | exact Z.gB_snoc.symm)); (focus (exact fun _ => rfl))) | ((with_reducible apply Z.fq_osl); (focus (exact rfl)); (focus (first | exact rfl | (simp only [List.length_map, Nat.zero_add]; done) | ((try simp only [LN] at *) <;> omega))); (focus (exact fun _ => rfl))) | ((with_reducible apply Z.fq_src); (focus (exact rfl)); (focus (first | exact rfl | (simp only [List.length_map, Nat.zero_add]; done) | ((try simp only [LN] at *) <;> omega))); (focus (exact fun _ => rfl))) | exact rfl | ((apply Z.fq_osl); (focus (exact rfl)); (focus (first | exact rfl | (simp only [List.length_map, Nat.zero_add]; done) | ((try simp only [LN] at *) <;> omega))); (focus (exact fun _ => rfl))) | ((apply Z.fq_src); (focus (exact rfl)); (focus (first | exact rfl | (simp only [List.length_map, Nat.zero_add]; done) | ((try simp only [LN] at *) <;> omega))); (focus (exact fun _ => rfl))) | (apply Z.fq_ro) | (apply Z.fq_int) | (apply Z.fq_bool) | apply And.intro)); (all_goals (try exact (fun _ => none))); all_goals (rw [hpx, Bool.true_and, ← decide_not]; exact decide_eq_decide.2 (by omega)))
      | (exfalso; (try simp only [LN] at *) <;> omega)
      | (fail)
  obtain ⟨z, hz⟩ := getElem?_some' (xs := l) (i := i) hil
  have hnz := npl_at hz
  repeat' ((conv => whnf); first
    | with_reducible first | refine spB_t ?_
    | with_reducible first | refine spB_yes (by decide) ?_ | refine spB_no (by decide) ?_ | refine spB_f ?_ | refine spB_not ?_ | refine spB_yes (by assumption) ?_ | refine spB_no (by assumption) ?_
    | (with_reducible refine spB_dec ?_ ?_ <;> intro _ <;> (try (exfalso; first | contradiction | omega | (simp only [LN] at *; omega))))
    | (with_reducible refine spB_mk ?_ ?_ <;> intro _ <;> (try (exfalso; first | contradiction | omega | (simp only [LN] at *; omega))))
    | with_reducible first | refine Z.rowN_known hz ?_
    | ((with_reducible apply ixN_litp); (focus (exact rfl)); (focus ((try simp only [LN] at *) <;> omega)))
    | with_reducible refine wr_i64 (by first | omega | (simp only [LN] at *; omega)) ?_)
  all_goals (try (conv => whnf))
  all_goals first
    | ((refine Z.rndK ((i + 1, c + 1)) (fun s => [0]) rfl rfl rfl rfl ?_ ?_ ?_ ?_); (focus (repeat' (first | exact trivial | exact rfl | (rw [List.map_append]; exact rfl) | apply And.intro))); (focus (repeat' (first | exact trivial | (intro b hb; cases hb; rfl) | (intro b hb; cases hb; subst hlb; rfl) | (intro b hb; cases hb; rw [List.map_append]; rfl) | (intro b hb; cases hb; done) | exact Z.blk_sub rfl rfl (ren_map fun _ => rfl) | exact Z.blk_sub rfl rfl (Z.ren_app (ren_map fun _ => rfl) (ren_map fun _ => rfl)) | exact Z.blk_sub rfl (by first | (rw [List.map_append]; rfl) | (rw [List.map_set]; rfl) | simp only [List.map_append, List.map_cons, List.map_nil, List.map_set]) (ren_map fun _ => rfl) | exact Z.gB_sub rfl rfl (ren_map fun _ => rfl) | exact Z.gB_sub' rfl (by first | rfl | (rw [List.map_append]; rfl) | simp only [List.map_append, List.map_cons, List.map_nil]) (ren_map fun _ => rfl) | apply And.intro))); (focus (refine ⟨by dsimp only; omega, by dsimp only; omega, ?_⟩; have hpz : plK z = true := (by unfold plK; simp_all); rw [hpz] at hnz; simp only [cond_true] at hnz; (dsimp only; omega))); (dsimp only; omega))
    | ((refine Z.rndK ((i + 1, c)) (fun s => [0]) rfl rfl rfl rfl ?_ ?_ ?_ ?_); (focus (repeat' (first | exact trivial | exact rfl | (rw [List.map_append]; exact rfl) | apply And.intro))); (focus (repeat' (first | exact trivial | (intro b hb; cases hb; rfl) | (intro b hb; cases hb; subst hlb; rfl) | (intro b hb; cases hb; rw [List.map_append]; rfl) | (intro b hb; cases hb; done) | exact Z.blk_sub rfl rfl (ren_map fun _ => rfl) | exact Z.blk_sub rfl rfl (Z.ren_app (ren_map fun _ => rfl) (ren_map fun _ => rfl)) | exact Z.blk_sub rfl (by first | (rw [List.map_append]; rfl) | (rw [List.map_set]; rfl) | simp only [List.map_append, List.map_cons, List.map_nil, List.map_set]) (ren_map fun _ => rfl) | exact Z.gB_sub rfl rfl (ren_map fun _ => rfl) | exact Z.gB_sub' rfl (by first | rfl | (rw [List.map_append]; rfl) | simp only [List.map_append, List.map_cons, List.map_nil]) (ren_map fun _ => rfl) | apply And.intro))); (focus (refine ⟨by dsimp only; omega, by dsimp only; omega, ?_⟩; have hpz : plK z = false := (by unfold plK; simp_all); rw [hpz] at hnz; simp only [cond_false] at hnz; (dsimp only; omega))); (dsimp only; omega))
    | (exfalso; (try simp only [LN] at *) <;> omega)
    | (fail)

end Go.Proofs.Ytnlcmncfbiognaa
