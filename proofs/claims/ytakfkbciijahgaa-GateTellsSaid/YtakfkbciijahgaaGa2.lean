import Derived.Test.YtakfkbciijahgaaGa1
namespace Go.Proofs.Ytakfkbciijahgaa
open Go Go.RowKit Wx
set_option linter.unusedVariables false
set_option linter.unusedSimpArgs false
set_option maxHeartbeats 4000000
def okBi : Int → List El → Bool
  | _, [] => true
  | a, e :: r => if e.kd = 2 then decide (a < e.num) && okBi e.num r else okBi a r
def okBf : Int → List El → Int
  | a, [] => a
  | a, e :: r => if e.kd = 2 then okBf e.num r else okBf a r
theorem okBf_le : ∀ {l : List El} {a : Int}, okBi a l = true → a ≤ okBf a l
  | [], a, _ => Int.le_refl _
  | e :: r, a, h => by
    unfold okBi at h; unfold okBf
    split at h
    · rename_i hk; rw [if_pos hk]
      simp only [Bool.and_eq_true, decide_eq_true_eq] at h
      have := okBf_le h.2; omega
    · rename_i hk; rw [if_neg hk]; exact okBf_le h
theorem okB_eq {last : Int} : ∀ {l : List El} {a : Int}, a ≤ last → okBs last a l = (okBi a l && decide (okBf a l ≤ last))
  | [], a, h => by simp [okBs, okBi, okBf, h]
  | e :: r, a, h => by
    unfold okBs okBi okBf
    split
    · by_cases h1 : e.num ≤ last
      · rw [okB_eq h1]
        by_cases h2 : a < e.num
        · rw [decide_eq_true (p := a < e.num ∧ _) ⟨h2, h1⟩, decide_eq_true h2, Bool.true_and, Bool.true_and]
        · rw [decide_eq_false (p := a < e.num ∧ _) (fun h3 => h2 h3.1), decide_eq_false h2]; simp
      · rw [decide_eq_false (p := a < e.num ∧ _) (fun h3 => h1 h3.2)]
        cases hi : okBi e.num r
        · simp
        · have := okBf_le hi
          rw [decide_eq_false (p := okBf e.num r ≤ last) (by omega)]; simp
    · exact okB_eq h
theorem okBi_at {l : List El} {i : Nat} {x : El} {a : Int} (h : l[i]? = some x) : okBi a (l.drop i) = if x.kd = 2 then decide (a < x.num) && okBi x.num (l.drop (i + 1)) else okBi a (l.drop (i + 1)) := by rw [drop_cons h, okBi]
theorem okBf_at {l : List El} {i : Nat} {x : El} {a : Int} (h : l[i]? = some x) : okBf a (l.drop i) = if x.kd = 2 then okBf x.num (l.drop (i + 1)) else okBf a (l.drop (i + 1)) := by rw [drop_cons h, okBf]
theorem any_at {α : Type} {p : α → Bool} {l : List α} {i : Nat} {x : α} (h : l[i]? = some x) : (l.drop i).any p = (p x || (l.drop (i + 1)).any p) := by rw [drop_cons h]; rfl
theorem all_at {α : Type} {p : α → Bool} {l : List α} {i : Nat} {x : α} (h : l[i]? = some x) : (l.drop i).all p = (p x && (l.drop (i + 1)).all p) := by rw [drop_cons h]; rfl
theorem rightQ_con (q : Qu) (hl : q.es.length ≤ 9223372036854775807) (hu : ∀ e ∈ q.es, 0 ≤ e.num) (hql : 0 ≤ q.last) : Con Try.prog 34 [.agg [.ro false 5 (q.es.map eE), .v (.int .u64 q.last), .v (.bool q.held), .v (.bool q.ended)]] (fun rx rK rt => rx = .val (.bool (okQ q)) ∧ rK = [] ∧ rt = 0) := by
  refine Z.con_ofF tabOk 68 Try.f34 _ Try.func34 (by kernel_rfl) rfl rfl rfl rfl ?_
  repeat' ((conv => whnf); first
    | with_reducible first | refine spB_t ?_
    | ((with_reducible apply spB_cong); (focus (simp only [beq_self_eq_true, bne_self_eq_false, Bool.true_bne, Bool.false_bne, Bool.bne_true, Bool.bne_false, Bool.true_beq, Bool.false_beq, Bool.not_true, Bool.not_false, Bool.not_not, Int.reduceBEq, Int.reduceBNe, Int.reduceLE, Int.reduceLT, Int.reduceEq, decide_true, decide_false]; rfl)))
    | with_reducible first | refine spB_yes (by decide) ?_ | refine spB_no (by decide) ?_ | refine spB_f ?_ | refine spB_not ?_ | refine spB_yes (by assumption) ?_ | refine spB_no (by assumption) ?_
    | (with_reducible refine spB_dec ?_ ?_ <;> intro _ <;> (try (exfalso; first | contradiction | omega | (rename_i hz; with_reducible exact absurd rfl hz))))
    | (with_reducible refine spB_beq ?_ ?_ <;> intro _ <;> (try (exfalso; first | contradiction | omega | (rename_i hz; with_reducible exact absurd rfl hz))))
    | (with_reducible refine spB_bne ?_ ?_ <;> intro _ <;> (try (exfalso; first | contradiction | omega | (rename_i hz; with_reducible exact absurd rfl hz))))
    | (with_reducible refine spB_mk ?_ ?_ <;> intro _ <;> (try (exfalso; first | contradiction | omega | (rename_i hz; with_reducible exact absurd rfl hz))))
    | ((with_reducible apply rowN_mk); (focus rfl))
    | ((with_reducible apply ixN_lit); (focus (exact rfl)); (focus (exact rfl)))
    | ((with_reducible apply ixN_litp); (focus (exact rfl)); (focus ((try simp only [LN] at *) <;> omega)))
    | ((with_reducible refine eqN_mk2 ?_ ?_); (focus rfl))
    | with_reducible refine wr_i64 (by first | omega | (simp only [LN] at *; omega)) ?_
    | with_reducible refine wr_u64 (by omega) ?_
    | with_reducible refine wr_u8 (by omega) ?_
    | with_reducible refine wr_u32 (by omega) ?_
    | with_reducible first | refine wr_mk _ rfl ?_
    | ((with_reducible refine ixN_nat ?_ ?_); (focus ((try simp only [LN] at *) <;> omega)))
    | ((with_reducible refine rowN_map ?_ ?_); (focus ((try simp only [LN] at *) <;> omega)); intro x hx)
    | with_reducible refine eqN_dec (by omega) ?_
    | with_reducible first | refine apN_mk (by kernel_rfl) ?_
    | ((first | (with_reducible apply Z.conZ_mz ?_ (rightE_con _ ?_) ?_) | (with_reducible apply Z.callZ_mk ?_ (rightE_con _ ?_) ?_)); (rotate_left 1); (focus ((repeat' (first | exact trivial | exact rfl | exact Z.low_nil | exact Z.low_nil2 | exact low_osl (fun _ => rfl) | (refine Z.low_osln ?_ (fun _ => rfl); (simp only [List.length_map]; done)) | exact low_oslr (fun _ => rfl) | exact Z.low_gslm (by first | rfl | exact Z.kb_some rfl) (fun _ => rfl) | exact .inl rfl | exact .inr ⟨_, rfl⟩ | apply And.intro)); done)); (iterate 1 (focus (first | assumption | omega | ((try simp only [LN] at *); omega)))))
    | ((with_reducible refine eqN_mk2 ?_ ?_); (focus (exact Z.kb_some rfl)))
    | ((with_reducible apply ex_and); exact rfl))
  all_goals (try (conv => whnf))
  all_goals try ((first | (with_reducible apply Z.retF1) | (with_reducible apply Z.retF2) | (with_reducible apply Z.retF0)); (focus (exact rfl)); (repeat' (first | exact trivial | (with_reducible apply Z.frz_one) | (with_reducible apply Z.frz_agg) | (with_reducible apply Z.fq_int) | (with_reducible apply Z.fq_bool) | (exact Z.frz_nil) | (exact Z.frz_osl0 rfl rfl rfl) | (with_reducible apply Z.fq_nil) | (with_reducible apply Z.fq_ro) | ((with_reducible apply Z.fq_gsl); (focus (first | rfl | exact Z.isB_map _ | exact Z.gB_snoc.symm)); (focus (exact fun _ => rfl))) | ((with_reducible apply Z.fq_osl); (focus (exact rfl)); (focus (first | exact rfl | (simp only [List.length_map, Nat.zero_add]; done) | ((try simp only [LN] at *) <;> omega))); (focus (exact fun _ => rfl))) | ((with_reducible apply Z.fq_src); (focus (exact rfl)); (focus (first | exact rfl | (simp only [List.length_map, Nat.zero_add]; done) | ((try simp only [LN] at *) <;> omega))); (focus (exact fun _ => rfl))) | exact rfl | ((apply Z.fq_osl); (focus (exact rfl)); (focus (first | exact rfl | (simp only [List.length_map, Nat.zero_add]; done) | ((try simp only [LN] at *) <;> omega))); (focus (exact fun _ => rfl))) | ((apply Z.fq_src); (focus (exact rfl)); (focus (first | exact rfl | (simp only [List.length_map, Nat.zero_add]; done) | ((try simp only [LN] at *) <;> omega))); (focus (exact fun _ => rfl))) | (apply Z.fq_ro) | (apply Z.fq_int) | (apply Z.fq_bool) | apply And.intro)); (all_goals (try exact (fun _ => none))); all_goals (unfold okQ; rw [decide_eq_false (p := q.es.length ≤ 4 ∧ _) (by (try simp only [LN] at *); rintro ⟨h1, h2, h3⟩; first | omega | (have h4 := h3 (by assumption); first | omega | (simp_all; done)))]; rfl))
  all_goals (
    have hpre : okQ q = (okEs q.es && (okBi 0 q.es && decide (okBf 0 q.es ≤ q.last))) := by
      unfold okQ; rw [decide_eq_true (by (try simp only [LN] at *); refine ⟨by omega, by omega, fun h => ?_⟩; first | (simp_all; done) | (exact ⟨by simp_all, by omega⟩) | (exfalso; simp_all; done)), Bool.true_and, okB_eq hql]
    refine Z.loopK tabOk (fun zq : Nat × Int => [(4, .val (.int .i64 (zq.1 : Int))), (3, .val (.int .u64 zq.2))]) (fun zq : Nat × Int => ([] : Z.Kr)) (fun zq => zq.1 ≤ q.es.length ∧ okEs q.es = okEs (q.es.drop zq.1) ∧ okBi 0 q.es = okBi zq.2 (q.es.drop zq.1) ∧ okBf 0 q.es = okBf zq.2 (q.es.drop zq.1)) (fun zq => q.es.length - zq.1) (0, 0) 1 [(1, _)] ⟨rfl, trivial⟩ [(0, some _)] ⟨rfl, trivial⟩ ?_ ?_ rfl rfl ⟨Nat.zero_le _, rfl, rfl, rfl⟩ ?_
    · repeat' (first | exact trivial | apply And.intro | exact ⟨_, rfl, rfl⟩ | exact ⟨_, rfl, Z.Imp.refl _⟩ | exact ⟨_, rfl, Z.Imp.nilg _⟩ | exact ⟨_, rfl, Z.Imp.nilr _ _⟩)
    · repeat' (first | exact trivial | (intro b hb; cases hb; done) | exact (fun b hb => ⟨b, hb, Z.ImpO.refl b⟩) | (intro b hb; cases hb; refine ⟨_, rfl, ⟨rfl, rfl, rfl⟩, ?_⟩; (repeat' (first | exact trivial | apply And.intro | exact Z.Imp.refl _ | exact Z.Imp.nilg _ | exact Z.Imp.nilr _ _)); done) | apply And.intro)
    rintro ⟨i, a⟩ HINV
    dsimp only at HINV ⊢
    obtain ⟨HI, HO, HB, HF⟩ := HINV
    repeat' ((conv => whnf); first
      | with_reducible first | refine spB_t ?_
      | ((with_reducible apply spB_cong); (focus (simp only [beq_self_eq_true, bne_self_eq_false, Bool.true_bne, Bool.false_bne, Bool.bne_true, Bool.bne_false, Bool.true_beq, Bool.false_beq, Bool.not_true, Bool.not_false, Bool.not_not, Int.reduceBEq, Int.reduceBNe, Int.reduceLE, Int.reduceLT, Int.reduceEq, decide_true, decide_false]; rfl)))
      | with_reducible first | refine spB_yes (by decide) ?_ | refine spB_no (by decide) ?_ | refine spB_f ?_ | refine spB_not ?_ | refine spB_yes (by assumption) ?_ | refine spB_no (by assumption) ?_
      | (with_reducible refine spB_dec ?_ ?_ <;> intro _ <;> (try (exfalso; first | contradiction | omega | (rename_i hz; with_reducible exact absurd rfl hz))))
      | (with_reducible refine spB_beq ?_ ?_ <;> intro _ <;> (try (exfalso; first | contradiction | omega | (rename_i hz; with_reducible exact absurd rfl hz))))
      | (with_reducible refine spB_bne ?_ ?_ <;> intro _ <;> (try (exfalso; first | contradiction | omega | (rename_i hz; with_reducible exact absurd rfl hz))))
      | (with_reducible refine spB_mk ?_ ?_ <;> intro _ <;> (try (exfalso; first | contradiction | omega | (rename_i hz; with_reducible exact absurd rfl hz))))
      | ((with_reducible apply rowN_mk); (focus rfl))
      | ((with_reducible apply ixN_lit); (focus (exact rfl)); (focus (exact rfl)))
      | ((with_reducible apply ixN_litp); (focus (exact rfl)); (focus ((try simp only [LN] at *) <;> omega)))
      | ((with_reducible refine eqN_mk2 ?_ ?_); (focus rfl))
      | with_reducible refine wr_i64 (by first | omega | (simp only [LN] at *; omega)) ?_
      | with_reducible refine wr_u64 (by omega) ?_
      | with_reducible refine wr_u8 (by omega) ?_
      | with_reducible refine wr_u32 (by omega) ?_
      | with_reducible first | refine wr_mk _ rfl ?_
      | ((with_reducible refine ixN_nat ?_ ?_); (focus ((try simp only [LN] at *) <;> omega)))
      | ((with_reducible refine rowN_map ?_ ?_); (focus ((try simp only [LN] at *) <;> omega)); intro x hx; have hux := hu _ (List.mem_of_getElem? hx))
      | with_reducible refine eqN_dec (by omega) ?_
      | with_reducible first | refine apN_mk (by kernel_rfl) ?_
      | ((first | (with_reducible apply Z.conZ_mz ?_ (rightE_con _ ?_) ?_) | (with_reducible apply Z.callZ_mk ?_ (rightE_con _ ?_) ?_)); (rotate_left 1); (focus ((repeat' (first | exact trivial | exact rfl | exact Z.low_nil | exact Z.low_nil2 | exact low_osl (fun _ => rfl) | (refine Z.low_osln ?_ (fun _ => rfl); (simp only [List.length_map]; done)) | exact low_oslr (fun _ => rfl) | exact Z.low_gslm (by first | rfl | exact Z.kb_some rfl) (fun _ => rfl) | exact .inl rfl | exact .inr ⟨_, rfl⟩ | apply And.intro)); done)); (iterate 1 (focus (first | assumption | omega | ((try simp only [LN] at *); omega)))))
      | ((with_reducible refine eqN_mk2 ?_ ?_); (focus (exact Z.kb_some rfl)))
      | ((with_reducible apply ex_and); exact rfl))
    all_goals (try (conv => whnf))
    all_goals first
      | ((refine Z.rndK ((i + 1, x.num)) (fun s => [0]) rfl rfl rfl rfl ?_ ?_ ?_ ?_); (focus (repeat' (first | exact trivial | exact rfl | (rw [List.map_append]; exact rfl) | apply And.intro))); (focus (repeat' (first | exact trivial | (intro b hb; cases hb; rfl) | (intro b hb; cases hb; subst hlb; rfl) | (intro b hb; cases hb; rw [List.map_append]; rfl) | (intro b hb; cases hb; done) | exact Z.blk_sub rfl rfl (ren_map fun _ => rfl) | exact Z.blk_sub rfl rfl (Z.ren_app (ren_map fun _ => rfl) (ren_map fun _ => rfl)) | exact Z.blk_sub rfl (by first | (rw [List.map_append]; rfl) | (rw [List.map_set]; rfl) | simp only [List.map_append, List.map_cons, List.map_nil, List.map_set]) (ren_map fun _ => rfl) | exact Z.gB_sub rfl rfl (ren_map fun _ => rfl) | exact Z.gB_sub' rfl (by first | rfl | (rw [List.map_append]; rfl) | simp only [List.map_append, List.map_cons, List.map_nil]) (ren_map fun _ => rfl) | apply And.intro))); (focus (refine ⟨by (try simp only [LN] at *) <;> omega, ?_, ?_, ?_⟩; (focus ((try dsimp only); rw [HO, okEs_at hx]; cases ho : okE x; (focus (exfalso; simp_all; done)); rw [decide_eq_true (fun h9 : x.kd = 3 => by ((try simp only [LN] at *) <;> omega)), Bool.true_and, Bool.true_and])); (focus ((try dsimp only); rw [HB, okBi_at hx, if_pos (by assumption), decide_eq_true (by omega), Bool.true_and])); ((try dsimp only); rw [HF, okBf_at hx, if_pos (by assumption)]))); (try simp only [LN] at *); (try dsimp only); omega)
      | ((refine Z.rndK ((i + 1, a)) (fun s => [0]) rfl rfl rfl rfl ?_ ?_ ?_ ?_); (focus (repeat' (first | exact trivial | exact rfl | (rw [List.map_append]; exact rfl) | apply And.intro))); (focus (repeat' (first | exact trivial | (intro b hb; cases hb; rfl) | (intro b hb; cases hb; subst hlb; rfl) | (intro b hb; cases hb; rw [List.map_append]; rfl) | (intro b hb; cases hb; done) | exact Z.blk_sub rfl rfl (ren_map fun _ => rfl) | exact Z.blk_sub rfl rfl (Z.ren_app (ren_map fun _ => rfl) (ren_map fun _ => rfl)) | exact Z.blk_sub rfl (by first | (rw [List.map_append]; rfl) | (rw [List.map_set]; rfl) | simp only [List.map_append, List.map_cons, List.map_nil, List.map_set]) (ren_map fun _ => rfl) | exact Z.gB_sub rfl rfl (ren_map fun _ => rfl) | exact Z.gB_sub' rfl (by first | rfl | (rw [List.map_append]; rfl) | simp only [List.map_append, List.map_cons, List.map_nil]) (ren_map fun _ => rfl) | apply And.intro))); (focus (refine ⟨by (try simp only [LN] at *) <;> omega, ?_, ?_, ?_⟩; (focus ((try dsimp only); rw [HO, okEs_at hx]; cases ho : okE x; (focus (exfalso; simp_all; done)); rw [decide_eq_true (fun h9 : x.kd = 3 => by ((try simp only [LN] at *) <;> omega)), Bool.true_and, Bool.true_and])); (focus ((try dsimp only); rw [HB, okBi_at hx, if_neg (by assumption)])); ((try dsimp only); rw [HF, okBf_at hx, if_neg (by assumption)]))); (try simp only [LN] at *); (try dsimp only); omega)
      | ((first | (with_reducible apply Z.retF1) | (with_reducible apply Z.retF2) | (with_reducible apply Z.retF0)); (focus (exact rfl)); (repeat' (first | exact trivial | (with_reducible apply Z.frz_one) | (with_reducible apply Z.frz_agg) | (with_reducible apply Z.fq_int) | (with_reducible apply Z.fq_bool) | (exact Z.frz_nil) | (exact Z.frz_osl0 rfl rfl rfl) | (with_reducible apply Z.fq_nil) | (with_reducible apply Z.fq_ro) | ((with_reducible apply Z.fq_gsl); (focus (first | rfl | exact Z.isB_map _ | exact Z.gB_snoc.symm)); (focus (exact fun _ => rfl))) | ((with_reducible apply Z.fq_osl); (focus (exact rfl)); (focus (first | exact rfl | (simp only [List.length_map, Nat.zero_add]; done) | ((try simp only [LN] at *) <;> omega))); (focus (exact fun _ => rfl))) | ((with_reducible apply Z.fq_src); (focus (exact rfl)); (focus (first | exact rfl | (simp only [List.length_map, Nat.zero_add]; done) | ((try simp only [LN] at *) <;> omega))); (focus (exact fun _ => rfl))) | exact rfl | ((apply Z.fq_osl); (focus (exact rfl)); (focus (first | exact rfl | (simp only [List.length_map, Nat.zero_add]; done) | ((try simp only [LN] at *) <;> omega))); (focus (exact fun _ => rfl))) | ((apply Z.fq_src); (focus (exact rfl)); (focus (first | exact rfl | (simp only [List.length_map, Nat.zero_add]; done) | ((try simp only [LN] at *) <;> omega))); (focus (exact fun _ => rfl))) | (apply Z.fq_ro) | (apply Z.fq_int) | (apply Z.fq_bool) | apply And.intro)); (all_goals (try exact (fun _ => none))); all_goals (first | (rw [hpre, HO, HB, HF, okEs_at hx, okBi_at hx]; cases ho : okE x; all_goals first | rfl | (exfalso; simp_all; done) | (simp only [LN] at *; rw [decide_eq_false (fun h9 => absurd (h9 (by assumption)) (by omega))]; rfl) | (rw [if_pos (by assumption), decide_eq_false (p := a < x.num) (by omega)]; simp)) | (rw [hpre, HO, HB, HF, drop_end (by (try simp only [LN] at *) <;> omega)]; simp only [okEs, okBi, okBf, Bool.true_and]; exact decide_eq_decide.2 Iff.rfl)))
      | (fail))

end Go.Proofs.Ytakfkbciijahgaa
