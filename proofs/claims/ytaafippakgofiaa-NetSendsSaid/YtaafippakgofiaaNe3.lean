import Derived.Test.YtaafippakgofiaaNe1
namespace Go.Proofs.Ytaafippakgofiaa
open Go Go.RowKit Wx
set_option linter.unusedVariables false
set_option linter.unusedSimpArgs false
set_option maxHeartbeats 4000000
def fnd (N : Int) (ps : List Pc) : Bool := ps[srch N ps]?.any (fun p => p.num == N)
theorem fnd_t {N : Int} {ps : List Pc} (h : fnd N ps = true) : ∃ x, ps[srch N ps]? = some x ∧ x.num = N := by
  unfold fnd at h
  cases hx : ps[srch N ps]? with
  | none => rw [hx] at h; cases h
  | some x => rw [hx] at h; exact ⟨x, rfl, by simpa using h⟩
theorem run_ct (kd fr to at0 : Int) (st ot : Bool) (bs : List Int) (sent : Int) (ps : List Pc) (hl : ps.length ≤ 100) (hb : ∀ p ∈ ps, p.bs.length ≤ 30001) (hbl : bs.length ≤ 9223372036854775807) (hk : okN sent ps = true) (K : Int) (hK : IntKind.u64.wrap kd % 7 = K) (hK3 : K = 3 ∨ K = 4) (hst : st = true) (x : Pc) (hx : ps[srch (numF at0 ot ps) ps]? = some x) (hn : x.num = (numF at0 ot ps)) : Con Try.prog 19 [.agg [.v (.int .i64 kd), .v (.int .i64 fr), .v (.int .i64 to), .v (.int .i64 at0), .v (.bool st), .v (.bool ot), .ro false 1 (bs.map eB)], .agg [.v (.int .u64 sent), .ro false 4 (ps.map eP)]] (fun rx rK rt => rx = .pl (.agg [.v (.int .u64 (sent)), .ro true 4 ((ps).map eP), .v (.int .u64 (0)), .v (.int .u64 (x).num), .v (.int .i64 (x).fr), .v (.int .i64 (x).to), .ro true 1 ((x).bs.map eB), .v (.int .i64 (0)), .v (.int .i64 (0))]) ∧ rK = [] ∧ rt = 0) := by
  refine Z.con_ofF tabOk 84 Try.f19 _ Try.func19 (by kernel_rfl) rfl rfl rfl rfl ?_
  have c1 := come_t sent (numF at0 ot ps) ps x hl hb hk hx hn
  subst hst
  rcases hK3 with rfl | rfl
  all_goals (
    skip
    repeat' ((conv => whnf); first
      | with_reducible first | refine spB_t ?_
      | ((with_reducible apply spB_cong); (focus (simp only [beq_self_eq_true, bne_self_eq_false, Bool.true_bne, Bool.false_bne, Bool.bne_true, Bool.bne_false, Bool.true_beq, Bool.false_beq, Bool.not_true, Bool.not_false, Bool.not_not, Int.reduceBEq, Int.reduceBNe, Int.reduceLE, Int.reduceLT, Int.reduceEq, decide_true, decide_false]; rfl)))
      | with_reducible first | refine spB_yes (by decide) ?_ | refine spB_no (by decide) ?_ | refine spB_f ?_ | refine spB_not ?_ | refine spB_yes (by assumption) ?_ | refine spB_no (by assumption) ?_
      | ((with_reducible refine vN_K hK ?_ ?_); (focus (exact Int.tmod_eq_emod_of_nonneg (wrap0 _))))
      | with_reducible first | refine wr_mk _ rfl ?_
      | with_reducible refine nzN_mk (by omega) ?_
      | ((first | (with_reducible apply Z.conZ_mz ?_ (c1) ?_) | (with_reducible apply Z.callZ_mk ?_ (c1) ?_)); (focus ((repeat' (first | exact trivial | exact rfl | exact Z.low_nil | exact Z.low_nil2 | exact low_osl (fun _ => rfl) | (refine Z.low_osln ?_ (fun _ => rfl); (simp only [List.length_map]; done)) | exact low_oslr (fun _ => rfl) | exact Z.low_gslm (by first | rfl | exact Z.kb_some rfl) (fun _ => rfl) | exact .inl rfl | exact .inr ⟨_, rfl⟩ | apply And.intro)); done)))
      | ((first | (with_reducible apply Z.conZ_mz ?_ (num_con _ _ _ _ _ _ _ _ _ ?_) ?_) | (with_reducible apply Z.callZ_mk ?_ (num_con _ _ _ _ _ _ _ _ _ ?_) ?_)); (rotate_left 9); (focus ((repeat' (first | exact trivial | exact rfl | exact Z.low_nil | exact Z.low_nil2 | exact low_osl (fun _ => rfl) | (refine Z.low_osln ?_ (fun _ => rfl); (simp only [List.length_map]; done)) | exact low_oslr (fun _ => rfl) | exact Z.low_gslm (by first | rfl | exact Z.kb_some rfl) (fun _ => rfl) | exact .inl rfl | exact .inr ⟨_, rfl⟩ | apply And.intro)); done)); (iterate 1 (focus (first | assumption | omega | ((try simp only [LN] at *); omega)))))
      | with_reducible first | refine Z.drawZ_rule tabOk mixOk ?_ | refine Z.apZ_mk (by kernel_rfl) ?_)
    all_goals (try (conv => whnf))
    all_goals first
      | (refine Z.retF1 [.agg [.v (.int .u64 (sent)), .ro true 4 ((ps).map eP), .v (.int .u64 (0)), .v (.int .u64 (x).num), .v (.int .i64 (x).fr), .v (.int .i64 (x).to), .ro true 1 ((x).bs.map eB), .v (.int .i64 (0)), .v (.int .i64 (0))]] (by kernel_rfl) ⟨⟨rfl, rfl, rfl, rfl, rfl, rfl, rfl, rfl, rfl, trivial⟩, trivial⟩)
      | (exfalso; simp only [LN] at *; omega)
      | (fail))

theorem run_cf (kd fr to at0 : Int) (st ot : Bool) (bs : List Int) (sent : Int) (ps : List Pc) (hl : ps.length ≤ 100) (hb : ∀ p ∈ ps, p.bs.length ≤ 30001) (hbl : bs.length ≤ 9223372036854775807) (hk : okN sent ps = true) (K : Int) (hK : IntKind.u64.wrap kd % 7 = K) (hK3 : K = 3 ∨ K = 4) (hst : st = false) (x : Pc) (hx : ps[srch (numF at0 ot ps) ps]? = some x) (hn : x.num = (numF at0 ot ps)) : Con Try.prog 19 [.agg [.v (.int .i64 kd), .v (.int .i64 fr), .v (.int .i64 to), .v (.int .i64 at0), .v (.bool st), .v (.bool ot), .ro false 1 (bs.map eB)], .agg [.v (.int .u64 sent), .ro false 4 (ps.map eP)]] (fun rx rK rt => rx = .pl (.agg [.v (.int .u64 (sent)), .ro true 4 ((ps.eraseIdx (srch (numF at0 ot ps) ps)).map eP), .v (.int .u64 (0)), .v (.int .u64 (x).num), .v (.int .i64 (x).fr), .v (.int .i64 (x).to), .ro true 1 ((x).bs.map eB), .v (.int .i64 (0)), .v (.int .i64 (0))]) ∧ rK = [] ∧ rt = 0) := by
  refine Z.con_ofF tabOk 84 Try.f19 _ Try.func19 (by kernel_rfl) rfl rfl rfl rfl ?_
  have c1 := come_x sent (numF at0 ot ps) ps x hl hb hk hx hn
  subst hst
  rcases hK3 with rfl | rfl
  all_goals (
    skip
    repeat' ((conv => whnf); first
      | with_reducible first | refine spB_t ?_
      | ((with_reducible apply spB_cong); (focus (simp only [beq_self_eq_true, bne_self_eq_false, Bool.true_bne, Bool.false_bne, Bool.bne_true, Bool.bne_false, Bool.true_beq, Bool.false_beq, Bool.not_true, Bool.not_false, Bool.not_not, Int.reduceBEq, Int.reduceBNe, Int.reduceLE, Int.reduceLT, Int.reduceEq, decide_true, decide_false]; rfl)))
      | with_reducible first | refine spB_yes (by decide) ?_ | refine spB_no (by decide) ?_ | refine spB_f ?_ | refine spB_not ?_ | refine spB_yes (by assumption) ?_ | refine spB_no (by assumption) ?_
      | ((with_reducible refine vN_K hK ?_ ?_); (focus (exact Int.tmod_eq_emod_of_nonneg (wrap0 _))))
      | with_reducible first | refine wr_mk _ rfl ?_
      | with_reducible refine nzN_mk (by omega) ?_
      | ((first | (with_reducible apply Z.conZ_mz ?_ (c1) ?_) | (with_reducible apply Z.callZ_mk ?_ (c1) ?_)); (focus ((repeat' (first | exact trivial | exact rfl | exact Z.low_nil | exact Z.low_nil2 | exact low_osl (fun _ => rfl) | (refine Z.low_osln ?_ (fun _ => rfl); (simp only [List.length_map]; done)) | exact low_oslr (fun _ => rfl) | exact Z.low_gslm (by first | rfl | exact Z.kb_some rfl) (fun _ => rfl) | exact .inl rfl | exact .inr ⟨_, rfl⟩ | apply And.intro)); done)))
      | ((first | (with_reducible apply Z.conZ_mz ?_ (num_con _ _ _ _ _ _ _ _ _ ?_) ?_) | (with_reducible apply Z.callZ_mk ?_ (num_con _ _ _ _ _ _ _ _ _ ?_) ?_)); (rotate_left 9); (focus ((repeat' (first | exact trivial | exact rfl | exact Z.low_nil | exact Z.low_nil2 | exact low_osl (fun _ => rfl) | (refine Z.low_osln ?_ (fun _ => rfl); (simp only [List.length_map]; done)) | exact low_oslr (fun _ => rfl) | exact Z.low_gslm (by first | rfl | exact Z.kb_some rfl) (fun _ => rfl) | exact .inl rfl | exact .inr ⟨_, rfl⟩ | apply And.intro)); done)); (iterate 1 (focus (first | assumption | omega | ((try simp only [LN] at *); omega)))))
      | with_reducible first | refine Z.drawZ_rule tabOk mixOk ?_ | refine Z.apZ_mk (by kernel_rfl) ?_)
    all_goals (try (conv => whnf))
    all_goals first
      | (refine Z.retF1 [.agg [.v (.int .u64 (sent)), .ro true 4 ((ps.eraseIdx (srch (numF at0 ot ps) ps)).map eP), .v (.int .u64 (0)), .v (.int .u64 (x).num), .v (.int .i64 (x).fr), .v (.int .i64 (x).to), .ro true 1 ((x).bs.map eB), .v (.int .i64 (0)), .v (.int .i64 (0))]] (by kernel_rfl) ⟨⟨rfl, rfl, rfl, rfl, rfl, rfl, rfl, rfl, rfl, trivial⟩, trivial⟩)
      | (exfalso; simp only [LN] at *; omega)
      | (fail))

theorem run_cn (kd fr to at0 : Int) (st ot : Bool) (bs : List Int) (sent : Int) (ps : List Pc) (hl : ps.length ≤ 100) (hb : ∀ p ∈ ps, p.bs.length ≤ 30001) (hbl : bs.length ≤ 9223372036854775807) (hk : okN sent ps = true) (K : Int) (hK : IntKind.u64.wrap kd % 7 = K) (hK3 : K = 3 ∨ K = 4) (hx : ps[srch (numF at0 ot ps) ps]?.any (fun p => p.num == (numF at0 ot ps)) = false) : Con Try.prog 19 [.agg [.v (.int .i64 kd), .v (.int .i64 fr), .v (.int .i64 to), .v (.int .i64 at0), .v (.bool st), .v (.bool ot), .ro false 1 (bs.map eB)], .agg [.v (.int .u64 sent), .ro false 4 (ps.map eP)]] (fun rx rK rt => rx = .pl (.agg [.v (.int .u64 (0)), .ro true 4 ((([] : List Pc)).map eP), .v (.int .u64 (0)), .v (.int .u64 ((⟨0, 0, 0, []⟩ : Pc)).num), .v (.int .i64 ((⟨0, 0, 0, []⟩ : Pc)).fr), .v (.int .i64 ((⟨0, 0, 0, []⟩ : Pc)).to), .ro true 1 (((⟨0, 0, 0, []⟩ : Pc)).bs.map eB), .v (.int .i64 (0)), .v (.int .i64 (4))]) ∧ rK = [] ∧ rt = 0) := by
  refine Z.con_ofF tabOk 84 Try.f19 _ Try.func19 (by kernel_rfl) rfl rfl rfl rfl ?_
  have c1 := come_n sent (numF at0 ot ps) st ps hl hb hk hx
  rcases hK3 with rfl | rfl
  all_goals (
    skip
    repeat' ((conv => whnf); first
      | with_reducible first | refine spB_t ?_
      | ((with_reducible apply spB_cong); (focus (simp only [beq_self_eq_true, bne_self_eq_false, Bool.true_bne, Bool.false_bne, Bool.bne_true, Bool.bne_false, Bool.true_beq, Bool.false_beq, Bool.not_true, Bool.not_false, Bool.not_not, Int.reduceBEq, Int.reduceBNe, Int.reduceLE, Int.reduceLT, Int.reduceEq, decide_true, decide_false]; rfl)))
      | with_reducible first | refine spB_yes (by decide) ?_ | refine spB_no (by decide) ?_ | refine spB_f ?_ | refine spB_not ?_ | refine spB_yes (by assumption) ?_ | refine spB_no (by assumption) ?_
      | ((with_reducible refine vN_K hK ?_ ?_); (focus (exact Int.tmod_eq_emod_of_nonneg (wrap0 _))))
      | with_reducible first | refine wr_mk _ rfl ?_
      | with_reducible refine nzN_mk (by omega) ?_
      | ((first | (with_reducible apply Z.conZ_mz ?_ (c1) ?_) | (with_reducible apply Z.callZ_mk ?_ (c1) ?_)); (focus ((repeat' (first | exact trivial | exact rfl | exact Z.low_nil | exact Z.low_nil2 | exact low_osl (fun _ => rfl) | (refine Z.low_osln ?_ (fun _ => rfl); (simp only [List.length_map]; done)) | exact low_oslr (fun _ => rfl) | exact Z.low_gslm (by first | rfl | exact Z.kb_some rfl) (fun _ => rfl) | exact .inl rfl | exact .inr ⟨_, rfl⟩ | apply And.intro)); done)))
      | ((first | (with_reducible apply Z.conZ_mz ?_ (num_con _ _ _ _ _ _ _ _ _ ?_) ?_) | (with_reducible apply Z.callZ_mk ?_ (num_con _ _ _ _ _ _ _ _ _ ?_) ?_)); (rotate_left 9); (focus ((repeat' (first | exact trivial | exact rfl | exact Z.low_nil | exact Z.low_nil2 | exact low_osl (fun _ => rfl) | (refine Z.low_osln ?_ (fun _ => rfl); (simp only [List.length_map]; done)) | exact low_oslr (fun _ => rfl) | exact Z.low_gslm (by first | rfl | exact Z.kb_some rfl) (fun _ => rfl) | exact .inl rfl | exact .inr ⟨_, rfl⟩ | apply And.intro)); done)); (iterate 1 (focus (first | assumption | omega | ((try simp only [LN] at *); omega)))))
      | with_reducible first | refine Z.drawZ_rule tabOk mixOk ?_ | refine Z.apZ_mk (by kernel_rfl) ?_)
    all_goals (try (conv => whnf))
    all_goals first
      | (refine Z.retF1 [.agg [.v (.int .u64 (0)), .ro true 4 ((([] : List Pc)).map eP), .v (.int .u64 (0)), .v (.int .u64 ((⟨0, 0, 0, []⟩ : Pc)).num), .v (.int .i64 ((⟨0, 0, 0, []⟩ : Pc)).fr), .v (.int .i64 ((⟨0, 0, 0, []⟩ : Pc)).to), .ro true 1 (((⟨0, 0, 0, []⟩ : Pc)).bs.map eB), .v (.int .i64 (0)), .v (.int .i64 (4))]] (by kernel_rfl) ⟨⟨rfl, rfl, rfl, rfl, rfl, rfl, rfl, rfl, rfl, trivial⟩, trivial⟩)
      | (exfalso; simp only [LN] at *; omega)
      | (fail))

theorem run_lt (kd fr to at0 : Int) (st ot : Bool) (bs : List Int) (sent : Int) (ps : List Pc) (hl : ps.length ≤ 100) (hb : ∀ p ∈ ps, p.bs.length ≤ 30001) (hbl : bs.length ≤ 9223372036854775807) (hk : okN sent ps = true) (K : Int) (hK : IntKind.u64.wrap kd % 7 = K) (hK3 : K = 5) (x : Pc) (hx : ps[srch (numF at0 ot ps) ps]? = some x) (hn : x.num = (numF at0 ot ps)) : Con Try.prog 19 [.agg [.v (.int .i64 kd), .v (.int .i64 fr), .v (.int .i64 to), .v (.int .i64 at0), .v (.bool st), .v (.bool ot), .ro false 1 (bs.map eB)], .agg [.v (.int .u64 sent), .ro false 4 (ps.map eP)]] (fun rx rK rt => rx = .pl (.agg [.v (.int .u64 (sent)), .ro true 4 ((ps.eraseIdx (srch (numF at0 ot ps) ps)).map eP), .v (.int .u64 (0)), .v (.int .u64 ((⟨0, 0, 0, []⟩ : Pc)).num), .v (.int .i64 ((⟨0, 0, 0, []⟩ : Pc)).fr), .v (.int .i64 ((⟨0, 0, 0, []⟩ : Pc)).to), .ro true 1 (((⟨0, 0, 0, []⟩ : Pc)).bs.map eB), .v (.int .i64 (0)), .v (.int .i64 (0))]) ∧ rK = [] ∧ rt = 0) := by
  refine Z.con_ofF tabOk 84 Try.f19 _ Try.func19 (by kernel_rfl) rfl rfl rfl rfl ?_
  have c1 := lose_t sent (numF at0 ot ps) ps x hl hb hk hx hn
  rcases hK3 with rfl
  all_goals (
    skip
    repeat' ((conv => whnf); first
      | with_reducible first | refine spB_t ?_
      | ((with_reducible apply spB_cong); (focus (simp only [beq_self_eq_true, bne_self_eq_false, Bool.true_bne, Bool.false_bne, Bool.bne_true, Bool.bne_false, Bool.true_beq, Bool.false_beq, Bool.not_true, Bool.not_false, Bool.not_not, Int.reduceBEq, Int.reduceBNe, Int.reduceLE, Int.reduceLT, Int.reduceEq, decide_true, decide_false]; rfl)))
      | with_reducible first | refine spB_yes (by decide) ?_ | refine spB_no (by decide) ?_ | refine spB_f ?_ | refine spB_not ?_ | refine spB_yes (by assumption) ?_ | refine spB_no (by assumption) ?_
      | ((with_reducible refine vN_K hK ?_ ?_); (focus (exact Int.tmod_eq_emod_of_nonneg (wrap0 _))))
      | with_reducible first | refine wr_mk _ rfl ?_
      | with_reducible refine nzN_mk (by omega) ?_
      | ((first | (with_reducible apply Z.conZ_mz ?_ (c1) ?_) | (with_reducible apply Z.callZ_mk ?_ (c1) ?_)); (focus ((repeat' (first | exact trivial | exact rfl | exact Z.low_nil | exact Z.low_nil2 | exact low_osl (fun _ => rfl) | (refine Z.low_osln ?_ (fun _ => rfl); (simp only [List.length_map]; done)) | exact low_oslr (fun _ => rfl) | exact Z.low_gslm (by first | rfl | exact Z.kb_some rfl) (fun _ => rfl) | exact .inl rfl | exact .inr ⟨_, rfl⟩ | apply And.intro)); done)))
      | ((first | (with_reducible apply Z.conZ_mz ?_ (num_con _ _ _ _ _ _ _ _ _ ?_) ?_) | (with_reducible apply Z.callZ_mk ?_ (num_con _ _ _ _ _ _ _ _ _ ?_) ?_)); (rotate_left 9); (focus ((repeat' (first | exact trivial | exact rfl | exact Z.low_nil | exact Z.low_nil2 | exact low_osl (fun _ => rfl) | (refine Z.low_osln ?_ (fun _ => rfl); (simp only [List.length_map]; done)) | exact low_oslr (fun _ => rfl) | exact Z.low_gslm (by first | rfl | exact Z.kb_some rfl) (fun _ => rfl) | exact .inl rfl | exact .inr ⟨_, rfl⟩ | apply And.intro)); done)); (iterate 1 (focus (first | assumption | omega | ((try simp only [LN] at *); omega)))))
      | with_reducible first | refine Z.drawZ_rule tabOk mixOk ?_ | refine Z.apZ_mk (by kernel_rfl) ?_)
    all_goals (try (conv => whnf))
    all_goals first
      | (refine Z.retF1 [.agg [.v (.int .u64 (sent)), .ro true 4 ((ps.eraseIdx (srch (numF at0 ot ps) ps)).map eP), .v (.int .u64 (0)), .v (.int .u64 ((⟨0, 0, 0, []⟩ : Pc)).num), .v (.int .i64 ((⟨0, 0, 0, []⟩ : Pc)).fr), .v (.int .i64 ((⟨0, 0, 0, []⟩ : Pc)).to), .v (.slice none 0 0), .v (.int .i64 (0)), .v (.int .i64 (0))]] (by kernel_rfl) ⟨⟨rfl, rfl, rfl, rfl, rfl, rfl, Z.frz_nil, rfl, rfl, trivial⟩, trivial⟩)
      | (exfalso; simp only [LN] at *; omega)
      | (fail))

theorem run_ln (kd fr to at0 : Int) (st ot : Bool) (bs : List Int) (sent : Int) (ps : List Pc) (hl : ps.length ≤ 100) (hb : ∀ p ∈ ps, p.bs.length ≤ 30001) (hbl : bs.length ≤ 9223372036854775807) (hk : okN sent ps = true) (K : Int) (hK : IntKind.u64.wrap kd % 7 = K) (hK3 : K = 5) (hx : ps[srch (numF at0 ot ps) ps]?.any (fun p => p.num == (numF at0 ot ps)) = false) : Con Try.prog 19 [.agg [.v (.int .i64 kd), .v (.int .i64 fr), .v (.int .i64 to), .v (.int .i64 at0), .v (.bool st), .v (.bool ot), .ro false 1 (bs.map eB)], .agg [.v (.int .u64 sent), .ro false 4 (ps.map eP)]] (fun rx rK rt => rx = .pl (.agg [.v (.int .u64 (0)), .ro true 4 ((([] : List Pc)).map eP), .v (.int .u64 (0)), .v (.int .u64 ((⟨0, 0, 0, []⟩ : Pc)).num), .v (.int .i64 ((⟨0, 0, 0, []⟩ : Pc)).fr), .v (.int .i64 ((⟨0, 0, 0, []⟩ : Pc)).to), .ro true 1 (((⟨0, 0, 0, []⟩ : Pc)).bs.map eB), .v (.int .i64 (0)), .v (.int .i64 (4))]) ∧ rK = [] ∧ rt = 0) := by
  refine Z.con_ofF tabOk 84 Try.f19 _ Try.func19 (by kernel_rfl) rfl rfl rfl rfl ?_
  have c1 := lose_n sent (numF at0 ot ps) ps hl hb hk hx
  rcases hK3 with rfl
  all_goals (
    skip
    repeat' ((conv => whnf); first
      | with_reducible first | refine spB_t ?_
      | ((with_reducible apply spB_cong); (focus (simp only [beq_self_eq_true, bne_self_eq_false, Bool.true_bne, Bool.false_bne, Bool.bne_true, Bool.bne_false, Bool.true_beq, Bool.false_beq, Bool.not_true, Bool.not_false, Bool.not_not, Int.reduceBEq, Int.reduceBNe, Int.reduceLE, Int.reduceLT, Int.reduceEq, decide_true, decide_false]; rfl)))
      | with_reducible first | refine spB_yes (by decide) ?_ | refine spB_no (by decide) ?_ | refine spB_f ?_ | refine spB_not ?_ | refine spB_yes (by assumption) ?_ | refine spB_no (by assumption) ?_
      | ((with_reducible refine vN_K hK ?_ ?_); (focus (exact Int.tmod_eq_emod_of_nonneg (wrap0 _))))
      | with_reducible first | refine wr_mk _ rfl ?_
      | with_reducible refine nzN_mk (by omega) ?_
      | ((first | (with_reducible apply Z.conZ_mz ?_ (c1) ?_) | (with_reducible apply Z.callZ_mk ?_ (c1) ?_)); (focus ((repeat' (first | exact trivial | exact rfl | exact Z.low_nil | exact Z.low_nil2 | exact low_osl (fun _ => rfl) | (refine Z.low_osln ?_ (fun _ => rfl); (simp only [List.length_map]; done)) | exact low_oslr (fun _ => rfl) | exact Z.low_gslm (by first | rfl | exact Z.kb_some rfl) (fun _ => rfl) | exact .inl rfl | exact .inr ⟨_, rfl⟩ | apply And.intro)); done)))
      | ((first | (with_reducible apply Z.conZ_mz ?_ (num_con _ _ _ _ _ _ _ _ _ ?_) ?_) | (with_reducible apply Z.callZ_mk ?_ (num_con _ _ _ _ _ _ _ _ _ ?_) ?_)); (rotate_left 9); (focus ((repeat' (first | exact trivial | exact rfl | exact Z.low_nil | exact Z.low_nil2 | exact low_osl (fun _ => rfl) | (refine Z.low_osln ?_ (fun _ => rfl); (simp only [List.length_map]; done)) | exact low_oslr (fun _ => rfl) | exact Z.low_gslm (by first | rfl | exact Z.kb_some rfl) (fun _ => rfl) | exact .inl rfl | exact .inr ⟨_, rfl⟩ | apply And.intro)); done)); (iterate 1 (focus (first | assumption | omega | ((try simp only [LN] at *); omega)))))
      | with_reducible first | refine Z.drawZ_rule tabOk mixOk ?_ | refine Z.apZ_mk (by kernel_rfl) ?_)
    all_goals (try (conv => whnf))
    all_goals first
      | (refine Z.retF1 [.agg [.v (.int .u64 (0)), .ro true 4 ((([] : List Pc)).map eP), .v (.int .u64 (0)), .v (.int .u64 ((⟨0, 0, 0, []⟩ : Pc)).num), .v (.int .i64 ((⟨0, 0, 0, []⟩ : Pc)).fr), .v (.int .i64 ((⟨0, 0, 0, []⟩ : Pc)).to), .v (.slice none 0 0), .v (.int .i64 (0)), .v (.int .i64 (4))]] (by kernel_rfl) ⟨⟨rfl, rfl, rfl, rfl, rfl, rfl, Z.frz_nil, rfl, rfl, trivial⟩, trivial⟩)
      | (exfalso; simp only [LN] at *; omega)
      | (fail))

theorem run_gt (kd fr to at0 : Int) (st ot : Bool) (bs : List Int) (sent : Int) (ps : List Pc) (hl : ps.length ≤ 100) (hb : ∀ p ∈ ps, p.bs.length ≤ 30001) (hbl : bs.length ≤ 9223372036854775807) (hk : okN sent ps = true) (K : Int) (hK : IntKind.u64.wrap kd % 7 = K) (hK3 : K = 6) (hnd : 1 ≤ fr ∧ fr ≤ 7) : Con Try.prog 19 [.agg [.v (.int .i64 kd), .v (.int .i64 fr), .v (.int .i64 to), .v (.int .i64 at0), .v (.bool st), .v (.bool ot), .ro false 1 (bs.map eB)], .agg [.v (.int .u64 sent), .ro false 4 (ps.map eP)]] (fun rx rK rt => rx = .pl (.agg [.v (.int .u64 (sent)), .ro true 4 ((keepL fr ps).map eP), .v (.int .u64 (0)), .v (.int .u64 ((⟨0, 0, 0, []⟩ : Pc)).num), .v (.int .i64 ((⟨0, 0, 0, []⟩ : Pc)).fr), .v (.int .i64 ((⟨0, 0, 0, []⟩ : Pc)).to), .ro true 1 (((⟨0, 0, 0, []⟩ : Pc)).bs.map eB), .v (.int .i64 ((ps.length : Int) - (keepL fr ps).length)), .v (.int .i64 (0))]) ∧ rK = [] ∧ rt = 0) := by
  refine Z.con_ofF tabOk 84 Try.f19 _ Try.func19 (by kernel_rfl) rfl rfl rfl rfl ?_
  have c1 := cut_t sent fr ps hl hb hk hnd
  rcases hK3 with rfl
  all_goals (
    skip
    repeat' ((conv => whnf); first
      | ((with_reducible apply spB_cong); (focus (simp only [beq_self_eq_true, bne_self_eq_false, Bool.true_bne, Bool.false_bne, Bool.bne_true, Bool.bne_false, Bool.true_beq, Bool.false_beq, Bool.not_true, Bool.not_false, Bool.not_not, Int.reduceBEq, Int.reduceBNe, Int.reduceLE, Int.reduceLT, Int.reduceEq, decide_true, decide_false]; rfl)))
      | with_reducible first | refine spB_yes (by decide) ?_ | refine spB_no (by decide) ?_ | refine spB_f ?_ | refine spB_not ?_ | refine spB_yes (by assumption) ?_ | refine spB_no (by assumption) ?_
      | ((with_reducible refine vN_K hK ?_ ?_); (focus (exact Int.tmod_eq_emod_of_nonneg (wrap0 _))))
      | with_reducible first | refine wr_mk _ rfl ?_
      | with_reducible refine nzN_mk (by omega) ?_
      | ((first | (with_reducible apply Z.conZ_mz ?_ (c1) ?_) | (with_reducible apply Z.callZ_mk ?_ (c1) ?_)); (focus ((repeat' (first | exact trivial | exact rfl | exact Z.low_nil | exact Z.low_nil2 | exact low_osl (fun _ => rfl) | (refine Z.low_osln ?_ (fun _ => rfl); (simp only [List.length_map]; done)) | exact low_oslr (fun _ => rfl) | exact Z.low_gslm (by first | rfl | exact Z.kb_some rfl) (fun _ => rfl) | exact .inl rfl | exact .inr ⟨_, rfl⟩ | apply And.intro)); done))))
    all_goals (try (conv => whnf))
    all_goals first
      | (refine Z.retF1 [.agg [.v (.int .u64 (sent)), .ro true 4 ((keepL fr ps).map eP), .v (.int .u64 (0)), .v (.int .u64 ((⟨0, 0, 0, []⟩ : Pc)).num), .v (.int .i64 ((⟨0, 0, 0, []⟩ : Pc)).fr), .v (.int .i64 ((⟨0, 0, 0, []⟩ : Pc)).to), .v (.slice none 0 0), .v (.int .i64 ((ps.length : Int) - (keepL fr ps).length)), .v (.int .i64 (0))]] (by kernel_rfl) ⟨⟨rfl, rfl, rfl, rfl, rfl, rfl, Z.frz_nil, rfl, rfl, trivial⟩, trivial⟩)
      | (exfalso; simp only [LN] at *; omega)
      | (fail))

theorem run_gn (kd fr to at0 : Int) (st ot : Bool) (bs : List Int) (sent : Int) (ps : List Pc) (hl : ps.length ≤ 100) (hb : ∀ p ∈ ps, p.bs.length ≤ 30001) (hbl : bs.length ≤ 9223372036854775807) (hk : okN sent ps = true) (K : Int) (hK : IntKind.u64.wrap kd % 7 = K) (hK3 : K = 6) (hnd : ¬ (1 ≤ fr ∧ fr ≤ 7)) : Con Try.prog 19 [.agg [.v (.int .i64 kd), .v (.int .i64 fr), .v (.int .i64 to), .v (.int .i64 at0), .v (.bool st), .v (.bool ot), .ro false 1 (bs.map eB)], .agg [.v (.int .u64 sent), .ro false 4 (ps.map eP)]] (fun rx rK rt => rx = .pl (.agg [.v (.int .u64 (0)), .ro true 4 ((([] : List Pc)).map eP), .v (.int .u64 (0)), .v (.int .u64 ((⟨0, 0, 0, []⟩ : Pc)).num), .v (.int .i64 ((⟨0, 0, 0, []⟩ : Pc)).fr), .v (.int .i64 ((⟨0, 0, 0, []⟩ : Pc)).to), .ro true 1 (((⟨0, 0, 0, []⟩ : Pc)).bs.map eB), .v (.int .i64 (0)), .v (.int .i64 (2))]) ∧ rK = [] ∧ rt = 0) := by
  refine Z.con_ofF tabOk 84 Try.f19 _ Try.func19 (by kernel_rfl) rfl rfl rfl rfl ?_
  have c1 := cut_n sent fr ps hl hb hk hnd
  rcases hK3 with rfl
  all_goals (
    skip
    repeat' ((conv => whnf); first
      | ((with_reducible apply spB_cong); (focus (simp only [beq_self_eq_true, bne_self_eq_false, Bool.true_bne, Bool.false_bne, Bool.bne_true, Bool.bne_false, Bool.true_beq, Bool.false_beq, Bool.not_true, Bool.not_false, Bool.not_not, Int.reduceBEq, Int.reduceBNe, Int.reduceLE, Int.reduceLT, Int.reduceEq, decide_true, decide_false]; rfl)))
      | with_reducible first | refine spB_yes (by decide) ?_ | refine spB_no (by decide) ?_ | refine spB_f ?_ | refine spB_not ?_ | refine spB_yes (by assumption) ?_ | refine spB_no (by assumption) ?_
      | ((with_reducible refine vN_K hK ?_ ?_); (focus (exact Int.tmod_eq_emod_of_nonneg (wrap0 _))))
      | with_reducible first | refine wr_mk _ rfl ?_
      | with_reducible refine nzN_mk (by omega) ?_
      | ((first | (with_reducible apply Z.conZ_mz ?_ (c1) ?_) | (with_reducible apply Z.callZ_mk ?_ (c1) ?_)); (focus ((repeat' (first | exact trivial | exact rfl | exact Z.low_nil | exact Z.low_nil2 | exact low_osl (fun _ => rfl) | (refine Z.low_osln ?_ (fun _ => rfl); (simp only [List.length_map]; done)) | exact low_oslr (fun _ => rfl) | exact Z.low_gslm (by first | rfl | exact Z.kb_some rfl) (fun _ => rfl) | exact .inl rfl | exact .inr ⟨_, rfl⟩ | apply And.intro)); done))))
    all_goals (try (conv => whnf))
    all_goals first
      | (refine Z.retF1 [.agg [.v (.int .u64 (0)), .ro true 4 ((([] : List Pc)).map eP), .v (.int .u64 (0)), .v (.int .u64 ((⟨0, 0, 0, []⟩ : Pc)).num), .v (.int .i64 ((⟨0, 0, 0, []⟩ : Pc)).fr), .v (.int .i64 ((⟨0, 0, 0, []⟩ : Pc)).to), .v (.slice none 0 0), .v (.int .i64 (0)), .v (.int .i64 (2))]] (by kernel_rfl) ⟨⟨rfl, rfl, rfl, rfl, rfl, rfl, Z.frz_nil, rfl, rfl, trivial⟩, trivial⟩)
      | (exfalso; simp only [LN] at *; omega)
      | (fail))

end Go.Proofs.Ytaafippakgofiaa
