import Derived.Test.YtaafippakgofiaaNd4
namespace Go.Proofs.Ytaafippakgofiaa
open Go Go.RowKit Wx
set_option linter.unusedVariables false
set_option linter.unusedSimpArgs false
set_option maxHeartbeats 4000000
def pixu (at0 : Int) (ps : List Pc) : Nat := (IntKind.u64.wrap at0 % (ps.length : Int)).toNat
def numF (at0 : Int) (ot : Bool) (ps : List Pc) : Int := if ps ≠ [] ∧ ot = false then ((ps[pixu at0 ps]?).map (fun p => p.num)).getD 0 else IntKind.u64.wrap at0
theorem wrap0 (z : Int) : 0 ≤ IntKind.u64.wrap z := by
  simp [IntKind.wrap, IntKind.bits, IntKind.signed]
  omega
theorem pixu_eq {at0 : Int} {ps : List Pc} (h : 0 < ps.length) : (IntKind.u64.wrap at0).tmod (ps.length : Int) = ((pixu at0 ps : Nat) : Int) := by
  rw [Int.tmod_eq_emod_of_nonneg (wrap0 _)]
  unfold pixu
  rw [Int.toNat_of_nonneg (Int.emod_nonneg _ (by omega))]
theorem pixu_lt {at0 : Int} {ps : List Pc} (h : 0 < ps.length) : pixu at0 ps < ps.length := by
  have := Int.emod_lt_of_pos (IntKind.u64.wrap at0) (show 0 < (ps.length : Int) by omega)
  have := Int.emod_nonneg (IntKind.u64.wrap at0) (show (ps.length : Int) ≠ 0 by omega)
  unfold pixu; omega
theorem num_con (kd fr to at0 : Int) (st ot : Bool) (bs : List Int) (sent : Int) (ps : List Pc) (hl : ps.length ≤ 100) : Con Try.prog 18 [.agg [.v (.int .i64 kd), .v (.int .i64 fr), .v (.int .i64 to), .v (.int .i64 at0), .v (.bool st), .v (.bool ot), .ro false 1 (bs.map eB)], .agg [.v (.int .u64 sent), .ro false 4 (ps.map eP)]] (fun rx rK rt => rx = .val (.int .u64 (numF at0 ot ps)) ∧ rK = [] ∧ rt = 0) := by
  refine Z.con_ofF tabOk 30 Try.f18 _ Try.func18 (by kernel_rfl) rfl rfl rfl rfl ?_
  by_cases hc : ps ≠ [] ∧ ot = false
  · obtain ⟨hne, hot⟩ := hc
    subst hot
    have hp0 : 0 < ps.length := List.length_pos_iff.2 hne
    have hpl := pixu_lt (at0 := at0) hp0
    obtain ⟨x, hx⟩ := getElem?_some' (xs := ps) (i := pixu at0 ps) hpl
    have hv : numF at0 false ps = x.num := by unfold numF; rw [if_pos ⟨hne, rfl⟩, hx]; rfl
    have hwl : IntKind.u64.wrap (((List.map eP ps).length : Nat) : Int) = ((ps.length : Nat) : Int) := by rw [List.length_map]; exact u64_in _ (by omega)
    rw [hv]
    repeat' ((conv => whnf); first
      | with_reducible first | refine spB_t ?_
      | ((with_reducible apply spB_cong); (focus (simp only [beq_self_eq_true, bne_self_eq_false, Bool.true_bne, Bool.false_bne, Bool.bne_true, Bool.bne_false, Bool.true_beq, Bool.false_beq, Bool.not_true, Bool.not_false, Bool.not_not, Int.reduceBEq, Int.reduceBNe, Int.reduceLE, Int.reduceLT, Int.reduceEq, decide_true, decide_false]; rfl)))
      | (with_reducible refine spB_dec ?_ ?_ <;> intro _ <;> (try (exfalso; first | contradiction | omega | (simp only [LN] at *; omega) | (simp_all; done))))
      | ((with_reducible refine vN_to ((pixu at0 ps : Nat) : Int) ?_ ?_); (focus (exact pixu_eq hp0)))
      | with_reducible first | refine wr_mk _ hwl ?_ | refine Z.rowN_known hx ?_
      | ((with_reducible apply ixN_litp); (focus (exact rfl)); (focus ((try simp only [LN] at *) <;> omega)))
      | with_reducible first | refine wr_mk _ rfl ?_
      | with_reducible refine nzN_mk (by omega) ?_
      | with_reducible first | refine Z.drawZ_rule tabOk mixOk ?_ | refine Z.apZ_mk (by kernel_rfl) ?_)
    all_goals (try (conv => whnf))
    all_goals first
      | ((first | (with_reducible apply Z.retF1) | (with_reducible apply Z.retF2) | (with_reducible apply Z.retF0)); (focus (exact rfl)); (repeat' (first | exact trivial | (with_reducible apply Z.frz_one) | (with_reducible apply Z.frz_agg) | (with_reducible apply Z.fq_int) | (with_reducible apply Z.fq_bool) | (exact Z.frz_nil) | (exact Z.frz_osl0 rfl rfl rfl) | (with_reducible apply Z.fq_nil) | (with_reducible apply Z.fq_ro) | ((with_reducible apply Z.fq_gsl); (focus (first | rfl | exact Z.isB_map _ | exact Z.gB_snoc.symm)); (focus (exact fun _ => rfl))) | ((with_reducible apply Z.fq_osl); (focus (exact rfl)); (focus (first | exact rfl | (simp only [List.length_map, Nat.zero_add]; done) | ((try simp only [LN] at *) <;> omega))); (focus (exact fun _ => rfl))) | ((with_reducible apply Z.fq_src); (focus (exact rfl)); (focus (first | exact rfl | (simp only [List.length_map, Nat.zero_add]; done) | ((try simp only [LN] at *) <;> omega))); (focus (exact fun _ => rfl))) | exact rfl | ((apply Z.fq_osl); (focus (exact rfl)); (focus (first | exact rfl | (simp only [List.length_map, Nat.zero_add]; done) | ((try simp only [LN] at *) <;> omega))); (focus (exact fun _ => rfl))) | ((apply Z.fq_src); (focus (exact rfl)); (focus (first | exact rfl | (simp only [List.length_map, Nat.zero_add]; done) | ((try simp only [LN] at *) <;> omega))); (focus (exact fun _ => rfl))) | (apply Z.fq_ro) | (apply Z.fq_int) | (apply Z.fq_bool) | apply And.intro)); (all_goals (try exact (fun _ => none))); all_goals (rfl))
      | (exfalso; simp_all; done)
      | (fail)
  · have hv : numF at0 ot ps = IntKind.u64.wrap at0 := by unfold numF; rw [if_neg hc]
    rw [hv]
    cases ot with
    | true =>
      repeat' ((conv => whnf); first
        | with_reducible first | refine spB_t ?_
        | ((with_reducible apply spB_cong); (focus (simp only [beq_self_eq_true, bne_self_eq_false, Bool.true_bne, Bool.false_bne, Bool.bne_true, Bool.bne_false, Bool.true_beq, Bool.false_beq, Bool.not_true, Bool.not_false, Bool.not_not, Int.reduceBEq, Int.reduceBNe, Int.reduceLE, Int.reduceLT, Int.reduceEq, decide_true, decide_false]; rfl)))
        | with_reducible first | refine spB_yes (by decide) ?_ | refine spB_no (by decide) ?_ | refine spB_f ?_ | refine spB_not ?_ | refine spB_yes (by assumption) ?_ | refine spB_no (by assumption) ?_
        | (with_reducible refine spB_dec ?_ ?_ <;> intro _ <;> (try (exfalso; first | contradiction | omega | (simp only [LN] at *; omega) | (simp_all; done))))
        | with_reducible first | refine wr_mk _ rfl ?_)
      all_goals (try (conv => whnf))
      all_goals first
        | ((first | (with_reducible apply Z.retF1) | (with_reducible apply Z.retF2) | (with_reducible apply Z.retF0)); (focus (exact rfl)); (repeat' (first | exact trivial | (with_reducible apply Z.frz_one) | (with_reducible apply Z.frz_agg) | (with_reducible apply Z.fq_int) | (with_reducible apply Z.fq_bool) | (exact Z.frz_nil) | (exact Z.frz_osl0 rfl rfl rfl) | (with_reducible apply Z.fq_nil) | (with_reducible apply Z.fq_ro) | ((with_reducible apply Z.fq_gsl); (focus (first | rfl | exact Z.isB_map _ | exact Z.gB_snoc.symm)); (focus (exact fun _ => rfl))) | ((with_reducible apply Z.fq_osl); (focus (exact rfl)); (focus (first | exact rfl | (simp only [List.length_map, Nat.zero_add]; done) | ((try simp only [LN] at *) <;> omega))); (focus (exact fun _ => rfl))) | ((with_reducible apply Z.fq_src); (focus (exact rfl)); (focus (first | exact rfl | (simp only [List.length_map, Nat.zero_add]; done) | ((try simp only [LN] at *) <;> omega))); (focus (exact fun _ => rfl))) | exact rfl | ((apply Z.fq_osl); (focus (exact rfl)); (focus (first | exact rfl | (simp only [List.length_map, Nat.zero_add]; done) | ((try simp only [LN] at *) <;> omega))); (focus (exact fun _ => rfl))) | ((apply Z.fq_src); (focus (exact rfl)); (focus (first | exact rfl | (simp only [List.length_map, Nat.zero_add]; done) | ((try simp only [LN] at *) <;> omega))); (focus (exact fun _ => rfl))) | (apply Z.fq_ro) | (apply Z.fq_int) | (apply Z.fq_bool) | apply And.intro)); (all_goals (try exact (fun _ => none))); all_goals (rfl))
        | (exfalso; simp_all; done)
        | (fail)
    | false =>
      have hpe : ps = [] := by simpa using hc
      subst hpe
      repeat' ((conv => whnf); first
        | with_reducible first | refine spB_yes (by decide) ?_ | refine spB_no (by decide) ?_ | refine spB_f ?_ | refine spB_not ?_ | refine spB_yes (by assumption) ?_ | refine spB_no (by assumption) ?_
        | with_reducible first | refine wr_mk _ rfl ?_)
      all_goals (try (conv => whnf))
      all_goals first
        | ((first | (with_reducible apply Z.retF1) | (with_reducible apply Z.retF2) | (with_reducible apply Z.retF0)); (focus (exact rfl)); (repeat' (first | exact trivial | (with_reducible apply Z.frz_one) | (with_reducible apply Z.frz_agg) | (with_reducible apply Z.fq_int) | (with_reducible apply Z.fq_bool) | (exact Z.frz_nil) | (exact Z.frz_osl0 rfl rfl rfl) | (with_reducible apply Z.fq_nil) | (with_reducible apply Z.fq_ro) | ((with_reducible apply Z.fq_gsl); (focus (first | rfl | exact Z.isB_map _ | exact Z.gB_snoc.symm)); (focus (exact fun _ => rfl))) | ((with_reducible apply Z.fq_osl); (focus (exact rfl)); (focus (first | exact rfl | (simp only [List.length_map, Nat.zero_add]; done) | ((try simp only [LN] at *) <;> omega))); (focus (exact fun _ => rfl))) | ((with_reducible apply Z.fq_src); (focus (exact rfl)); (focus (first | exact rfl | (simp only [List.length_map, Nat.zero_add]; done) | ((try simp only [LN] at *) <;> omega))); (focus (exact fun _ => rfl))) | exact rfl | ((apply Z.fq_osl); (focus (exact rfl)); (focus (first | exact rfl | (simp only [List.length_map, Nat.zero_add]; done) | ((try simp only [LN] at *) <;> omega))); (focus (exact fun _ => rfl))) | ((apply Z.fq_src); (focus (exact rfl)); (focus (first | exact rfl | (simp only [List.length_map, Nat.zero_add]; done) | ((try simp only [LN] at *) <;> omega))); (focus (exact fun _ => rfl))) | (apply Z.fq_ro) | (apply Z.fq_int) | (apply Z.fq_bool) | apply And.intro)); (all_goals (try exact (fun _ => none))); all_goals (rfl))
        | (exfalso; simp_all; done)
        | (fail)

end Go.Proofs.Ytaafippakgofiaa
