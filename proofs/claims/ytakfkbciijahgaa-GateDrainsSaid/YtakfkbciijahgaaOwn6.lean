import Derived.Test.YtakfkbciijahgaaLib3
import Derived.Test.YtakfkbciijahgaaLib4
import Derived.Test.YtakfkbciijahgaaLib5
namespace Go.Proofs.Ytakfkbciijahgaa
open Go Go.RowKit Wx
set_option linter.unusedVariables false
set_option linter.unusedSimpArgs false
set_option maxHeartbeats 4000000
structure El where
  kd : Int
  src : Int
  key : Int
  val : Int
  num : Int
deriving DecidableEq
structure Qu where
  es : List El
  last : Int
  held : Bool
  ended : Bool
deriving DecidableEq
abbrev eE (x : El) : List RT := [RT.v (.int .i64 x.kd), RT.v (.int .i64 x.src), RT.v (.int .i64 x.key), RT.v (.int .i64 x.val), RT.v (.int .u64 x.num)]
abbrev cE (x : El) : List Ce := [Ce.v (.int .i64 x.kd), Ce.v (.int .i64 x.src), Ce.v (.int .i64 x.key), Ce.v (.int .i64 x.val), Ce.v (.int .u64 x.num)]
abbrev eQ (x : Qu) : List RT := [RT.ro 5 (x.es.map eE), RT.v (.int .u64 x.last), RT.v (.bool x.held), RT.v (.bool x.ended)]
abbrev cQ (x : Qu) : List Ce := [Ce.ro true 5 (x.es.map eE), Ce.v (.int .u64 x.last), Ce.v (.bool x.held), Ce.v (.bool x.ended)]
def okE (e : El) : Bool := decide ((e.kd = 1 ∧ (0 ≤ e.src ∧ e.src < 8 ∧ 0 ≤ e.key ∧ e.key < 32) ∧ e.num = 0) ∨ (e.kd = 2 ∧ (e.src = 0 ∧ e.key = 0 ∧ e.val = 0) ∧ 0 < e.num ∧ e.num ≤ 4611686018427387904) ∨ (e.kd = 3 ∧ (e.src = 0 ∧ e.key = 0 ∧ e.val = 0) ∧ e.num = 0))
def okEs : List El → Bool
  | [] => true
  | e :: r => okE e && decide (e.kd = 3 → r = []) && okEs r
def okBs (last : Int) : Int → List El → Bool
  | _, [] => true
  | a, e :: r => if e.kd = 2 then decide (a < e.num ∧ e.num ≤ last) && okBs last e.num r else okBs last a r
def okQ (q : Qu) : Bool := decide (q.es.length ≤ 4 ∧ q.last ≤ 4611686018427387904 ∧ (q.ended = true → q.held = false ∧ q.es.length = 0)) && okEs q.es && okBs q.last 0 q.es
def anyH (qs : List Qu) : Bool := qs.any (fun q => q.held)
def allD (qs : List Qu) : Bool := qs.all (fun q => q.held || q.ended)
def allE (qs : List Qu) : Bool := qs.all (fun q => q.ended)
def okG (qs : List Qu) (n d : Int) : Bool := decide ((1 ≤ qs.length ∧ qs.length ≤ 16) ∧ n ≤ 4611686018427387904 ∧ d ≤ 4611686018427387904) && (anyH qs == decide (n > 0)) && qs.all okQ && (!anyH qs || (decide (d < n) && !allD qs))
theorem checkE_con (e : El) (hu : 0 ≤ e.num) : Con Try.prog 29 [.agg [.v (.int .i64 e.kd), .v (.int .i64 e.src), .v (.int .i64 e.key), .v (.int .i64 e.val), .v (.int .u64 e.num)]] (fun rx rK rt => rx = .val (.int .i64 (bif okE e then 0 else 151)) ∧ rK = [] ∧ rt = 0) := by
  refine Z.con_ofF tabOk 40 Try.f29 _ Try.func29 (by kernel_rfl) rfl rfl rfl rfl ?_
  repeat' ((conv => whnf); first
    | with_reducible first | refine spB_t ?_
    | ((with_reducible apply spB_cong); (focus (simp only [beq_self_eq_true, bne_self_eq_false, Bool.true_bne, Bool.false_bne, Bool.bne_true, Bool.bne_false, Bool.true_beq, Bool.false_beq, Bool.not_true, Bool.not_false, Bool.not_not, Int.reduceBEq, Int.reduceBNe, Int.reduceLE, Int.reduceLT, Int.reduceEq, decide_true, decide_false]; rfl)))
    | with_reducible first | refine spB_yes (by decide) ?_ | refine spB_no (by decide) ?_ | refine spB_f ?_ | refine spB_not ?_ | refine spB_yes (by assumption) ?_ | refine spB_no (by assumption) ?_
    | (with_reducible refine spB_dec ?_ ?_ <;> intro _ <;> (try (exfalso; first | contradiction | omega | (rename_i hz; with_reducible exact absurd rfl hz))))
    | (with_reducible refine spB_beq ?_ ?_ <;> intro _ <;> (try (exfalso; first | contradiction | omega | (rename_i hz; with_reducible exact absurd rfl hz))))
    | (with_reducible refine spB_bne ?_ ?_ <;> intro _ <;> (try (exfalso; first | contradiction | omega | (rename_i hz; with_reducible exact absurd rfl hz))))
    | (with_reducible refine spB_mk ?_ ?_ <;> intro _ <;> (try (exfalso; first | contradiction | omega | (rename_i hz; with_reducible exact absurd rfl hz))))
    | ((with_reducible apply rowN_mk); (focus rfl))
    | ((with_reducible apply ixN_lit); (focus (exact rfl)); (focus (exact rfl)))
    | ((with_reducible apply ixN_litp); (focus (exact rfl)); (focus ((try simp only [LN] at *) <;> omega)))
    | ((with_reducible refine eqN_mk2 ?_ ?_); (focus rfl))
    | with_reducible refine wr_i64 (by first | omega | (simp only [LN] at *; omega)) ?_
    | with_reducible refine wr_u64 (by omega) ?_
    | with_reducible first | refine wr_mk _ rfl ?_
    | ((with_reducible refine ixN_nat ?_ ?_); (focus ((try simp only [LN] at *) <;> omega)))
    | ((with_reducible refine rowN_map ?_ ?_); (focus ((try simp only [LN] at *) <;> omega)); intro x hx)
    | with_reducible refine eqN_dec (by omega) ?_
    | with_reducible first | refine apN_mk (by kernel_rfl) ?_ | refine Z.callZ_in tabOk 21 Try.f46 _ Try.func46 (by kernel_rfl) rfl rfl rfl ?_
    | ((with_reducible refine eqN_mk2 ?_ ?_); (focus (exact Z.kb_some rfl)))
    | ((with_reducible apply ex_and); exact rfl))
  all_goals (try (conv => whnf))
  all_goals first
    | ((first | (with_reducible apply Z.retF1) | (with_reducible apply Z.retF2) | (with_reducible apply Z.retF0)); (focus (exact rfl)); (repeat' (first | exact trivial | (with_reducible apply Z.frz_one) | (with_reducible apply Z.frz_agg) | (with_reducible apply Z.fq_int) | (with_reducible apply Z.fq_bool) | (exact Z.frz_nil) | (exact Z.frz_osl0 rfl rfl rfl) | (with_reducible apply Z.fq_nil) | (with_reducible apply Z.fq_ro) | ((with_reducible apply Z.fq_gsl); (focus (first | rfl | exact Z.isB_map _ | exact Z.gB_snoc.symm)); (focus (exact fun _ => rfl))) | ((with_reducible apply Z.fq_osl); (focus (exact rfl)); (focus (first | exact rfl | (simp only [List.length_map, Nat.zero_add]; done) | ((try simp only [LN] at *) <;> omega))); (focus (exact fun _ => rfl))) | ((with_reducible apply Z.fq_src); (focus (exact rfl)); (focus (first | exact rfl | (simp only [List.length_map, Nat.zero_add]; done) | ((try simp only [LN] at *) <;> omega))); (focus (exact fun _ => rfl))) | exact rfl | ((apply Z.fq_osl); (focus (exact rfl)); (focus (first | exact rfl | (simp only [List.length_map, Nat.zero_add]; done) | ((try simp only [LN] at *) <;> omega))); (focus (exact fun _ => rfl))) | ((apply Z.fq_src); (focus (exact rfl)); (focus (first | exact rfl | (simp only [List.length_map, Nat.zero_add]; done) | ((try simp only [LN] at *) <;> omega))); (focus (exact fun _ => rfl))) | (apply Z.fq_ro) | (apply Z.fq_int) | (apply Z.fq_bool) | apply And.intro)); (all_goals (try exact (fun _ => none))); all_goals (first | (rw [show okE e = true by (unfold okE; (try simp only [Bool.and_eq_true, Bool.and_eq_false_iff, Bool.and_true, beq_iff_eq, beq_eq_false_iff_ne, bne_iff_ne, Bool.not_eq_true, Bool.not_eq_false, ne_eq, Bool.false_eq_true, or_false] at *); first | exact decide_eq_true (by omega) | exact decide_eq_false (by omega))]; rfl) | (rw [show okE e = false by (unfold okE; (try simp only [Bool.and_eq_true, Bool.and_eq_false_iff, Bool.and_true, beq_iff_eq, beq_eq_false_iff_ne, bne_iff_ne, Bool.not_eq_true, Bool.not_eq_false, ne_eq, Bool.false_eq_true, or_false] at *); first | exact decide_eq_true (by omega) | exact decide_eq_false (by omega))]; rfl)))
    | (fail)

end Go.Proofs.Ytakfkbciijahgaa
namespace Go.Proofs.Ytakfkbciijahgaa
open Go Go.RowKit Wx
set_option linter.unusedVariables false
set_option linter.unusedSimpArgs false
set_option maxHeartbeats 4000000
theorem okEs_at {l : List El} {i : Nat} {x : El} (h : l[i]? = some x) : okEs (l.drop i) = (okE x && decide (x.kd = 3 → l.length ≤ i + 1) && okEs (l.drop (i + 1))) := by
  rw [drop_cons h, okEs]
  congr 2
  have hl := (List.getElem?_eq_some_iff.1 h).1
  refine decide_eq_decide.2 ⟨fun h1 h2 => ?_, fun h1 h2 => ?_⟩
  · have := h1 h2
    have h3 : (l.drop (i + 1)).length = 0 := by rw [this]; rfl
    simp at h3; omega
  · exact List.drop_eq_nil_of_le (h1 h2)
theorem okBs_at {l : List El} {i : Nat} {x : El} {last a : Int} (h : l[i]? = some x) : okBs last a (l.drop i) = if x.kd = 2 then decide (a < x.num ∧ x.num ≤ last) && okBs last x.num (l.drop (i + 1)) else okBs last a (l.drop (i + 1)) := by
  rw [drop_cons h, okBs]
theorem mayQ_con (q : Qu) (hl : q.es.length ≤ 9223372036854775807) (hu : ∀ e ∈ q.es, 0 ≤ e.num) : Con Try.prog 50 [.agg [.ro false 5 (q.es.map eE), .v (.int .u64 q.last), .v (.bool q.held), .v (.bool q.ended)]] (fun rx rK rt => rx = .val (.bool (okQ q)) ∧ rK = [] ∧ rt = 0) := by
  refine Z.con_ofF tabOk 68 Try.f50 _ Try.func50 (by kernel_rfl) rfl rfl rfl rfl ?_
  repeat' ((conv => whnf); first
    | with_reducible first | refine spB_t ?_
    | ((with_reducible apply spB_cong); (focus (simp only [beq_self_eq_true, bne_self_eq_false, Bool.true_bne, Bool.false_bne, Bool.bne_true, Bool.bne_false, Bool.true_beq, Bool.false_beq, Bool.not_true, Bool.not_false, Bool.not_not, Int.reduceBEq, Int.reduceBNe, Int.reduceLE, Int.reduceLT, Int.reduceEq, decide_true, decide_false]; rfl)))
    | with_reducible first | refine spB_yes (by decide) ?_ | refine spB_no (by decide) ?_ | refine spB_f ?_ | refine spB_not ?_ | refine spB_yes (by assumption) ?_ | refine spB_no (by assumption) ?_
    | (with_reducible refine spB_dec ?_ ?_ <;> intro _ <;> (try (exfalso; first | contradiction | omega | (rename_i hz; with_reducible exact absurd rfl hz))))
    | (with_reducible refine spB_beq ?_ ?_ <;> intro _ <;> (try (exfalso; first | contradiction | omega | (rename_i hz; with_reducible exact absurd rfl hz))))
    | (with_reducible refine spB_bne ?_ ?_ <;> intro _ <;> (try (exfalso; first | contradiction | omega | (rename_i hz; with_reducible exact absurd rfl hz))))
    | (with_reducible refine spB_mk ?_ ?_ <;> intro _ <;> (try (exfalso; first | contradiction | omega | (rename_i hz; with_reducible exact absurd rfl hz))))
    | ((with_reducible apply rowN_mk); (focus rfl))
    | ((with_reducible apply ixN_lit); (focus (exact rfl)); (focus (exact rfl)))
    | ((with_reducible apply ixN_litp); (focus (exact rfl)); (focus ((try simp only [LN] at *) <;> omega)))
    | ((with_reducible refine eqN_mk2 ?_ ?_); (focus rfl))
    | with_reducible refine wr_i64 (by first | omega | (simp only [LN] at *; omega)) ?_
    | with_reducible refine wr_u64 (by omega) ?_
    | with_reducible refine wr_u8 (by omega) ?_
    | with_reducible refine wr_u32 (by omega) ?_
    | with_reducible first | refine wr_mk _ rfl ?_
    | ((with_reducible refine ixN_nat ?_ ?_); (focus ((try simp only [LN] at *) <;> omega)))
    | ((with_reducible refine rowN_map ?_ ?_); (focus ((try simp only [LN] at *) <;> omega)); intro x hx)
    | with_reducible refine eqN_dec (by omega) ?_
    | with_reducible first | refine apN_mk (by kernel_rfl) ?_ | refine Z.callZ_in tabOk 4 Try.f54 _ Try.func54 (by kernel_rfl) rfl rfl rfl ?_ | refine Z.callZ_in tabOk 23 Try.f55 _ Try.func55 (by kernel_rfl) rfl rfl rfl ?_
    | ((first | (with_reducible apply Z.conZ_mz ?_ (checkE_con _ ?_) ?_) | (with_reducible apply Z.callZ_mk ?_ (checkE_con _ ?_) ?_)); (rotate_left 1); (focus ((repeat' (first | exact trivial | exact rfl | exact Z.low_nil | exact Z.low_nil2 | exact low_osl (fun _ => rfl) | (refine Z.low_osln ?_ (fun _ => rfl); (simp only [List.length_map]; done)) | exact low_oslr (fun _ => rfl) | exact Z.low_gslm (by first | rfl | exact Z.kb_some rfl) (fun _ => rfl) | exact .inl rfl | exact .inr ⟨_, rfl⟩ | apply And.intro)); done)); (iterate 1 (focus (first | assumption | omega | ((try simp only [LN] at *); omega)))))
    | ((with_reducible refine eqN_mk2 ?_ ?_); (focus (exact Z.kb_some rfl)))
    | ((with_reducible apply ex_and); exact rfl)
    | ((with_reducible refine Z.rngN.mk ?_); (try subst hlb))
    | ((with_reducible refine Z.CallZ.yl ?_); refine Z.yield_rule tabOk _ _ rfl rfl rfl rfl ?_)
    | ((with_reducible refine Z.CallZ.yl ?_); subst hlb; refine Z.yield_rule tabOk _ _ rfl rfl rfl rfl ?_)
    | ((with_reducible refine Z.RangeZ.red ?_); (refine Z.range_rule [(1, _), (2, _), (5, _), (56, _)] rfl ⟨rfl, rfl, rfl, rfl, trivial⟩ rfl rfl ?_); intro lb hlb))
  all_goals (try (conv => whnf))
  all_goals try ((first | (with_reducible apply Z.retF1) | (with_reducible apply Z.retF2) | (with_reducible apply Z.retF0)); (focus (exact rfl)); (repeat' (first | exact trivial | (with_reducible apply Z.frz_one) | (with_reducible apply Z.frz_agg) | (with_reducible apply Z.fq_int) | (with_reducible apply Z.fq_bool) | (exact Z.frz_nil) | (exact Z.frz_osl0 rfl rfl rfl) | (with_reducible apply Z.fq_nil) | (with_reducible apply Z.fq_ro) | ((with_reducible apply Z.fq_gsl); (focus (first | rfl | exact Z.isB_map _ | exact Z.gB_snoc.symm)); (focus (exact fun _ => rfl))) | ((with_reducible apply Z.fq_osl); (focus (exact rfl)); (focus (first | exact rfl | (simp only [List.length_map, Nat.zero_add]; done) | ((try simp only [LN] at *) <;> omega))); (focus (exact fun _ => rfl))) | ((with_reducible apply Z.fq_src); (focus (exact rfl)); (focus (first | exact rfl | (simp only [List.length_map, Nat.zero_add]; done) | ((try simp only [LN] at *) <;> omega))); (focus (exact fun _ => rfl))) | exact rfl | ((apply Z.fq_osl); (focus (exact rfl)); (focus (first | exact rfl | (simp only [List.length_map, Nat.zero_add]; done) | ((try simp only [LN] at *) <;> omega))); (focus (exact fun _ => rfl))) | ((apply Z.fq_src); (focus (exact rfl)); (focus (first | exact rfl | (simp only [List.length_map, Nat.zero_add]; done) | ((try simp only [LN] at *) <;> omega))); (focus (exact fun _ => rfl))) | (apply Z.fq_ro) | (apply Z.fq_int) | (apply Z.fq_bool) | apply And.intro)); (all_goals (try exact (fun _ => none))); all_goals (unfold okQ; rw [decide_eq_false (p := q.es.length ≤ 4 ∧ _) (by (try simp only [LN] at *); rintro ⟨h1, h2, h3⟩; first | omega | (have h4 := h3 (by assumption); first | omega | (simp_all; done)))]; rfl))
  all_goals (
    have hpre : okQ q = (okEs q.es && okBs q.last 0 q.es) := by
      unfold okQ; rw [decide_eq_true (by (try simp only [LN] at *); refine ⟨by omega, by omega, fun h => ?_⟩; first | (simp_all; done) | (exact ⟨by simp_all, by omega⟩) | (exfalso; simp_all; done)), Bool.true_and]
    refine Z.loopK tabOk (fun zq : Nat => [(33, .val (.int .i64 (zq : Int)))]) (fun zq : Nat => ([] : Z.Kr)) (fun zq => zq ≤ q.es.length ∧ okEs q.es = okEs (q.es.drop zq)) (fun zq => q.es.length - zq) 0 2 [(1, _), (2, _), (31, _), (32, _)] ⟨rfl, rfl, rfl, rfl, trivial⟩ [(0, some _), (1, some _)] ⟨rfl, rfl, trivial⟩ ?_ ?_ rfl rfl ⟨Nat.zero_le _, rfl⟩ ?_
    · repeat' (first | exact trivial | apply And.intro | exact ⟨_, rfl, rfl⟩ | exact ⟨_, rfl, Z.Imp.refl _⟩ | exact ⟨_, rfl, Z.Imp.nilg _⟩ | exact ⟨_, rfl, Z.Imp.nilr _ _⟩)
    · repeat' (first | exact trivial | (intro b hb; cases hb; done) | exact (fun b hb => ⟨b, hb, Z.ImpO.refl b⟩) | (intro b hb; cases hb; refine ⟨_, rfl, ⟨rfl, rfl, rfl⟩, ?_⟩; (repeat' (first | exact trivial | apply And.intro | exact Z.Imp.refl _ | exact Z.Imp.nilg _ | exact Z.Imp.nilr _ _)); done) | apply And.intro)
    rintro i HINV
    dsimp only at HINV ⊢
    obtain ⟨HI, HO⟩ := HINV
    repeat' ((conv => whnf); first
      | with_reducible first | refine spB_t ?_
      | ((with_reducible apply spB_cong); (focus (simp only [beq_self_eq_true, bne_self_eq_false, Bool.true_bne, Bool.false_bne, Bool.bne_true, Bool.bne_false, Bool.true_beq, Bool.false_beq, Bool.not_true, Bool.not_false, Bool.not_not, Int.reduceBEq, Int.reduceBNe, Int.reduceLE, Int.reduceLT, Int.reduceEq, decide_true, decide_false]; rfl)))
      | with_reducible first | refine spB_yes (by decide) ?_ | refine spB_no (by decide) ?_ | refine spB_f ?_ | refine spB_not ?_ | refine spB_yes (by assumption) ?_ | refine spB_no (by assumption) ?_
      | (with_reducible refine spB_dec ?_ ?_ <;> intro _ <;> (try (exfalso; first | contradiction | omega | (rename_i hz; with_reducible exact absurd rfl hz))))
      | (with_reducible refine spB_beq ?_ ?_ <;> intro _ <;> (try (exfalso; first | contradiction | omega | (rename_i hz; with_reducible exact absurd rfl hz))))
      | (with_reducible refine spB_bne ?_ ?_ <;> intro _ <;> (try (exfalso; first | contradiction | omega | (rename_i hz; with_reducible exact absurd rfl hz))))
      | (with_reducible refine spB_mk ?_ ?_ <;> intro _ <;> (try (exfalso; first | contradiction | omega | (rename_i hz; with_reducible exact absurd rfl hz))))
      | ((with_reducible apply rowN_mk); (focus rfl))
      | ((with_reducible apply ixN_lit); (focus (exact rfl)); (focus (exact rfl)))
      | ((with_reducible apply ixN_litp); (focus (exact rfl)); (focus ((try simp only [LN] at *) <;> omega)))
      | ((with_reducible refine eqN_mk2 ?_ ?_); (focus rfl))
      | with_reducible refine wr_i64 (by first | omega | (simp only [LN] at *; omega)) ?_
      | with_reducible refine wr_u64 (by omega) ?_
      | with_reducible refine wr_u8 (by omega) ?_
      | with_reducible refine wr_u32 (by omega) ?_
      | with_reducible first | refine wr_mk _ rfl ?_
      | ((with_reducible refine ixN_nat ?_ ?_); (focus ((try simp only [LN] at *) <;> omega)))
      | ((with_reducible refine rowN_map ?_ ?_); (focus ((try simp only [LN] at *) <;> omega)); intro x hx; have hux := hu _ (List.mem_of_getElem? hx))
      | with_reducible refine eqN_dec (by omega) ?_
      | with_reducible first | refine apN_mk (by kernel_rfl) ?_ | refine Z.callZ_in tabOk 4 Try.f54 _ Try.func54 (by kernel_rfl) rfl rfl rfl ?_ | refine Z.callZ_in tabOk 23 Try.f55 _ Try.func55 (by kernel_rfl) rfl rfl rfl ?_
      | ((first | (with_reducible apply Z.conZ_mz ?_ (checkE_con _ ?_) ?_) | (with_reducible apply Z.callZ_mk ?_ (checkE_con _ ?_) ?_)); (rotate_left 1); (focus ((repeat' (first | exact trivial | exact rfl | exact Z.low_nil | exact Z.low_nil2 | exact low_osl (fun _ => rfl) | (refine Z.low_osln ?_ (fun _ => rfl); (simp only [List.length_map]; done)) | exact low_oslr (fun _ => rfl) | exact Z.low_gslm (by first | rfl | exact Z.kb_some rfl) (fun _ => rfl) | exact .inl rfl | exact .inr ⟨_, rfl⟩ | apply And.intro)); done)); (iterate 1 (focus (first | assumption | omega | ((try simp only [LN] at *); omega)))))
      | ((with_reducible refine eqN_mk2 ?_ ?_); (focus (exact Z.kb_some rfl)))
      | ((with_reducible apply ex_and); exact rfl)
      | ((with_reducible refine Z.rngN.mk ?_); (try subst hlb))
      | ((with_reducible refine Z.CallZ.yl ?_); refine Z.yield_rule tabOk _ _ rfl rfl rfl rfl ?_)
      | ((with_reducible refine Z.CallZ.yl ?_); subst hlb; refine Z.yield_rule tabOk _ _ rfl rfl rfl rfl ?_)
      | ((with_reducible refine Z.RangeZ.red ?_); (refine Z.range_rule [(1, _), (2, _), (5, _), (56, _)] rfl ⟨rfl, rfl, rfl, rfl, trivial⟩ rfl rfl ?_); intro lb hlb))
    all_goals (try (conv => whnf))
    all_goals try ((refine Z.rndK (i + 1) (fun s => [0, 1]) rfl rfl rfl rfl ?_ ?_ ?_ ?_); (focus (repeat' (first | exact trivial | exact rfl | (rw [List.map_append]; exact rfl) | apply And.intro))); (focus (repeat' (first | exact trivial | (intro b hb; cases hb; rfl) | (intro b hb; cases hb; subst hlb; rfl) | (intro b hb; cases hb; rw [List.map_append]; rfl) | (intro b hb; cases hb; done) | exact Z.blk_sub rfl rfl (ren_map fun _ => rfl) | exact Z.blk_sub rfl rfl (Z.ren_app (ren_map fun _ => rfl) (ren_map fun _ => rfl)) | exact Z.blk_sub rfl (by first | (rw [List.map_append]; rfl) | (rw [List.map_set]; rfl) | simp only [List.map_append, List.map_cons, List.map_nil, List.map_set]) (ren_map fun _ => rfl) | exact Z.gB_sub rfl rfl (ren_map fun _ => rfl) | exact Z.gB_sub' rfl (by first | rfl | (rw [List.map_append]; rfl) | simp only [List.map_append, List.map_cons, List.map_nil]) (ren_map fun _ => rfl) | apply And.intro))); (focus (refine ⟨by (try simp only [LN] at *) <;> omega, ?_⟩; (try dsimp only); rw [HO, okEs_at hx]; cases ho : okE x; (focus (exfalso; simp_all; done)); rw [decide_eq_true (fun h9 : x.kd = 3 => by ((try simp only [LN] at *) <;> omega)), Bool.true_and, Bool.true_and])); (try simp only [LN] at *); (try dsimp only); omega)
    all_goals try ((first | (with_reducible apply Z.retF1) | (with_reducible apply Z.retF2) | (with_reducible apply Z.retF0)); (focus (exact rfl)); (repeat' (first | exact trivial | (with_reducible apply Z.frz_one) | (with_reducible apply Z.frz_agg) | (with_reducible apply Z.fq_int) | (with_reducible apply Z.fq_bool) | (exact Z.frz_nil) | (exact Z.frz_osl0 rfl rfl rfl) | (with_reducible apply Z.fq_nil) | (with_reducible apply Z.fq_ro) | ((with_reducible apply Z.fq_gsl); (focus (first | rfl | exact Z.isB_map _ | exact Z.gB_snoc.symm)); (focus (exact fun _ => rfl))) | ((with_reducible apply Z.fq_osl); (focus (exact rfl)); (focus (first | exact rfl | (simp only [List.length_map, Nat.zero_add]; done) | ((try simp only [LN] at *) <;> omega))); (focus (exact fun _ => rfl))) | ((with_reducible apply Z.fq_src); (focus (exact rfl)); (focus (first | exact rfl | (simp only [List.length_map, Nat.zero_add]; done) | ((try simp only [LN] at *) <;> omega))); (focus (exact fun _ => rfl))) | exact rfl | ((apply Z.fq_osl); (focus (exact rfl)); (focus (first | exact rfl | (simp only [List.length_map, Nat.zero_add]; done) | ((try simp only [LN] at *) <;> omega))); (focus (exact fun _ => rfl))) | ((apply Z.fq_src); (focus (exact rfl)); (focus (first | exact rfl | (simp only [List.length_map, Nat.zero_add]; done) | ((try simp only [LN] at *) <;> omega))); (focus (exact fun _ => rfl))) | (apply Z.fq_ro) | (apply Z.fq_int) | (apply Z.fq_bool) | apply And.intro)); (all_goals (try exact (fun _ => none))); all_goals ((rw [hpre, HO, okEs_at hx]; cases ho : okE x; all_goals first | rfl | (exfalso; simp_all; done) | (simp only [LN] at *; rw [decide_eq_false (fun h9 => absurd (h9 (by assumption)) (by omega))]; rfl))))
    have hes : okEs q.es = true := by rw [HO, drop_end (by (try simp only [LN] at *) <;> omega)]; rfl
    rw [hes, Bool.true_and] at hpre
    refine Z.loopK tabOk (fun zq : Nat × Int => [(8, .val (.int .i64 (zq.1 : Int)))]) (fun zq : Nat × Int => ([(2, some (.b ⟨[[.v (.int .u64 zq.2)]], 1, 23, true⟩))] : Z.Kr)) (fun zq => zq.1 ≤ q.es.length ∧ okBs q.last 0 q.es = okBs q.last zq.2 (q.es.drop zq.1)) (fun zq => q.es.length - zq.1) (0, 0) 5 [(0, _), (6, _), (7, _)] ⟨rfl, rfl, rfl, trivial⟩ [(0, some _), (1, some _), (3, some _), (4, some _)] ⟨rfl, rfl, rfl, rfl, trivial⟩ ?_ ?_ rfl rfl ⟨Nat.zero_le _, rfl⟩ ?_
    · repeat' (first | exact trivial | apply And.intro | exact ⟨_, rfl, rfl⟩ | exact ⟨_, rfl, Z.Imp.refl _⟩ | exact ⟨_, rfl, Z.Imp.nilg _⟩ | exact ⟨_, rfl, Z.Imp.nilr _ _⟩)
    · repeat' (first | exact trivial | (intro b hb; cases hb; done) | exact (fun b hb => ⟨b, hb, Z.ImpO.refl b⟩) | (intro b hb; cases hb; refine ⟨_, rfl, ⟨rfl, rfl, rfl⟩, ?_⟩; (repeat' (first | exact trivial | apply And.intro | exact Z.Imp.refl _ | exact Z.Imp.nilg _ | exact Z.Imp.nilr _ _)); done) | apply And.intro)
    rintro ⟨j, a⟩ HINV
    dsimp only at HINV ⊢
    obtain ⟨HJ, HB⟩ := HINV
    repeat' ((conv => whnf); first
      | with_reducible first | refine spB_t ?_
      | ((with_reducible apply spB_cong); (focus (simp only [beq_self_eq_true, bne_self_eq_false, Bool.true_bne, Bool.false_bne, Bool.bne_true, Bool.bne_false, Bool.true_beq, Bool.false_beq, Bool.not_true, Bool.not_false, Bool.not_not, Int.reduceBEq, Int.reduceBNe, Int.reduceLE, Int.reduceLT, Int.reduceEq, decide_true, decide_false]; rfl)))
      | with_reducible first | refine spB_yes (by decide) ?_ | refine spB_no (by decide) ?_ | refine spB_f ?_ | refine spB_not ?_ | refine spB_yes (by assumption) ?_ | refine spB_no (by assumption) ?_
      | (with_reducible refine spB_dec ?_ ?_ <;> intro _ <;> (try (exfalso; first | contradiction | omega | (rename_i hz; with_reducible exact absurd rfl hz))))
      | (with_reducible refine spB_beq ?_ ?_ <;> intro _ <;> (try (exfalso; first | contradiction | omega | (rename_i hz; with_reducible exact absurd rfl hz))))
      | (with_reducible refine spB_bne ?_ ?_ <;> intro _ <;> (try (exfalso; first | contradiction | omega | (rename_i hz; with_reducible exact absurd rfl hz))))
      | (with_reducible refine spB_mk ?_ ?_ <;> intro _ <;> (try (exfalso; first | contradiction | omega | (rename_i hz; with_reducible exact absurd rfl hz))))
      | ((with_reducible apply rowN_mk); (focus rfl))
      | ((with_reducible apply ixN_lit); (focus (exact rfl)); (focus (exact rfl)))
      | ((with_reducible apply ixN_litp); (focus (exact rfl)); (focus ((try simp only [LN] at *) <;> omega)))
      | ((with_reducible refine eqN_mk2 ?_ ?_); (focus rfl))
      | with_reducible refine wr_i64 (by first | omega | (simp only [LN] at *; omega)) ?_
      | with_reducible refine wr_u64 (by omega) ?_
      | with_reducible refine wr_u8 (by omega) ?_
      | with_reducible refine wr_u32 (by omega) ?_
      | with_reducible first | refine wr_mk _ rfl ?_
      | ((with_reducible refine ixN_nat ?_ ?_); (focus ((try simp only [LN] at *) <;> omega)))
      | ((with_reducible refine rowN_map ?_ ?_); (focus ((try simp only [LN] at *) <;> omega)); intro x hx)
      | with_reducible refine eqN_dec (by omega) ?_
      | with_reducible first | refine apN_mk (by kernel_rfl) ?_ | refine Z.callZ_in tabOk 4 Try.f54 _ Try.func54 (by kernel_rfl) rfl rfl rfl ?_ | refine Z.callZ_in tabOk 23 Try.f55 _ Try.func55 (by kernel_rfl) rfl rfl rfl ?_
      | ((first | (with_reducible apply Z.conZ_mz ?_ (checkE_con _ ?_) ?_) | (with_reducible apply Z.callZ_mk ?_ (checkE_con _ ?_) ?_)); (rotate_left 1); (focus ((repeat' (first | exact trivial | exact rfl | exact Z.low_nil | exact Z.low_nil2 | exact low_osl (fun _ => rfl) | (refine Z.low_osln ?_ (fun _ => rfl); (simp only [List.length_map]; done)) | exact low_oslr (fun _ => rfl) | exact Z.low_gslm (by first | rfl | exact Z.kb_some rfl) (fun _ => rfl) | exact .inl rfl | exact .inr ⟨_, rfl⟩ | apply And.intro)); done)); (iterate 1 (focus (first | assumption | omega | ((try simp only [LN] at *); omega)))))
      | ((with_reducible refine eqN_mk2 ?_ ?_); (focus (exact Z.kb_some rfl)))
      | ((with_reducible apply ex_and); exact rfl)
      | ((with_reducible refine Z.rngN.mk ?_); (try subst hlb))
      | ((with_reducible refine Z.CallZ.yl ?_); refine Z.yield_rule tabOk _ _ rfl rfl rfl rfl ?_)
      | ((with_reducible refine Z.CallZ.yl ?_); subst hlb; refine Z.yield_rule tabOk _ _ rfl rfl rfl rfl ?_)
      | ((with_reducible refine Z.RangeZ.red ?_); (refine Z.range_rule [(1, _), (2, _), (5, _), (56, _)] rfl ⟨rfl, rfl, rfl, rfl, trivial⟩ rfl rfl ?_); intro lb hlb))
    all_goals (try (conv => whnf))
    all_goals first
      | ((refine Z.rndK ((j + 1, x.num)) (fun s => [0, 1, 2, 3, 4]) rfl rfl rfl rfl ?_ ?_ ?_ ?_); (focus (repeat' (first | exact trivial | exact rfl | (rw [List.map_append]; exact rfl) | apply And.intro))); (focus (repeat' (first | exact trivial | (intro b hb; cases hb; rfl) | (intro b hb; cases hb; subst hlb; rfl) | (intro b hb; cases hb; rw [List.map_append]; rfl) | (intro b hb; cases hb; done) | exact Z.blk_sub rfl rfl (ren_map fun _ => rfl) | exact Z.blk_sub rfl rfl (Z.ren_app (ren_map fun _ => rfl) (ren_map fun _ => rfl)) | exact Z.blk_sub rfl (by first | (rw [List.map_append]; rfl) | (rw [List.map_set]; rfl) | simp only [List.map_append, List.map_cons, List.map_nil, List.map_set]) (ren_map fun _ => rfl) | exact Z.gB_sub rfl rfl (ren_map fun _ => rfl) | exact Z.gB_sub' rfl (by first | rfl | (rw [List.map_append]; rfl) | simp only [List.map_append, List.map_cons, List.map_nil]) (ren_map fun _ => rfl) | apply And.intro))); (focus (refine ⟨by (try simp only [LN] at *) <;> omega, ?_⟩; (try dsimp only); rw [HB, okBs_at hx, if_pos (by assumption), decide_eq_true (by omega), Bool.true_and])); (try simp only [LN] at *); (try dsimp only); omega)
      | ((refine Z.rndK ((j + 1, a)) (fun s => [0, 1, 2, 3, 4]) rfl rfl rfl rfl ?_ ?_ ?_ ?_); (focus (repeat' (first | exact trivial | exact rfl | (rw [List.map_append]; exact rfl) | apply And.intro))); (focus (repeat' (first | exact trivial | (intro b hb; cases hb; rfl) | (intro b hb; cases hb; subst hlb; rfl) | (intro b hb; cases hb; rw [List.map_append]; rfl) | (intro b hb; cases hb; done) | exact Z.blk_sub rfl rfl (ren_map fun _ => rfl) | exact Z.blk_sub rfl rfl (Z.ren_app (ren_map fun _ => rfl) (ren_map fun _ => rfl)) | exact Z.blk_sub rfl (by first | (rw [List.map_append]; rfl) | (rw [List.map_set]; rfl) | simp only [List.map_append, List.map_cons, List.map_nil, List.map_set]) (ren_map fun _ => rfl) | exact Z.gB_sub rfl rfl (ren_map fun _ => rfl) | exact Z.gB_sub' rfl (by first | rfl | (rw [List.map_append]; rfl) | simp only [List.map_append, List.map_cons, List.map_nil]) (ren_map fun _ => rfl) | apply And.intro))); (focus (refine ⟨by (try simp only [LN] at *) <;> omega, ?_⟩; (try dsimp only); rw [HB, okBs_at hx, if_neg (by assumption)])); (try simp only [LN] at *); (try dsimp only); omega)
      | ((first | (with_reducible apply Z.retF1) | (with_reducible apply Z.retF2) | (with_reducible apply Z.retF0)); (focus (exact rfl)); (repeat' (first | exact trivial | (with_reducible apply Z.frz_one) | (with_reducible apply Z.frz_agg) | (with_reducible apply Z.fq_int) | (with_reducible apply Z.fq_bool) | (exact Z.frz_nil) | (exact Z.frz_osl0 rfl rfl rfl) | (with_reducible apply Z.fq_nil) | (with_reducible apply Z.fq_ro) | ((with_reducible apply Z.fq_gsl); (focus (first | rfl | exact Z.isB_map _ | exact Z.gB_snoc.symm)); (focus (exact fun _ => rfl))) | ((with_reducible apply Z.fq_osl); (focus (exact rfl)); (focus (first | exact rfl | (simp only [List.length_map, Nat.zero_add]; done) | ((try simp only [LN] at *) <;> omega))); (focus (exact fun _ => rfl))) | ((with_reducible apply Z.fq_src); (focus (exact rfl)); (focus (first | exact rfl | (simp only [List.length_map, Nat.zero_add]; done) | ((try simp only [LN] at *) <;> omega))); (focus (exact fun _ => rfl))) | exact rfl | ((apply Z.fq_osl); (focus (exact rfl)); (focus (first | exact rfl | (simp only [List.length_map, Nat.zero_add]; done) | ((try simp only [LN] at *) <;> omega))); (focus (exact fun _ => rfl))) | ((apply Z.fq_src); (focus (exact rfl)); (focus (first | exact rfl | (simp only [List.length_map, Nat.zero_add]; done) | ((try simp only [LN] at *) <;> omega))); (focus (exact fun _ => rfl))) | (apply Z.fq_ro) | (apply Z.fq_int) | (apply Z.fq_bool) | apply And.intro)); (all_goals (try exact (fun _ => none))); all_goals (first | (rw [hpre, HB, okBs_at hx, if_pos (by assumption), decide_eq_false (p := a < x.num ∧ _) (by omega)]; rfl) | (rw [hpre, HB, drop_end (by (try simp only [LN] at *) <;> omega)]; rfl)))
      | (fail))

end Go.Proofs.Ytakfkbciijahgaa
namespace Go.Proofs.Ytakfkbciijahgaa
open Go Go.RowKit Wx
set_option linter.unusedVariables false
set_option linter.unusedSimpArgs false
set_option maxHeartbeats 4000000
theorem any_at {α : Type} {p : α → Bool} {l : List α} {i : Nat} {x : α} (h : l[i]? = some x) : (l.drop i).any p = (p x || (l.drop (i + 1)).any p) := by rw [drop_cons h]; rfl
theorem all_at {α : Type} {p : α → Bool} {l : List α} {i : Nat} {x : α} (h : l[i]? = some x) : (l.drop i).all p = (p x && (l.drop (i + 1)).all p) := by rw [drop_cons h]; rfl
end Go.Proofs.Ytakfkbciijahgaa
namespace Go.Proofs.Ytakfkbciijahgaa
open Go Go.RowKit Wx
set_option linter.unusedVariables false
set_option linter.unusedSimpArgs false
set_option maxHeartbeats 4000000
theorem held_con (q : Qu)  : Con Try.prog 49 [.agg [.ro false 5 (q.es.map eE), .v (.int .u64 q.last), .v (.bool q.held), .v (.bool q.ended)]] (fun rx rK rt => rx = .val (.bool q.held) ∧ rK = [] ∧ rt = 0) := by
  refine Z.con_ofF tabOk 5 Try.f49 _ Try.func49 (by kernel_rfl) rfl rfl rfl rfl ?_
  repeat' ((conv => whnf); first
    | with_reducible first | refine spB_t ?_
    | ((with_reducible apply spB_cong); (focus (simp only [beq_self_eq_true, bne_self_eq_false, Bool.true_bne, Bool.false_bne, Bool.bne_true, Bool.bne_false, Bool.true_beq, Bool.false_beq, Bool.not_true, Bool.not_false, Bool.not_not, Int.reduceBEq, Int.reduceBNe, Int.reduceLE, Int.reduceLT, Int.reduceEq, decide_true, decide_false]; rfl)))
    | with_reducible first | refine spB_yes (by decide) ?_ | refine spB_no (by decide) ?_ | refine spB_f ?_ | refine spB_not ?_ | refine spB_yes (by assumption) ?_ | refine spB_no (by assumption) ?_
    | (with_reducible refine spB_dec ?_ ?_ <;> intro _ <;> (try (exfalso; first | contradiction | omega | (rename_i hz; with_reducible exact absurd rfl hz))))
    | (with_reducible refine spB_beq ?_ ?_ <;> intro _ <;> (try (exfalso; first | contradiction | omega | (rename_i hz; with_reducible exact absurd rfl hz))))
    | (with_reducible refine spB_bne ?_ ?_ <;> intro _ <;> (try (exfalso; first | contradiction | omega | (rename_i hz; with_reducible exact absurd rfl hz))))
    | (with_reducible refine spB_mk ?_ ?_ <;> intro _ <;> (try (exfalso; first | contradiction | omega | (rename_i hz; with_reducible exact absurd rfl hz))))
    | ((with_reducible apply rowN_mk); (focus rfl))
    | ((with_reducible apply ixN_lit); (focus (exact rfl)); (focus (exact rfl)))
    | ((with_reducible apply ixN_litp); (focus (exact rfl)); (focus ((try simp only [LN] at *) <;> omega)))
    | ((with_reducible refine eqN_mk2 ?_ ?_); (focus rfl))
    | with_reducible refine wr_i64 (by first | omega | (simp only [LN] at *; omega)) ?_
    | with_reducible refine wr_u64 (by omega) ?_
    | with_reducible first | refine wr_mk _ rfl ?_
    | ((with_reducible refine ixN_nat ?_ ?_); (focus ((try simp only [LN] at *) <;> omega)))
    | ((with_reducible refine rowN_map ?_ ?_); (focus ((try simp only [LN] at *) <;> omega)); intro x hx)
    | with_reducible refine eqN_dec (by omega) ?_
    | with_reducible first | refine apN_mk (by kernel_rfl) ?_
    | ((with_reducible refine eqN_mk2 ?_ ?_); (focus (exact Z.kb_some rfl)))
    | ((with_reducible apply ex_and); exact rfl))
  all_goals (try (conv => whnf))
  all_goals first
    | ((first | (with_reducible apply Z.retF1) | (with_reducible apply Z.retF2) | (with_reducible apply Z.retF0)); (focus (exact rfl)); (repeat' (first | exact trivial | (with_reducible apply Z.frz_one) | (with_reducible apply Z.frz_agg) | (with_reducible apply Z.fq_int) | (with_reducible apply Z.fq_bool) | (exact Z.frz_nil) | (exact Z.frz_osl0 rfl rfl rfl) | (with_reducible apply Z.fq_nil) | (with_reducible apply Z.fq_ro) | ((with_reducible apply Z.fq_gsl); (focus (first | rfl | exact Z.isB_map _ | exact Z.gB_snoc.symm)); (focus (exact fun _ => rfl))) | ((with_reducible apply Z.fq_osl); (focus (exact rfl)); (focus (first | exact rfl | (simp only [List.length_map, Nat.zero_add]; done) | ((try simp only [LN] at *) <;> omega))); (focus (exact fun _ => rfl))) | ((with_reducible apply Z.fq_src); (focus (exact rfl)); (focus (first | exact rfl | (simp only [List.length_map, Nat.zero_add]; done) | ((try simp only [LN] at *) <;> omega))); (focus (exact fun _ => rfl))) | exact rfl | ((apply Z.fq_osl); (focus (exact rfl)); (focus (first | exact rfl | (simp only [List.length_map, Nat.zero_add]; done) | ((try simp only [LN] at *) <;> omega))); (focus (exact fun _ => rfl))) | ((apply Z.fq_src); (focus (exact rfl)); (focus (first | exact rfl | (simp only [List.length_map, Nat.zero_add]; done) | ((try simp only [LN] at *) <;> omega))); (focus (exact fun _ => rfl))) | (apply Z.fq_ro) | (apply Z.fq_int) | (apply Z.fq_bool) | apply And.intro)); (all_goals (try exact (fun _ => none))); all_goals (rfl))
    | (fail)

theorem ended_con (q : Qu)  : Con Try.prog 45 [.agg [.ro false 5 (q.es.map eE), .v (.int .u64 q.last), .v (.bool q.held), .v (.bool q.ended)]] (fun rx rK rt => rx = .val (.bool q.ended) ∧ rK = [] ∧ rt = 0) := by
  refine Z.con_ofF tabOk 5 Try.f45 _ Try.func45 (by kernel_rfl) rfl rfl rfl rfl ?_
  repeat' ((conv => whnf); first
    | with_reducible first | refine spB_t ?_
    | ((with_reducible apply spB_cong); (focus (simp only [beq_self_eq_true, bne_self_eq_false, Bool.true_bne, Bool.false_bne, Bool.bne_true, Bool.bne_false, Bool.true_beq, Bool.false_beq, Bool.not_true, Bool.not_false, Bool.not_not, Int.reduceBEq, Int.reduceBNe, Int.reduceLE, Int.reduceLT, Int.reduceEq, decide_true, decide_false]; rfl)))
    | with_reducible first | refine spB_yes (by decide) ?_ | refine spB_no (by decide) ?_ | refine spB_f ?_ | refine spB_not ?_ | refine spB_yes (by assumption) ?_ | refine spB_no (by assumption) ?_
    | (with_reducible refine spB_dec ?_ ?_ <;> intro _ <;> (try (exfalso; first | contradiction | omega | (rename_i hz; with_reducible exact absurd rfl hz))))
    | (with_reducible refine spB_beq ?_ ?_ <;> intro _ <;> (try (exfalso; first | contradiction | omega | (rename_i hz; with_reducible exact absurd rfl hz))))
    | (with_reducible refine spB_bne ?_ ?_ <;> intro _ <;> (try (exfalso; first | contradiction | omega | (rename_i hz; with_reducible exact absurd rfl hz))))
    | (with_reducible refine spB_mk ?_ ?_ <;> intro _ <;> (try (exfalso; first | contradiction | omega | (rename_i hz; with_reducible exact absurd rfl hz))))
    | ((with_reducible apply rowN_mk); (focus rfl))
    | ((with_reducible apply ixN_lit); (focus (exact rfl)); (focus (exact rfl)))
    | ((with_reducible apply ixN_litp); (focus (exact rfl)); (focus ((try simp only [LN] at *) <;> omega)))
    | ((with_reducible refine eqN_mk2 ?_ ?_); (focus rfl))
    | with_reducible refine wr_i64 (by first | omega | (simp only [LN] at *; omega)) ?_
    | with_reducible refine wr_u64 (by omega) ?_
    | with_reducible first | refine wr_mk _ rfl ?_
    | ((with_reducible refine ixN_nat ?_ ?_); (focus ((try simp only [LN] at *) <;> omega)))
    | ((with_reducible refine rowN_map ?_ ?_); (focus ((try simp only [LN] at *) <;> omega)); intro x hx)
    | with_reducible refine eqN_dec (by omega) ?_
    | with_reducible first | refine apN_mk (by kernel_rfl) ?_
    | ((with_reducible refine eqN_mk2 ?_ ?_); (focus (exact Z.kb_some rfl)))
    | ((with_reducible apply ex_and); exact rfl))
  all_goals (try (conv => whnf))
  all_goals first
    | ((first | (with_reducible apply Z.retF1) | (with_reducible apply Z.retF2) | (with_reducible apply Z.retF0)); (focus (exact rfl)); (repeat' (first | exact trivial | (with_reducible apply Z.frz_one) | (with_reducible apply Z.frz_agg) | (with_reducible apply Z.fq_int) | (with_reducible apply Z.fq_bool) | (exact Z.frz_nil) | (exact Z.frz_osl0 rfl rfl rfl) | (with_reducible apply Z.fq_nil) | (with_reducible apply Z.fq_ro) | ((with_reducible apply Z.fq_gsl); (focus (first | rfl | exact Z.isB_map _ | exact Z.gB_snoc.symm)); (focus (exact fun _ => rfl))) | ((with_reducible apply Z.fq_osl); (focus (exact rfl)); (focus (first | exact rfl | (simp only [List.length_map, Nat.zero_add]; done) | ((try simp only [LN] at *) <;> omega))); (focus (exact fun _ => rfl))) | ((with_reducible apply Z.fq_src); (focus (exact rfl)); (focus (first | exact rfl | (simp only [List.length_map, Nat.zero_add]; done) | ((try simp only [LN] at *) <;> omega))); (focus (exact fun _ => rfl))) | exact rfl | ((apply Z.fq_osl); (focus (exact rfl)); (focus (first | exact rfl | (simp only [List.length_map, Nat.zero_add]; done) | ((try simp only [LN] at *) <;> omega))); (focus (exact fun _ => rfl))) | ((apply Z.fq_src); (focus (exact rfl)); (focus (first | exact rfl | (simp only [List.length_map, Nat.zero_add]; done) | ((try simp only [LN] at *) <;> omega))); (focus (exact fun _ => rfl))) | (apply Z.fq_ro) | (apply Z.fq_int) | (apply Z.fq_bool) | apply And.intro)); (all_goals (try exact (fun _ => none))); all_goals (rfl))
    | (fail)

theorem done_con (q : Qu)  : Con Try.prog 51 [.agg [.ro false 5 (q.es.map eE), .v (.int .u64 q.last), .v (.bool q.held), .v (.bool q.ended)]] (fun rx rK rt => rx = .val (.bool (q.held || q.ended)) ∧ rK = [] ∧ rt = 0) := by
  refine Z.con_ofF tabOk 9 Try.f51 _ Try.func51 (by kernel_rfl) rfl rfl rfl rfl ?_
  repeat' ((conv => whnf); first
    | with_reducible first | refine spB_t ?_
    | ((with_reducible apply spB_cong); (focus (simp only [beq_self_eq_true, bne_self_eq_false, Bool.true_bne, Bool.false_bne, Bool.bne_true, Bool.bne_false, Bool.true_beq, Bool.false_beq, Bool.not_true, Bool.not_false, Bool.not_not, Int.reduceBEq, Int.reduceBNe, Int.reduceLE, Int.reduceLT, Int.reduceEq, decide_true, decide_false]; rfl)))
    | with_reducible first | refine spB_yes (by decide) ?_ | refine spB_no (by decide) ?_ | refine spB_f ?_ | refine spB_not ?_ | refine spB_yes (by assumption) ?_ | refine spB_no (by assumption) ?_
    | (with_reducible refine spB_dec ?_ ?_ <;> intro _ <;> (try (exfalso; first | contradiction | omega | (rename_i hz; with_reducible exact absurd rfl hz))))
    | (with_reducible refine spB_beq ?_ ?_ <;> intro _ <;> (try (exfalso; first | contradiction | omega | (rename_i hz; with_reducible exact absurd rfl hz))))
    | (with_reducible refine spB_bne ?_ ?_ <;> intro _ <;> (try (exfalso; first | contradiction | omega | (rename_i hz; with_reducible exact absurd rfl hz))))
    | (with_reducible refine spB_mk ?_ ?_ <;> intro _ <;> (try (exfalso; first | contradiction | omega | (rename_i hz; with_reducible exact absurd rfl hz))))
    | ((with_reducible apply rowN_mk); (focus rfl))
    | ((with_reducible apply ixN_lit); (focus (exact rfl)); (focus (exact rfl)))
    | ((with_reducible apply ixN_litp); (focus (exact rfl)); (focus ((try simp only [LN] at *) <;> omega)))
    | ((with_reducible refine eqN_mk2 ?_ ?_); (focus rfl))
    | with_reducible refine wr_i64 (by first | omega | (simp only [LN] at *; omega)) ?_
    | with_reducible refine wr_u64 (by omega) ?_
    | with_reducible first | refine wr_mk _ rfl ?_
    | ((with_reducible refine ixN_nat ?_ ?_); (focus ((try simp only [LN] at *) <;> omega)))
    | ((with_reducible refine rowN_map ?_ ?_); (focus ((try simp only [LN] at *) <;> omega)); intro x hx)
    | with_reducible refine eqN_dec (by omega) ?_
    | with_reducible first | refine apN_mk (by kernel_rfl) ?_
    | ((with_reducible refine eqN_mk2 ?_ ?_); (focus (exact Z.kb_some rfl)))
    | ((with_reducible apply ex_and); exact rfl))
  all_goals (try (conv => whnf))
  all_goals first
    | ((first | (with_reducible apply Z.retF1) | (with_reducible apply Z.retF2) | (with_reducible apply Z.retF0)); (focus (exact rfl)); (repeat' (first | exact trivial | (with_reducible apply Z.frz_one) | (with_reducible apply Z.frz_agg) | (with_reducible apply Z.fq_int) | (with_reducible apply Z.fq_bool) | (exact Z.frz_nil) | (exact Z.frz_osl0 rfl rfl rfl) | (with_reducible apply Z.fq_nil) | (with_reducible apply Z.fq_ro) | ((with_reducible apply Z.fq_gsl); (focus (first | rfl | exact Z.isB_map _ | exact Z.gB_snoc.symm)); (focus (exact fun _ => rfl))) | ((with_reducible apply Z.fq_osl); (focus (exact rfl)); (focus (first | exact rfl | (simp only [List.length_map, Nat.zero_add]; done) | ((try simp only [LN] at *) <;> omega))); (focus (exact fun _ => rfl))) | ((with_reducible apply Z.fq_src); (focus (exact rfl)); (focus (first | exact rfl | (simp only [List.length_map, Nat.zero_add]; done) | ((try simp only [LN] at *) <;> omega))); (focus (exact fun _ => rfl))) | exact rfl | ((apply Z.fq_osl); (focus (exact rfl)); (focus (first | exact rfl | (simp only [List.length_map, Nat.zero_add]; done) | ((try simp only [LN] at *) <;> omega))); (focus (exact fun _ => rfl))) | ((apply Z.fq_src); (focus (exact rfl)); (focus (first | exact rfl | (simp only [List.length_map, Nat.zero_add]; done) | ((try simp only [LN] at *) <;> omega))); (focus (exact fun _ => rfl))) | (apply Z.fq_ro) | (apply Z.fq_int) | (apply Z.fq_bool) | apply And.intro)); (all_goals (try exact (fun _ => none))); all_goals (first | rfl | (simp_all; done)))
    | (fail)

theorem allM_con (qs : List Qu) (hq : qs.length ≤ 9223372036854775807) (hlq : ∀ q ∈ qs, q.es.length ≤ 9223372036854775807) (huq : ∀ q ∈ qs, ∀ e ∈ q.es, 0 ≤ e.num) : Con Try.prog 44 [.one (.fn 50 []), .one (.ro false 4 (qs.map eQ))] (fun rx rK rt => rx = .val (.bool (qs.all okQ)) ∧ rK = [] ∧ rt = 0) := by
  refine Z.con_ofF tabOk 18 Try.f44 _ Try.func44 (by kernel_rfl) rfl rfl rfl rfl ?_
  repeat' ((conv => whnf); first
    | with_reducible first | refine spB_t ?_
    | ((with_reducible apply spB_cong); (focus (simp only [beq_self_eq_true, bne_self_eq_false, Bool.true_bne, Bool.false_bne, Bool.bne_true, Bool.bne_false, Bool.true_beq, Bool.false_beq, Bool.not_true, Bool.not_false, Bool.not_not, Int.reduceBEq, Int.reduceBNe, Int.reduceLE, Int.reduceLT, Int.reduceEq, decide_true, decide_false]; rfl)))
    | with_reducible first | refine spB_yes (by decide) ?_ | refine spB_no (by decide) ?_ | refine spB_f ?_ | refine spB_not ?_ | refine spB_yes (by assumption) ?_ | refine spB_no (by assumption) ?_
    | (with_reducible refine spB_dec ?_ ?_ <;> intro _ <;> (try (exfalso; first | contradiction | omega | (rename_i hz; with_reducible exact absurd rfl hz))))
    | (with_reducible refine spB_beq ?_ ?_ <;> intro _ <;> (try (exfalso; first | contradiction | omega | (rename_i hz; with_reducible exact absurd rfl hz))))
    | (with_reducible refine spB_bne ?_ ?_ <;> intro _ <;> (try (exfalso; first | contradiction | omega | (rename_i hz; with_reducible exact absurd rfl hz))))
    | (with_reducible refine spB_mk ?_ ?_ <;> intro _ <;> (try (exfalso; first | contradiction | omega | (rename_i hz; with_reducible exact absurd rfl hz))))
    | ((with_reducible apply rowN_mk); (focus rfl))
    | ((with_reducible apply ixN_lit); (focus (exact rfl)); (focus (exact rfl)))
    | ((with_reducible apply ixN_litp); (focus (exact rfl)); (focus ((try simp only [LN] at *) <;> omega)))
    | ((with_reducible refine eqN_mk2 ?_ ?_); (focus rfl))
    | with_reducible refine wr_i64 (by first | omega | (simp only [LN] at *; omega)) ?_
    | with_reducible refine wr_u64 (by omega) ?_
    | with_reducible refine wr_u8 (by omega) ?_
    | with_reducible refine wr_u32 (by omega) ?_
    | with_reducible first | refine wr_mk _ rfl ?_
    | ((with_reducible refine ixN_nat ?_ ?_); (focus ((try simp only [LN] at *) <;> omega)))
    | ((with_reducible refine rowN_map ?_ ?_); (focus ((try simp only [LN] at *) <;> omega)); intro x hx)
    | with_reducible refine eqN_dec (by omega) ?_
    | with_reducible first | refine apN_mk (by kernel_rfl) ?_
    | ((with_reducible refine eqN_mk2 ?_ ?_); (focus (exact Z.kb_some rfl)))
    | ((with_reducible apply ex_and); exact rfl))
  all_goals (try (conv => whnf))
  refine Z.loopK tabOk (fun zq : Nat => [(9, .val (.int .i64 (zq : Int)))]) (fun zq : Nat => ([] : Z.Kr)) (fun zq => zq ≤ qs.length ∧ qs.all okQ = (qs.drop zq).all okQ) (fun zq => qs.length - zq) 0 0 [(0, _), (7, _), (8, _)] ⟨rfl, rfl, rfl, trivial⟩ [] trivial ?_ ?_ rfl rfl ⟨Nat.zero_le _, rfl⟩ ?_
  · repeat' (first | exact trivial | apply And.intro | exact ⟨_, rfl, rfl⟩ | exact ⟨_, rfl, Z.Imp.refl _⟩ | exact ⟨_, rfl, Z.Imp.nilg _⟩ | exact ⟨_, rfl, Z.Imp.nilr _ _⟩)
  · repeat' (first | exact trivial | (intro b hb; cases hb; done) | exact (fun b hb => ⟨b, hb, Z.ImpO.refl b⟩) | (intro b hb; cases hb; refine ⟨_, rfl, ⟨rfl, rfl, rfl⟩, ?_⟩; (repeat' (first | exact trivial | apply And.intro | exact Z.Imp.refl _ | exact Z.Imp.nilg _ | exact Z.Imp.nilr _ _)); done) | apply And.intro)
  rintro i HINV
  dsimp only at HINV ⊢
  obtain ⟨HI, HO⟩ := HINV
  repeat' ((conv => whnf); first
    | with_reducible first | refine spB_t ?_
    | ((with_reducible apply spB_cong); (focus (simp only [beq_self_eq_true, bne_self_eq_false, Bool.true_bne, Bool.false_bne, Bool.bne_true, Bool.bne_false, Bool.true_beq, Bool.false_beq, Bool.not_true, Bool.not_false, Bool.not_not, Int.reduceBEq, Int.reduceBNe, Int.reduceLE, Int.reduceLT, Int.reduceEq, decide_true, decide_false]; rfl)))
    | with_reducible first | refine spB_yes (by decide) ?_ | refine spB_no (by decide) ?_ | refine spB_f ?_ | refine spB_not ?_ | refine spB_yes (by assumption) ?_ | refine spB_no (by assumption) ?_
    | (with_reducible refine spB_dec ?_ ?_ <;> intro _ <;> (try (exfalso; first | contradiction | omega | (rename_i hz; with_reducible exact absurd rfl hz))))
    | (with_reducible refine spB_beq ?_ ?_ <;> intro _ <;> (try (exfalso; first | contradiction | omega | (rename_i hz; with_reducible exact absurd rfl hz))))
    | (with_reducible refine spB_bne ?_ ?_ <;> intro _ <;> (try (exfalso; first | contradiction | omega | (rename_i hz; with_reducible exact absurd rfl hz))))
    | (with_reducible refine spB_mk ?_ ?_ <;> intro _ <;> (try (exfalso; first | contradiction | omega | (rename_i hz; with_reducible exact absurd rfl hz))))
    | ((with_reducible apply rowN_mk); (focus rfl))
    | ((with_reducible apply ixN_lit); (focus (exact rfl)); (focus (exact rfl)))
    | ((with_reducible apply ixN_litp); (focus (exact rfl)); (focus ((try simp only [LN] at *) <;> omega)))
    | ((with_reducible refine eqN_mk2 ?_ ?_); (focus rfl))
    | with_reducible refine wr_i64 (by first | omega | (simp only [LN] at *; omega)) ?_
    | with_reducible refine wr_u64 (by omega) ?_
    | with_reducible refine wr_u8 (by omega) ?_
    | with_reducible refine wr_u32 (by omega) ?_
    | with_reducible first | refine wr_mk _ rfl ?_
    | ((with_reducible refine ixN_nat ?_ ?_); (focus ((try simp only [LN] at *) <;> omega)))
    | ((with_reducible refine rowN_map ?_ ?_); (focus ((try simp only [LN] at *) <;> omega)); intro x hx; have hlx := hlq _ (List.mem_of_getElem? hx); have hux := huq _ (List.mem_of_getElem? hx))
    | with_reducible refine eqN_dec (by omega) ?_
    | with_reducible first | refine apN_mk (by kernel_rfl) ?_
    | ((first | (with_reducible apply Z.conZ_mz ?_ (mayQ_con _ ?_ ?_) ?_) | (with_reducible apply Z.callZ_mk ?_ (mayQ_con _ ?_ ?_) ?_)); (rotate_left 1); (focus ((repeat' (first | exact trivial | exact rfl | exact Z.low_nil | exact Z.low_nil2 | exact low_osl (fun _ => rfl) | (refine Z.low_osln ?_ (fun _ => rfl); (simp only [List.length_map]; done)) | exact low_oslr (fun _ => rfl) | exact Z.low_gslm (by first | rfl | exact Z.kb_some rfl) (fun _ => rfl) | exact .inl rfl | exact .inr ⟨_, rfl⟩ | apply And.intro)); done)); (iterate 2 (focus (first | assumption | omega | ((try simp only [LN] at *); omega)))))
    | ((with_reducible refine eqN_mk2 ?_ ?_); (focus (exact Z.kb_some rfl)))
    | ((with_reducible apply ex_and); exact rfl))
  all_goals (try (conv => whnf))
  all_goals first
    | ((refine Z.rndK (i + 1) (fun s => []) rfl rfl rfl rfl ?_ ?_ ?_ ?_); (focus (repeat' (first | exact trivial | exact rfl | (rw [List.map_append]; exact rfl) | apply And.intro))); (focus (repeat' (first | exact trivial | (intro b hb; cases hb; rfl) | (intro b hb; cases hb; subst hlb; rfl) | (intro b hb; cases hb; rw [List.map_append]; rfl) | (intro b hb; cases hb; done) | exact Z.blk_sub rfl rfl (ren_map fun _ => rfl) | exact Z.blk_sub rfl rfl (Z.ren_app (ren_map fun _ => rfl) (ren_map fun _ => rfl)) | exact Z.blk_sub rfl (by first | (rw [List.map_append]; rfl) | (rw [List.map_set]; rfl) | simp only [List.map_append, List.map_cons, List.map_nil, List.map_set]) (ren_map fun _ => rfl) | exact Z.gB_sub rfl rfl (ren_map fun _ => rfl) | exact Z.gB_sub' rfl (by first | rfl | (rw [List.map_append]; rfl) | simp only [List.map_append, List.map_cons, List.map_nil]) (ren_map fun _ => rfl) | apply And.intro))); (focus (refine ⟨by (try simp only [LN] at *) <;> omega, ?_⟩; (try dsimp only); rw [HO, all_at hx]; simp_all)); (try simp only [LN] at *); (try dsimp only); omega)
    | ((first | (with_reducible apply Z.retF1) | (with_reducible apply Z.retF2) | (with_reducible apply Z.retF0)); (focus (exact rfl)); (repeat' (first | exact trivial | (with_reducible apply Z.frz_one) | (with_reducible apply Z.frz_agg) | (with_reducible apply Z.fq_int) | (with_reducible apply Z.fq_bool) | (exact Z.frz_nil) | (exact Z.frz_osl0 rfl rfl rfl) | (with_reducible apply Z.fq_nil) | (with_reducible apply Z.fq_ro) | ((with_reducible apply Z.fq_gsl); (focus (first | rfl | exact Z.isB_map _ | exact Z.gB_snoc.symm)); (focus (exact fun _ => rfl))) | ((with_reducible apply Z.fq_osl); (focus (exact rfl)); (focus (first | exact rfl | (simp only [List.length_map, Nat.zero_add]; done) | ((try simp only [LN] at *) <;> omega))); (focus (exact fun _ => rfl))) | ((with_reducible apply Z.fq_src); (focus (exact rfl)); (focus (first | exact rfl | (simp only [List.length_map, Nat.zero_add]; done) | ((try simp only [LN] at *) <;> omega))); (focus (exact fun _ => rfl))) | exact rfl | ((apply Z.fq_osl); (focus (exact rfl)); (focus (first | exact rfl | (simp only [List.length_map, Nat.zero_add]; done) | ((try simp only [LN] at *) <;> omega))); (focus (exact fun _ => rfl))) | ((apply Z.fq_src); (focus (exact rfl)); (focus (first | exact rfl | (simp only [List.length_map, Nat.zero_add]; done) | ((try simp only [LN] at *) <;> omega))); (focus (exact fun _ => rfl))) | (apply Z.fq_ro) | (apply Z.fq_int) | (apply Z.fq_bool) | apply And.intro)); (all_goals (try exact (fun _ => none))); all_goals (first | (rw [HO, all_at hx]; simp_all; done) | (rw [HO, drop_end (by (try simp only [LN] at *) <;> omega)]; rfl)))
    | (fail)

theorem allE_con (qs : List Qu) (hq : qs.length ≤ 9223372036854775807)  : Con Try.prog 44 [.one (.fn 45 []), .one (.ro false 4 (qs.map eQ))] (fun rx rK rt => rx = .val (.bool (qs.all (fun q => q.ended))) ∧ rK = [] ∧ rt = 0) := by
  refine Z.con_ofF tabOk 18 Try.f44 _ Try.func44 (by kernel_rfl) rfl rfl rfl rfl ?_
  repeat' ((conv => whnf); first
    | with_reducible first | refine spB_t ?_
    | ((with_reducible apply spB_cong); (focus (simp only [beq_self_eq_true, bne_self_eq_false, Bool.true_bne, Bool.false_bne, Bool.bne_true, Bool.bne_false, Bool.true_beq, Bool.false_beq, Bool.not_true, Bool.not_false, Bool.not_not, Int.reduceBEq, Int.reduceBNe, Int.reduceLE, Int.reduceLT, Int.reduceEq, decide_true, decide_false]; rfl)))
    | with_reducible first | refine spB_yes (by decide) ?_ | refine spB_no (by decide) ?_ | refine spB_f ?_ | refine spB_not ?_ | refine spB_yes (by assumption) ?_ | refine spB_no (by assumption) ?_
    | (with_reducible refine spB_dec ?_ ?_ <;> intro _ <;> (try (exfalso; first | contradiction | omega | (rename_i hz; with_reducible exact absurd rfl hz))))
    | (with_reducible refine spB_beq ?_ ?_ <;> intro _ <;> (try (exfalso; first | contradiction | omega | (rename_i hz; with_reducible exact absurd rfl hz))))
    | (with_reducible refine spB_bne ?_ ?_ <;> intro _ <;> (try (exfalso; first | contradiction | omega | (rename_i hz; with_reducible exact absurd rfl hz))))
    | (with_reducible refine spB_mk ?_ ?_ <;> intro _ <;> (try (exfalso; first | contradiction | omega | (rename_i hz; with_reducible exact absurd rfl hz))))
    | ((with_reducible apply rowN_mk); (focus rfl))
    | ((with_reducible apply ixN_lit); (focus (exact rfl)); (focus (exact rfl)))
    | ((with_reducible apply ixN_litp); (focus (exact rfl)); (focus ((try simp only [LN] at *) <;> omega)))
    | ((with_reducible refine eqN_mk2 ?_ ?_); (focus rfl))
    | with_reducible refine wr_i64 (by first | omega | (simp only [LN] at *; omega)) ?_
    | with_reducible refine wr_u64 (by omega) ?_
    | with_reducible refine wr_u8 (by omega) ?_
    | with_reducible refine wr_u32 (by omega) ?_
    | with_reducible first | refine wr_mk _ rfl ?_
    | ((with_reducible refine ixN_nat ?_ ?_); (focus ((try simp only [LN] at *) <;> omega)))
    | ((with_reducible refine rowN_map ?_ ?_); (focus ((try simp only [LN] at *) <;> omega)); intro x hx)
    | with_reducible refine eqN_dec (by omega) ?_
    | with_reducible first | refine apN_mk (by kernel_rfl) ?_
    | ((with_reducible refine eqN_mk2 ?_ ?_); (focus (exact Z.kb_some rfl)))
    | ((with_reducible apply ex_and); exact rfl))
  all_goals (try (conv => whnf))
  refine Z.loopK tabOk (fun zq : Nat => [(9, .val (.int .i64 (zq : Int)))]) (fun zq : Nat => ([] : Z.Kr)) (fun zq => zq ≤ qs.length ∧ qs.all (fun q => q.ended) = (qs.drop zq).all (fun q => q.ended)) (fun zq => qs.length - zq) 0 0 [(0, _), (7, _), (8, _)] ⟨rfl, rfl, rfl, trivial⟩ [] trivial ?_ ?_ rfl rfl ⟨Nat.zero_le _, rfl⟩ ?_
  · repeat' (first | exact trivial | apply And.intro | exact ⟨_, rfl, rfl⟩ | exact ⟨_, rfl, Z.Imp.refl _⟩ | exact ⟨_, rfl, Z.Imp.nilg _⟩ | exact ⟨_, rfl, Z.Imp.nilr _ _⟩)
  · repeat' (first | exact trivial | (intro b hb; cases hb; done) | exact (fun b hb => ⟨b, hb, Z.ImpO.refl b⟩) | (intro b hb; cases hb; refine ⟨_, rfl, ⟨rfl, rfl, rfl⟩, ?_⟩; (repeat' (first | exact trivial | apply And.intro | exact Z.Imp.refl _ | exact Z.Imp.nilg _ | exact Z.Imp.nilr _ _)); done) | apply And.intro)
  rintro i HINV
  dsimp only at HINV ⊢
  obtain ⟨HI, HO⟩ := HINV
  repeat' ((conv => whnf); first
    | with_reducible first | refine spB_t ?_
    | ((with_reducible apply spB_cong); (focus (simp only [beq_self_eq_true, bne_self_eq_false, Bool.true_bne, Bool.false_bne, Bool.bne_true, Bool.bne_false, Bool.true_beq, Bool.false_beq, Bool.not_true, Bool.not_false, Bool.not_not, Int.reduceBEq, Int.reduceBNe, Int.reduceLE, Int.reduceLT, Int.reduceEq, decide_true, decide_false]; rfl)))
    | with_reducible first | refine spB_yes (by decide) ?_ | refine spB_no (by decide) ?_ | refine spB_f ?_ | refine spB_not ?_ | refine spB_yes (by assumption) ?_ | refine spB_no (by assumption) ?_
    | (with_reducible refine spB_dec ?_ ?_ <;> intro _ <;> (try (exfalso; first | contradiction | omega | (rename_i hz; with_reducible exact absurd rfl hz))))
    | (with_reducible refine spB_beq ?_ ?_ <;> intro _ <;> (try (exfalso; first | contradiction | omega | (rename_i hz; with_reducible exact absurd rfl hz))))
    | (with_reducible refine spB_bne ?_ ?_ <;> intro _ <;> (try (exfalso; first | contradiction | omega | (rename_i hz; with_reducible exact absurd rfl hz))))
    | (with_reducible refine spB_mk ?_ ?_ <;> intro _ <;> (try (exfalso; first | contradiction | omega | (rename_i hz; with_reducible exact absurd rfl hz))))
    | ((with_reducible apply rowN_mk); (focus rfl))
    | ((with_reducible apply ixN_lit); (focus (exact rfl)); (focus (exact rfl)))
    | ((with_reducible apply ixN_litp); (focus (exact rfl)); (focus ((try simp only [LN] at *) <;> omega)))
    | ((with_reducible refine eqN_mk2 ?_ ?_); (focus rfl))
    | with_reducible refine wr_i64 (by first | omega | (simp only [LN] at *; omega)) ?_
    | with_reducible refine wr_u64 (by omega) ?_
    | with_reducible refine wr_u8 (by omega) ?_
    | with_reducible refine wr_u32 (by omega) ?_
    | with_reducible first | refine wr_mk _ rfl ?_
    | ((with_reducible refine ixN_nat ?_ ?_); (focus ((try simp only [LN] at *) <;> omega)))
    | ((with_reducible refine rowN_map ?_ ?_); (focus ((try simp only [LN] at *) <;> omega)); intro x hx)
    | with_reducible refine eqN_dec (by omega) ?_
    | with_reducible first | refine apN_mk (by kernel_rfl) ?_
    | ((first | (with_reducible apply Z.conZ_mz ?_ (ended_con _) ?_) | (with_reducible apply Z.callZ_mk ?_ (ended_con _) ?_)); (rotate_left 1); (focus ((repeat' (first | exact trivial | exact rfl | exact Z.low_nil | exact Z.low_nil2 | exact low_osl (fun _ => rfl) | (refine Z.low_osln ?_ (fun _ => rfl); (simp only [List.length_map]; done)) | exact low_oslr (fun _ => rfl) | exact Z.low_gslm (by first | rfl | exact Z.kb_some rfl) (fun _ => rfl) | exact .inl rfl | exact .inr ⟨_, rfl⟩ | apply And.intro)); done)))
    | ((with_reducible refine eqN_mk2 ?_ ?_); (focus (exact Z.kb_some rfl)))
    | ((with_reducible apply ex_and); exact rfl))
  all_goals (try (conv => whnf))
  all_goals first
    | ((refine Z.rndK (i + 1) (fun s => []) rfl rfl rfl rfl ?_ ?_ ?_ ?_); (focus (repeat' (first | exact trivial | exact rfl | (rw [List.map_append]; exact rfl) | apply And.intro))); (focus (repeat' (first | exact trivial | (intro b hb; cases hb; rfl) | (intro b hb; cases hb; subst hlb; rfl) | (intro b hb; cases hb; rw [List.map_append]; rfl) | (intro b hb; cases hb; done) | exact Z.blk_sub rfl rfl (ren_map fun _ => rfl) | exact Z.blk_sub rfl rfl (Z.ren_app (ren_map fun _ => rfl) (ren_map fun _ => rfl)) | exact Z.blk_sub rfl (by first | (rw [List.map_append]; rfl) | (rw [List.map_set]; rfl) | simp only [List.map_append, List.map_cons, List.map_nil, List.map_set]) (ren_map fun _ => rfl) | exact Z.gB_sub rfl rfl (ren_map fun _ => rfl) | exact Z.gB_sub' rfl (by first | rfl | (rw [List.map_append]; rfl) | simp only [List.map_append, List.map_cons, List.map_nil]) (ren_map fun _ => rfl) | apply And.intro))); (focus (refine ⟨by (try simp only [LN] at *) <;> omega, ?_⟩; (try dsimp only); rw [HO, all_at hx]; simp_all)); (try simp only [LN] at *); (try dsimp only); omega)
    | ((first | (with_reducible apply Z.retF1) | (with_reducible apply Z.retF2) | (with_reducible apply Z.retF0)); (focus (exact rfl)); (repeat' (first | exact trivial | (with_reducible apply Z.frz_one) | (with_reducible apply Z.frz_agg) | (with_reducible apply Z.fq_int) | (with_reducible apply Z.fq_bool) | (exact Z.frz_nil) | (exact Z.frz_osl0 rfl rfl rfl) | (with_reducible apply Z.fq_nil) | (with_reducible apply Z.fq_ro) | ((with_reducible apply Z.fq_gsl); (focus (first | rfl | exact Z.isB_map _ | exact Z.gB_snoc.symm)); (focus (exact fun _ => rfl))) | ((with_reducible apply Z.fq_osl); (focus (exact rfl)); (focus (first | exact rfl | (simp only [List.length_map, Nat.zero_add]; done) | ((try simp only [LN] at *) <;> omega))); (focus (exact fun _ => rfl))) | ((with_reducible apply Z.fq_src); (focus (exact rfl)); (focus (first | exact rfl | (simp only [List.length_map, Nat.zero_add]; done) | ((try simp only [LN] at *) <;> omega))); (focus (exact fun _ => rfl))) | exact rfl | ((apply Z.fq_osl); (focus (exact rfl)); (focus (first | exact rfl | (simp only [List.length_map, Nat.zero_add]; done) | ((try simp only [LN] at *) <;> omega))); (focus (exact fun _ => rfl))) | ((apply Z.fq_src); (focus (exact rfl)); (focus (first | exact rfl | (simp only [List.length_map, Nat.zero_add]; done) | ((try simp only [LN] at *) <;> omega))); (focus (exact fun _ => rfl))) | (apply Z.fq_ro) | (apply Z.fq_int) | (apply Z.fq_bool) | apply And.intro)); (all_goals (try exact (fun _ => none))); all_goals (first | (rw [HO, all_at hx]; simp_all; done) | (rw [HO, drop_end (by (try simp only [LN] at *) <;> omega)]; rfl)))
    | (fail)

theorem allD_con (qs : List Qu) (hq : qs.length ≤ 9223372036854775807)  : Con Try.prog 44 [.one (.fn 51 []), .one (.ro false 4 (qs.map eQ))] (fun rx rK rt => rx = .val (.bool (qs.all (fun q => q.held || q.ended))) ∧ rK = [] ∧ rt = 0) := by
  refine Z.con_ofF tabOk 18 Try.f44 _ Try.func44 (by kernel_rfl) rfl rfl rfl rfl ?_
  repeat' ((conv => whnf); first
    | with_reducible first | refine spB_t ?_
    | ((with_reducible apply spB_cong); (focus (simp only [beq_self_eq_true, bne_self_eq_false, Bool.true_bne, Bool.false_bne, Bool.bne_true, Bool.bne_false, Bool.true_beq, Bool.false_beq, Bool.not_true, Bool.not_false, Bool.not_not, Int.reduceBEq, Int.reduceBNe, Int.reduceLE, Int.reduceLT, Int.reduceEq, decide_true, decide_false]; rfl)))
    | with_reducible first | refine spB_yes (by decide) ?_ | refine spB_no (by decide) ?_ | refine spB_f ?_ | refine spB_not ?_ | refine spB_yes (by assumption) ?_ | refine spB_no (by assumption) ?_
    | (with_reducible refine spB_dec ?_ ?_ <;> intro _ <;> (try (exfalso; first | contradiction | omega | (rename_i hz; with_reducible exact absurd rfl hz))))
    | (with_reducible refine spB_beq ?_ ?_ <;> intro _ <;> (try (exfalso; first | contradiction | omega | (rename_i hz; with_reducible exact absurd rfl hz))))
    | (with_reducible refine spB_bne ?_ ?_ <;> intro _ <;> (try (exfalso; first | contradiction | omega | (rename_i hz; with_reducible exact absurd rfl hz))))
    | (with_reducible refine spB_mk ?_ ?_ <;> intro _ <;> (try (exfalso; first | contradiction | omega | (rename_i hz; with_reducible exact absurd rfl hz))))
    | ((with_reducible apply rowN_mk); (focus rfl))
    | ((with_reducible apply ixN_lit); (focus (exact rfl)); (focus (exact rfl)))
    | ((with_reducible apply ixN_litp); (focus (exact rfl)); (focus ((try simp only [LN] at *) <;> omega)))
    | ((with_reducible refine eqN_mk2 ?_ ?_); (focus rfl))
    | with_reducible refine wr_i64 (by first | omega | (simp only [LN] at *; omega)) ?_
    | with_reducible refine wr_u64 (by omega) ?_
    | with_reducible refine wr_u8 (by omega) ?_
    | with_reducible refine wr_u32 (by omega) ?_
    | with_reducible first | refine wr_mk _ rfl ?_
    | ((with_reducible refine ixN_nat ?_ ?_); (focus ((try simp only [LN] at *) <;> omega)))
    | ((with_reducible refine rowN_map ?_ ?_); (focus ((try simp only [LN] at *) <;> omega)); intro x hx)
    | with_reducible refine eqN_dec (by omega) ?_
    | with_reducible first | refine apN_mk (by kernel_rfl) ?_
    | ((with_reducible refine eqN_mk2 ?_ ?_); (focus (exact Z.kb_some rfl)))
    | ((with_reducible apply ex_and); exact rfl))
  all_goals (try (conv => whnf))
  refine Z.loopK tabOk (fun zq : Nat => [(9, .val (.int .i64 (zq : Int)))]) (fun zq : Nat => ([] : Z.Kr)) (fun zq => zq ≤ qs.length ∧ qs.all (fun q => q.held || q.ended) = (qs.drop zq).all (fun q => q.held || q.ended)) (fun zq => qs.length - zq) 0 0 [(0, _), (7, _), (8, _)] ⟨rfl, rfl, rfl, trivial⟩ [] trivial ?_ ?_ rfl rfl ⟨Nat.zero_le _, rfl⟩ ?_
  · repeat' (first | exact trivial | apply And.intro | exact ⟨_, rfl, rfl⟩ | exact ⟨_, rfl, Z.Imp.refl _⟩ | exact ⟨_, rfl, Z.Imp.nilg _⟩ | exact ⟨_, rfl, Z.Imp.nilr _ _⟩)
  · repeat' (first | exact trivial | (intro b hb; cases hb; done) | exact (fun b hb => ⟨b, hb, Z.ImpO.refl b⟩) | (intro b hb; cases hb; refine ⟨_, rfl, ⟨rfl, rfl, rfl⟩, ?_⟩; (repeat' (first | exact trivial | apply And.intro | exact Z.Imp.refl _ | exact Z.Imp.nilg _ | exact Z.Imp.nilr _ _)); done) | apply And.intro)
  rintro i HINV
  dsimp only at HINV ⊢
  obtain ⟨HI, HO⟩ := HINV
  repeat' ((conv => whnf); first
    | with_reducible first | refine spB_t ?_
    | ((with_reducible apply spB_cong); (focus (simp only [beq_self_eq_true, bne_self_eq_false, Bool.true_bne, Bool.false_bne, Bool.bne_true, Bool.bne_false, Bool.true_beq, Bool.false_beq, Bool.not_true, Bool.not_false, Bool.not_not, Int.reduceBEq, Int.reduceBNe, Int.reduceLE, Int.reduceLT, Int.reduceEq, decide_true, decide_false]; rfl)))
    | with_reducible first | refine spB_yes (by decide) ?_ | refine spB_no (by decide) ?_ | refine spB_f ?_ | refine spB_not ?_ | refine spB_yes (by assumption) ?_ | refine spB_no (by assumption) ?_
    | (with_reducible refine spB_dec ?_ ?_ <;> intro _ <;> (try (exfalso; first | contradiction | omega | (rename_i hz; with_reducible exact absurd rfl hz))))
    | (with_reducible refine spB_beq ?_ ?_ <;> intro _ <;> (try (exfalso; first | contradiction | omega | (rename_i hz; with_reducible exact absurd rfl hz))))
    | (with_reducible refine spB_bne ?_ ?_ <;> intro _ <;> (try (exfalso; first | contradiction | omega | (rename_i hz; with_reducible exact absurd rfl hz))))
    | (with_reducible refine spB_mk ?_ ?_ <;> intro _ <;> (try (exfalso; first | contradiction | omega | (rename_i hz; with_reducible exact absurd rfl hz))))
    | ((with_reducible apply rowN_mk); (focus rfl))
    | ((with_reducible apply ixN_lit); (focus (exact rfl)); (focus (exact rfl)))
    | ((with_reducible apply ixN_litp); (focus (exact rfl)); (focus ((try simp only [LN] at *) <;> omega)))
    | ((with_reducible refine eqN_mk2 ?_ ?_); (focus rfl))
    | with_reducible refine wr_i64 (by first | omega | (simp only [LN] at *; omega)) ?_
    | with_reducible refine wr_u64 (by omega) ?_
    | with_reducible refine wr_u8 (by omega) ?_
    | with_reducible refine wr_u32 (by omega) ?_
    | with_reducible first | refine wr_mk _ rfl ?_
    | ((with_reducible refine ixN_nat ?_ ?_); (focus ((try simp only [LN] at *) <;> omega)))
    | ((with_reducible refine rowN_map ?_ ?_); (focus ((try simp only [LN] at *) <;> omega)); intro x hx)
    | with_reducible refine eqN_dec (by omega) ?_
    | with_reducible first | refine apN_mk (by kernel_rfl) ?_
    | ((first | (with_reducible apply Z.conZ_mz ?_ (done_con _) ?_) | (with_reducible apply Z.callZ_mk ?_ (done_con _) ?_)); (rotate_left 1); (focus ((repeat' (first | exact trivial | exact rfl | exact Z.low_nil | exact Z.low_nil2 | exact low_osl (fun _ => rfl) | (refine Z.low_osln ?_ (fun _ => rfl); (simp only [List.length_map]; done)) | exact low_oslr (fun _ => rfl) | exact Z.low_gslm (by first | rfl | exact Z.kb_some rfl) (fun _ => rfl) | exact .inl rfl | exact .inr ⟨_, rfl⟩ | apply And.intro)); done)))
    | ((with_reducible refine eqN_mk2 ?_ ?_); (focus (exact Z.kb_some rfl)))
    | ((with_reducible apply ex_and); exact rfl))
  all_goals (try (conv => whnf))
  all_goals first
    | ((refine Z.rndK (i + 1) (fun s => []) rfl rfl rfl rfl ?_ ?_ ?_ ?_); (focus (repeat' (first | exact trivial | exact rfl | (rw [List.map_append]; exact rfl) | apply And.intro))); (focus (repeat' (first | exact trivial | (intro b hb; cases hb; rfl) | (intro b hb; cases hb; subst hlb; rfl) | (intro b hb; cases hb; rw [List.map_append]; rfl) | (intro b hb; cases hb; done) | exact Z.blk_sub rfl rfl (ren_map fun _ => rfl) | exact Z.blk_sub rfl rfl (Z.ren_app (ren_map fun _ => rfl) (ren_map fun _ => rfl)) | exact Z.blk_sub rfl (by first | (rw [List.map_append]; rfl) | (rw [List.map_set]; rfl) | simp only [List.map_append, List.map_cons, List.map_nil, List.map_set]) (ren_map fun _ => rfl) | exact Z.gB_sub rfl rfl (ren_map fun _ => rfl) | exact Z.gB_sub' rfl (by first | rfl | (rw [List.map_append]; rfl) | simp only [List.map_append, List.map_cons, List.map_nil]) (ren_map fun _ => rfl) | apply And.intro))); (focus (refine ⟨by (try simp only [LN] at *) <;> omega, ?_⟩; (try dsimp only); rw [HO, all_at hx]; simp_all)); (try simp only [LN] at *); (try dsimp only); omega)
    | ((first | (with_reducible apply Z.retF1) | (with_reducible apply Z.retF2) | (with_reducible apply Z.retF0)); (focus (exact rfl)); (repeat' (first | exact trivial | (with_reducible apply Z.frz_one) | (with_reducible apply Z.frz_agg) | (with_reducible apply Z.fq_int) | (with_reducible apply Z.fq_bool) | (exact Z.frz_nil) | (exact Z.frz_osl0 rfl rfl rfl) | (with_reducible apply Z.fq_nil) | (with_reducible apply Z.fq_ro) | ((with_reducible apply Z.fq_gsl); (focus (first | rfl | exact Z.isB_map _ | exact Z.gB_snoc.symm)); (focus (exact fun _ => rfl))) | ((with_reducible apply Z.fq_osl); (focus (exact rfl)); (focus (first | exact rfl | (simp only [List.length_map, Nat.zero_add]; done) | ((try simp only [LN] at *) <;> omega))); (focus (exact fun _ => rfl))) | ((with_reducible apply Z.fq_src); (focus (exact rfl)); (focus (first | exact rfl | (simp only [List.length_map, Nat.zero_add]; done) | ((try simp only [LN] at *) <;> omega))); (focus (exact fun _ => rfl))) | exact rfl | ((apply Z.fq_osl); (focus (exact rfl)); (focus (first | exact rfl | (simp only [List.length_map, Nat.zero_add]; done) | ((try simp only [LN] at *) <;> omega))); (focus (exact fun _ => rfl))) | ((apply Z.fq_src); (focus (exact rfl)); (focus (first | exact rfl | (simp only [List.length_map, Nat.zero_add]; done) | ((try simp only [LN] at *) <;> omega))); (focus (exact fun _ => rfl))) | (apply Z.fq_ro) | (apply Z.fq_int) | (apply Z.fq_bool) | apply And.intro)); (all_goals (try exact (fun _ => none))); all_goals (first | (rw [HO, all_at hx]; simp_all; done) | (rw [HO, drop_end (by (try simp only [LN] at *) <;> omega)]; rfl)))
    | (fail)

theorem idxH_con (qs : List Qu) (hq : qs.length ≤ 9223372036854775807) : Con Try.prog 53 [.one (.ro false 4 (qs.map eQ)), .one (.fn 49 [])] (fun rx rK rt => rx = .val (.int .i64 (bif anyH qs then (qs.findIdx (fun q => q.held) : Int) else -1)) ∧ rK = [] ∧ rt = 0) := by
  refine Z.con_ofF tabOk 19 Try.f53 _ Try.func53 (by kernel_rfl) rfl rfl rfl rfl ?_
  repeat' ((conv => whnf); first
    | with_reducible first | refine spB_t ?_
    | ((with_reducible apply spB_cong); (focus (simp only [beq_self_eq_true, bne_self_eq_false, Bool.true_bne, Bool.false_bne, Bool.bne_true, Bool.bne_false, Bool.true_beq, Bool.false_beq, Bool.not_true, Bool.not_false, Bool.not_not, Int.reduceBEq, Int.reduceBNe, Int.reduceLE, Int.reduceLT, Int.reduceEq, decide_true, decide_false]; rfl)))
    | with_reducible first | refine spB_yes (by decide) ?_ | refine spB_no (by decide) ?_ | refine spB_f ?_ | refine spB_not ?_ | refine spB_yes (by assumption) ?_ | refine spB_no (by assumption) ?_
    | (with_reducible refine spB_dec ?_ ?_ <;> intro _ <;> (try (exfalso; first | contradiction | omega | (rename_i hz; with_reducible exact absurd rfl hz))))
    | (with_reducible refine spB_beq ?_ ?_ <;> intro _ <;> (try (exfalso; first | contradiction | omega | (rename_i hz; with_reducible exact absurd rfl hz))))
    | (with_reducible refine spB_bne ?_ ?_ <;> intro _ <;> (try (exfalso; first | contradiction | omega | (rename_i hz; with_reducible exact absurd rfl hz))))
    | (with_reducible refine spB_mk ?_ ?_ <;> intro _ <;> (try (exfalso; first | contradiction | omega | (rename_i hz; with_reducible exact absurd rfl hz))))
    | ((with_reducible apply rowN_mk); (focus rfl))
    | ((with_reducible apply ixN_lit); (focus (exact rfl)); (focus (exact rfl)))
    | ((with_reducible apply ixN_litp); (focus (exact rfl)); (focus ((try simp only [LN] at *) <;> omega)))
    | ((with_reducible refine eqN_mk2 ?_ ?_); (focus rfl))
    | with_reducible refine wr_i64 (by first | omega | (simp only [LN] at *; omega)) ?_
    | with_reducible refine wr_u64 (by omega) ?_
    | with_reducible refine wr_u8 (by omega) ?_
    | with_reducible refine wr_u32 (by omega) ?_
    | with_reducible first | refine wr_mk _ rfl ?_
    | ((with_reducible refine ixN_nat ?_ ?_); (focus ((try simp only [LN] at *) <;> omega)))
    | ((with_reducible refine rowN_map ?_ ?_); (focus ((try simp only [LN] at *) <;> omega)); intro x hx)
    | with_reducible refine eqN_dec (by omega) ?_
    | with_reducible first | refine apN_mk (by kernel_rfl) ?_
    | ((with_reducible refine eqN_mk2 ?_ ?_); (focus (exact Z.kb_some rfl)))
    | ((with_reducible apply ex_and); exact rfl))
  all_goals (try (conv => whnf))
  refine Z.loopK tabOk (fun zq : Nat => [(8, .val (.int .i64 (zq : Int)))]) (fun zq : Nat => ([] : Z.Kr)) (fun zq => zq ≤ qs.length ∧ anyH qs = anyH (qs.drop zq) ∧ qs.findIdx (fun q => q.held) = zq + (qs.drop zq).findIdx (fun q => q.held)) (fun zq => qs.length - zq) 0 0 [(0, _), (1, _), (7, _)] ⟨rfl, rfl, rfl, trivial⟩ [] trivial ?_ ?_ rfl rfl ⟨Nat.zero_le _, rfl, (Nat.zero_add _).symm⟩ ?_
  · repeat' (first | exact trivial | apply And.intro | exact ⟨_, rfl, rfl⟩ | exact ⟨_, rfl, Z.Imp.refl _⟩ | exact ⟨_, rfl, Z.Imp.nilg _⟩ | exact ⟨_, rfl, Z.Imp.nilr _ _⟩)
  · repeat' (first | exact trivial | (intro b hb; cases hb; done) | exact (fun b hb => ⟨b, hb, Z.ImpO.refl b⟩) | (intro b hb; cases hb; refine ⟨_, rfl, ⟨rfl, rfl, rfl⟩, ?_⟩; (repeat' (first | exact trivial | apply And.intro | exact Z.Imp.refl _ | exact Z.Imp.nilg _ | exact Z.Imp.nilr _ _)); done) | apply And.intro)
  rintro i HINV
  dsimp only at HINV ⊢
  obtain ⟨HI, HO, HX⟩ := HINV
  repeat' ((conv => whnf); first
    | with_reducible first | refine spB_t ?_
    | ((with_reducible apply spB_cong); (focus (simp only [beq_self_eq_true, bne_self_eq_false, Bool.true_bne, Bool.false_bne, Bool.bne_true, Bool.bne_false, Bool.true_beq, Bool.false_beq, Bool.not_true, Bool.not_false, Bool.not_not, Int.reduceBEq, Int.reduceBNe, Int.reduceLE, Int.reduceLT, Int.reduceEq, decide_true, decide_false]; rfl)))
    | with_reducible first | refine spB_yes (by decide) ?_ | refine spB_no (by decide) ?_ | refine spB_f ?_ | refine spB_not ?_ | refine spB_yes (by assumption) ?_ | refine spB_no (by assumption) ?_
    | (with_reducible refine spB_dec ?_ ?_ <;> intro _ <;> (try (exfalso; first | contradiction | omega | (rename_i hz; with_reducible exact absurd rfl hz))))
    | (with_reducible refine spB_beq ?_ ?_ <;> intro _ <;> (try (exfalso; first | contradiction | omega | (rename_i hz; with_reducible exact absurd rfl hz))))
    | (with_reducible refine spB_bne ?_ ?_ <;> intro _ <;> (try (exfalso; first | contradiction | omega | (rename_i hz; with_reducible exact absurd rfl hz))))
    | (with_reducible refine spB_mk ?_ ?_ <;> intro _ <;> (try (exfalso; first | contradiction | omega | (rename_i hz; with_reducible exact absurd rfl hz))))
    | ((with_reducible apply rowN_mk); (focus rfl))
    | ((with_reducible apply ixN_lit); (focus (exact rfl)); (focus (exact rfl)))
    | ((with_reducible apply ixN_litp); (focus (exact rfl)); (focus ((try simp only [LN] at *) <;> omega)))
    | ((with_reducible refine eqN_mk2 ?_ ?_); (focus rfl))
    | with_reducible refine wr_i64 (by first | omega | (simp only [LN] at *; omega)) ?_
    | with_reducible refine wr_u64 (by omega) ?_
    | with_reducible refine wr_u8 (by omega) ?_
    | with_reducible refine wr_u32 (by omega) ?_
    | with_reducible first | refine wr_mk _ rfl ?_
    | ((with_reducible refine ixN_nat ?_ ?_); (focus ((try simp only [LN] at *) <;> omega)))
    | ((with_reducible refine rowN_map ?_ ?_); (focus ((try simp only [LN] at *) <;> omega)); intro x hx)
    | with_reducible refine eqN_dec (by omega) ?_
    | with_reducible first | refine apN_mk (by kernel_rfl) ?_
    | ((first | (with_reducible apply Z.conZ_mz ?_ (held_con _) ?_) | (with_reducible apply Z.callZ_mk ?_ (held_con _) ?_)); (rotate_left 1); (focus ((repeat' (first | exact trivial | exact rfl | exact Z.low_nil | exact Z.low_nil2 | exact low_osl (fun _ => rfl) | (refine Z.low_osln ?_ (fun _ => rfl); (simp only [List.length_map]; done)) | exact low_oslr (fun _ => rfl) | exact Z.low_gslm (by first | rfl | exact Z.kb_some rfl) (fun _ => rfl) | exact .inl rfl | exact .inr ⟨_, rfl⟩ | apply And.intro)); done)))
    | ((with_reducible refine eqN_mk2 ?_ ?_); (focus (exact Z.kb_some rfl)))
    | ((with_reducible apply ex_and); exact rfl))
  all_goals (try (conv => whnf))
  all_goals first
    | ((refine Z.rndK (i + 1) (fun s => []) rfl rfl rfl rfl ?_ ?_ ?_ ?_); (focus (repeat' (first | exact trivial | exact rfl | (rw [List.map_append]; exact rfl) | apply And.intro))); (focus (repeat' (first | exact trivial | (intro b hb; cases hb; rfl) | (intro b hb; cases hb; subst hlb; rfl) | (intro b hb; cases hb; rw [List.map_append]; rfl) | (intro b hb; cases hb; done) | exact Z.blk_sub rfl rfl (ren_map fun _ => rfl) | exact Z.blk_sub rfl rfl (Z.ren_app (ren_map fun _ => rfl) (ren_map fun _ => rfl)) | exact Z.blk_sub rfl (by first | (rw [List.map_append]; rfl) | (rw [List.map_set]; rfl) | simp only [List.map_append, List.map_cons, List.map_nil, List.map_set]) (ren_map fun _ => rfl) | exact Z.gB_sub rfl rfl (ren_map fun _ => rfl) | exact Z.gB_sub' rfl (by first | rfl | (rw [List.map_append]; rfl) | simp only [List.map_append, List.map_cons, List.map_nil]) (ren_map fun _ => rfl) | apply And.intro))); (focus (refine ⟨by (try simp only [LN] at *) <;> omega, ?_, ?_⟩; (focus ((try dsimp only); rw [HO]; unfold anyH; rw [any_at hx]; simp_all)); ((try dsimp only); rw [HX, drop_cons hx, List.findIdx_cons]; simp_all; omega))); (try simp only [LN] at *); (try dsimp only); omega)
    | ((first | (with_reducible apply Z.retF1) | (with_reducible apply Z.retF2) | (with_reducible apply Z.retF0)); (focus (exact rfl)); (repeat' (first | exact trivial | (with_reducible apply Z.frz_one) | (with_reducible apply Z.frz_agg) | (with_reducible apply Z.fq_int) | (with_reducible apply Z.fq_bool) | (exact Z.frz_nil) | (exact Z.frz_osl0 rfl rfl rfl) | (with_reducible apply Z.fq_nil) | (with_reducible apply Z.fq_ro) | ((with_reducible apply Z.fq_gsl); (focus (first | rfl | exact Z.isB_map _ | exact Z.gB_snoc.symm)); (focus (exact fun _ => rfl))) | ((with_reducible apply Z.fq_osl); (focus (exact rfl)); (focus (first | exact rfl | (simp only [List.length_map, Nat.zero_add]; done) | ((try simp only [LN] at *) <;> omega))); (focus (exact fun _ => rfl))) | ((with_reducible apply Z.fq_src); (focus (exact rfl)); (focus (first | exact rfl | (simp only [List.length_map, Nat.zero_add]; done) | ((try simp only [LN] at *) <;> omega))); (focus (exact fun _ => rfl))) | exact rfl | ((apply Z.fq_osl); (focus (exact rfl)); (focus (first | exact rfl | (simp only [List.length_map, Nat.zero_add]; done) | ((try simp only [LN] at *) <;> omega))); (focus (exact fun _ => rfl))) | ((apply Z.fq_src); (focus (exact rfl)); (focus (first | exact rfl | (simp only [List.length_map, Nat.zero_add]; done) | ((try simp only [LN] at *) <;> omega))); (focus (exact fun _ => rfl))) | (apply Z.fq_ro) | (apply Z.fq_int) | (apply Z.fq_bool) | apply And.intro)); (all_goals (try exact (fun _ => none))); all_goals (first | (rw [HO, HX]; unfold anyH; rw [any_at hx, drop_cons hx, List.findIdx_cons]; simp_all; done) | (rw [HO, drop_end (by (try simp only [LN] at *) <;> omega)]; rfl)))
    | (fail)

theorem conH_con (qs : List Qu) (hq : qs.length ≤ 9223372036854775807) : Con Try.prog 48 [.one (.ro false 4 (qs.map eQ)), .one (.fn 49 [])] (fun rx rK rt => rx = .val (.bool (anyH qs)) ∧ rK = [] ∧ rt = 0) := by
  refine Z.con_ofF tabOk 9 Try.f48 _ Try.func48 (by kernel_rfl) rfl rfl rfl rfl ?_
  repeat' ((conv => whnf); first
    | with_reducible first | refine spB_t ?_
    | ((with_reducible apply spB_cong); (focus (simp only [beq_self_eq_true, bne_self_eq_false, Bool.true_bne, Bool.false_bne, Bool.bne_true, Bool.bne_false, Bool.true_beq, Bool.false_beq, Bool.not_true, Bool.not_false, Bool.not_not, Int.reduceBEq, Int.reduceBNe, Int.reduceLE, Int.reduceLT, Int.reduceEq, decide_true, decide_false]; rfl)))
    | with_reducible first | refine spB_yes (by decide) ?_ | refine spB_no (by decide) ?_ | refine spB_f ?_ | refine spB_not ?_ | refine spB_yes (by assumption) ?_ | refine spB_no (by assumption) ?_
    | (with_reducible refine spB_dec ?_ ?_ <;> intro _ <;> (try (exfalso; first | contradiction | omega | (rename_i hz; with_reducible exact absurd rfl hz))))
    | (with_reducible refine spB_beq ?_ ?_ <;> intro _ <;> (try (exfalso; first | contradiction | omega | (rename_i hz; with_reducible exact absurd rfl hz))))
    | (with_reducible refine spB_bne ?_ ?_ <;> intro _ <;> (try (exfalso; first | contradiction | omega | (rename_i hz; with_reducible exact absurd rfl hz))))
    | (with_reducible refine spB_mk ?_ ?_ <;> intro _ <;> (try (exfalso; first | contradiction | omega | (rename_i hz; with_reducible exact absurd rfl hz))))
    | ((with_reducible apply rowN_mk); (focus rfl))
    | ((with_reducible apply ixN_lit); (focus (exact rfl)); (focus (exact rfl)))
    | ((with_reducible apply ixN_litp); (focus (exact rfl)); (focus ((try simp only [LN] at *) <;> omega)))
    | ((with_reducible refine eqN_mk2 ?_ ?_); (focus rfl))
    | with_reducible refine wr_i64 (by first | omega | (simp only [LN] at *; omega)) ?_
    | with_reducible refine wr_u64 (by omega) ?_
    | with_reducible first | refine wr_mk _ rfl ?_
    | ((with_reducible refine ixN_nat ?_ ?_); (focus ((try simp only [LN] at *) <;> omega)))
    | ((with_reducible refine rowN_map ?_ ?_); (focus ((try simp only [LN] at *) <;> omega)); intro x hx)
    | with_reducible refine eqN_dec (by omega) ?_
    | with_reducible first | refine apN_mk (by kernel_rfl) ?_
    | ((first | (with_reducible apply Z.conZ_mz ?_ (idxH_con _ ?_) ?_) | (with_reducible apply Z.callZ_mk ?_ (idxH_con _ ?_) ?_)); (rotate_left 1); (focus ((repeat' (first | exact trivial | exact rfl | exact Z.low_nil | exact Z.low_nil2 | exact low_osl (fun _ => rfl) | (refine Z.low_osln ?_ (fun _ => rfl); (simp only [List.length_map]; done)) | exact low_oslr (fun _ => rfl) | exact Z.low_gslm (by first | rfl | exact Z.kb_some rfl) (fun _ => rfl) | exact .inl rfl | exact .inr ⟨_, rfl⟩ | apply And.intro)); done)); (iterate 1 (focus (first | assumption | omega | ((try simp only [LN] at *); omega)))))
    | ((with_reducible refine eqN_mk2 ?_ ?_); (focus (exact Z.kb_some rfl)))
    | ((with_reducible apply ex_and); exact rfl))
  all_goals (try (conv => whnf))
  all_goals first
    | ((first | (with_reducible apply Z.retF1) | (with_reducible apply Z.retF2) | (with_reducible apply Z.retF0)); (focus (exact rfl)); (repeat' (first | exact trivial | (with_reducible apply Z.frz_one) | (with_reducible apply Z.frz_agg) | (with_reducible apply Z.fq_int) | (with_reducible apply Z.fq_bool) | (exact Z.frz_nil) | (exact Z.frz_osl0 rfl rfl rfl) | (with_reducible apply Z.fq_nil) | (with_reducible apply Z.fq_ro) | ((with_reducible apply Z.fq_gsl); (focus (first | rfl | exact Z.isB_map _ | exact Z.gB_snoc.symm)); (focus (exact fun _ => rfl))) | ((with_reducible apply Z.fq_osl); (focus (exact rfl)); (focus (first | exact rfl | (simp only [List.length_map, Nat.zero_add]; done) | ((try simp only [LN] at *) <;> omega))); (focus (exact fun _ => rfl))) | ((with_reducible apply Z.fq_src); (focus (exact rfl)); (focus (first | exact rfl | (simp only [List.length_map, Nat.zero_add]; done) | ((try simp only [LN] at *) <;> omega))); (focus (exact fun _ => rfl))) | exact rfl | ((apply Z.fq_osl); (focus (exact rfl)); (focus (first | exact rfl | (simp only [List.length_map, Nat.zero_add]; done) | ((try simp only [LN] at *) <;> omega))); (focus (exact fun _ => rfl))) | ((apply Z.fq_src); (focus (exact rfl)); (focus (first | exact rfl | (simp only [List.length_map, Nat.zero_add]; done) | ((try simp only [LN] at *) <;> omega))); (focus (exact fun _ => rfl))) | (apply Z.fq_ro) | (apply Z.fq_int) | (apply Z.fq_bool) | apply And.intro)); (all_goals (try exact (fun _ => none))); all_goals (cases h9 : anyH qs; (focus rfl); exact decide_eq_true (show (0 : Int) ≤ ((qs.findIdx (fun q => q.held) : Nat) : Int) from Int.natCast_nonneg _)))
    | (fail)

end Go.Proofs.Ytakfkbciijahgaa
namespace Go.Proofs.Ytakfkbciijahgaa
open Go Go.RowKit Wx
set_option linter.unusedVariables false
set_option linter.unusedSimpArgs false
set_option maxHeartbeats 4000000
theorem mayBe_con (qs : List Qu) (n d : Int) (hq : qs.length ≤ 9223372036854775807) (hlq : ∀ q ∈ qs, q.es.length ≤ 9223372036854775807) (huq : ∀ q ∈ qs, ∀ e ∈ q.es, 0 ≤ e.num) : Con Try.prog 36 [.agg [.ro false 4 (qs.map eQ), .v (.int .u64 n), .v (.int .u64 d)]] (fun rx rK rt => rx = .val (.bool (okG qs n d)) ∧ rK = [] ∧ rt = 0) := by
  refine Z.con_ofF tabOk 53 Try.f36 _ Try.func36 (by kernel_rfl) rfl rfl rfl rfl ?_
  by_cases hz : (1 ≤ qs.length ∧ qs.length ≤ 16) ∧ n ≤ 4611686018427387904 ∧ d ≤ 4611686018427387904
  · have hpre : okG qs n d = ((anyH qs == decide (n > 0)) && qs.all okQ && (!anyH qs || (decide (d < n) && !allD qs))) := by
      unfold okG; rw [decide_eq_true hz, Bool.true_and]
    repeat' ((conv => whnf); first
      | with_reducible first | refine spB_t ?_
      | ((with_reducible apply spB_cong); (focus (simp only [beq_self_eq_true, bne_self_eq_false, Bool.true_bne, Bool.false_bne, Bool.bne_true, Bool.bne_false, Bool.true_beq, Bool.false_beq, Bool.not_true, Bool.not_false, Bool.not_not, Int.reduceBEq, Int.reduceBNe, Int.reduceLE, Int.reduceLT, Int.reduceEq, decide_true, decide_false]; rfl)))
      | with_reducible first | refine spB_yes (by decide) ?_ | refine spB_no (by decide) ?_ | refine spB_f ?_ | refine spB_not ?_ | refine spB_yes (by assumption) ?_ | refine spB_no (by assumption) ?_
      | (with_reducible refine spB_dec ?_ ?_ <;> intro _ <;> (try (exfalso; first | contradiction | omega | (simp only [LN] at *; omega))))
      | (with_reducible refine spB_beq ?_ ?_ <;> intro _ <;> (try (exfalso; first | contradiction | omega | (simp only [LN] at *; omega))))
      | (with_reducible refine spB_bne ?_ ?_ <;> intro _ <;> (try (exfalso; first | contradiction | omega | (simp only [LN] at *; omega))))
      | (with_reducible refine spB_mk ?_ ?_ <;> intro _ <;> (try (exfalso; first | contradiction | omega | (simp only [LN] at *; omega))))
      | ((with_reducible apply rowN_mk); (focus rfl))
      | ((with_reducible apply ixN_lit); (focus (exact rfl)); (focus (exact rfl)))
      | ((with_reducible apply ixN_litp); (focus (exact rfl)); (focus ((try simp only [LN] at *) <;> omega)))
      | ((with_reducible refine eqN_mk2 ?_ ?_); (focus rfl))
      | with_reducible refine wr_i64 (by first | omega | (simp only [LN] at *; omega)) ?_
      | with_reducible refine wr_u64 (by omega) ?_
      | with_reducible first | refine wr_mk _ rfl ?_
      | ((with_reducible refine ixN_nat ?_ ?_); (focus ((try simp only [LN] at *) <;> omega)))
      | ((with_reducible refine rowN_map ?_ ?_); (focus ((try simp only [LN] at *) <;> omega)); intro x hx)
      | with_reducible refine eqN_dec (by omega) ?_
      | with_reducible first | refine apN_mk (by kernel_rfl) ?_
      | ((first | (with_reducible apply Z.conZ_mz ?_ (held_con _) ?_) | (with_reducible apply Z.callZ_mk ?_ (held_con _) ?_) | (with_reducible apply Z.conZ_mz ?_ (done_con _) ?_) | (with_reducible apply Z.callZ_mk ?_ (done_con _) ?_)); (rotate_left 1); (focus ((repeat' (first | exact trivial | exact rfl | exact Z.low_nil | exact Z.low_nil2 | exact low_osl (fun _ => rfl) | (refine Z.low_osln ?_ (fun _ => rfl); (simp only [List.length_map]; done)) | exact low_oslr (fun _ => rfl) | exact Z.low_gslm (by first | rfl | exact Z.kb_some rfl) (fun _ => rfl) | exact .inl rfl | exact .inr ⟨_, rfl⟩ | apply And.intro)); done)))
      | ((first | (with_reducible apply Z.conZ_mz ?_ (conH_con _ ?_) ?_) | (with_reducible apply Z.callZ_mk ?_ (conH_con _ ?_) ?_)); (rotate_left 1); (focus ((repeat' (first | exact trivial | exact rfl | exact Z.low_nil | exact Z.low_nil2 | exact low_osl (fun _ => rfl) | (refine Z.low_osln ?_ (fun _ => rfl); (simp only [List.length_map]; done)) | exact low_oslr (fun _ => rfl) | exact Z.low_gslm (by first | rfl | exact Z.kb_some rfl) (fun _ => rfl) | exact .inl rfl | exact .inr ⟨_, rfl⟩ | apply And.intro)); done)); (iterate 1 (focus (first | assumption | omega | ((try simp only [LN] at *); omega)))))
      | ((first | (with_reducible apply Z.conZ_mz ?_ (mayQ_con _ ?_ ?_) ?_) | (with_reducible apply Z.callZ_mk ?_ (mayQ_con _ ?_ ?_) ?_)); (rotate_left 1); (focus ((repeat' (first | exact trivial | exact rfl | exact Z.low_nil | exact Z.low_nil2 | exact low_osl (fun _ => rfl) | (refine Z.low_osln ?_ (fun _ => rfl); (simp only [List.length_map]; done)) | exact low_oslr (fun _ => rfl) | exact Z.low_gslm (by first | rfl | exact Z.kb_some rfl) (fun _ => rfl) | exact .inl rfl | exact .inr ⟨_, rfl⟩ | apply And.intro)); done)); (iterate 2 (focus (first | assumption | omega | ((try simp only [LN] at *); omega)))))
      | ((first | (with_reducible apply Z.conZ_mz ?_ (allM_con _ ?_ ?_ ?_) ?_) | (with_reducible apply Z.callZ_mk ?_ (allM_con _ ?_ ?_ ?_) ?_)); (rotate_left 1); (focus ((repeat' (first | exact trivial | exact rfl | exact Z.low_nil | exact Z.low_nil2 | exact low_osl (fun _ => rfl) | (refine Z.low_osln ?_ (fun _ => rfl); (simp only [List.length_map]; done)) | exact low_oslr (fun _ => rfl) | exact Z.low_gslm (by first | rfl | exact Z.kb_some rfl) (fun _ => rfl) | exact .inl rfl | exact .inr ⟨_, rfl⟩ | apply And.intro)); done)); (iterate 3 (focus (first | assumption | omega | ((try simp only [LN] at *); omega)))))
      | ((first | (with_reducible apply Z.conZ_mz ?_ (allE_con _ ?_) ?_) | (with_reducible apply Z.callZ_mk ?_ (allE_con _ ?_) ?_)); (rotate_left 1); (focus ((repeat' (first | exact trivial | exact rfl | exact Z.low_nil | exact Z.low_nil2 | exact low_osl (fun _ => rfl) | (refine Z.low_osln ?_ (fun _ => rfl); (simp only [List.length_map]; done)) | exact low_oslr (fun _ => rfl) | exact Z.low_gslm (by first | rfl | exact Z.kb_some rfl) (fun _ => rfl) | exact .inl rfl | exact .inr ⟨_, rfl⟩ | apply And.intro)); done)); (iterate 1 (focus (first | assumption | omega | ((try simp only [LN] at *); omega)))))
      | ((first | (with_reducible apply Z.conZ_mz ?_ (allD_con _ ?_) ?_) | (with_reducible apply Z.callZ_mk ?_ (allD_con _ ?_) ?_)); (rotate_left 1); (focus ((repeat' (first | exact trivial | exact rfl | exact Z.low_nil | exact Z.low_nil2 | exact low_osl (fun _ => rfl) | (refine Z.low_osln ?_ (fun _ => rfl); (simp only [List.length_map]; done)) | exact low_oslr (fun _ => rfl) | exact Z.low_gslm (by first | rfl | exact Z.kb_some rfl) (fun _ => rfl) | exact .inl rfl | exact .inr ⟨_, rfl⟩ | apply And.intro)); done)); (iterate 1 (focus (first | assumption | omega | ((try simp only [LN] at *); omega)))))
      | ((with_reducible refine eqN_mk2 ?_ ?_); (focus (exact Z.kb_some rfl)))
      | ((with_reducible apply ex_and); exact rfl))
    all_goals (try (conv => whnf))
    rotate_left
    all_goals try (exfalso; omega)
    all_goals first
      | ((first | (with_reducible apply Z.retF1) | (with_reducible apply Z.retF2) | (with_reducible apply Z.retF0)); (focus (exact rfl)); (repeat' (first | exact trivial | (with_reducible apply Z.frz_one) | (with_reducible apply Z.frz_agg) | (with_reducible apply Z.fq_int) | (with_reducible apply Z.fq_bool) | (exact Z.frz_nil) | (exact Z.frz_osl0 rfl rfl rfl) | (with_reducible apply Z.fq_nil) | (with_reducible apply Z.fq_ro) | ((with_reducible apply Z.fq_gsl); (focus (first | rfl | exact Z.isB_map _ | exact Z.gB_snoc.symm)); (focus (exact fun _ => rfl))) | ((with_reducible apply Z.fq_osl); (focus (exact rfl)); (focus (first | exact rfl | (simp only [List.length_map, Nat.zero_add]; done) | ((try simp only [LN] at *) <;> omega))); (focus (exact fun _ => rfl))) | ((with_reducible apply Z.fq_src); (focus (exact rfl)); (focus (first | exact rfl | (simp only [List.length_map, Nat.zero_add]; done) | ((try simp only [LN] at *) <;> omega))); (focus (exact fun _ => rfl))) | exact rfl | ((apply Z.fq_osl); (focus (exact rfl)); (focus (first | exact rfl | (simp only [List.length_map, Nat.zero_add]; done) | ((try simp only [LN] at *) <;> omega))); (focus (exact fun _ => rfl))) | ((apply Z.fq_src); (focus (exact rfl)); (focus (first | exact rfl | (simp only [List.length_map, Nat.zero_add]; done) | ((try simp only [LN] at *) <;> omega))); (focus (exact fun _ => rfl))) | (apply Z.fq_ro) | (apply Z.fq_int) | (apply Z.fq_bool) | apply And.intro)); (all_goals (try exact (fun _ => none))); all_goals (rw [hpre]; unfold allD; first | (simp_all; done) | (rw [decide_eq_false (p := d < n) (by assumption)]; first | (simp_all; done) | (cases h1 : anyH qs <;> simp_all; done)) | (cases h1 : anyH qs <;> cases h2 : qs.all okQ <;> simp_all; done)))
      | (fail)
  · have hpre : okG qs n d = false := by unfold okG; rw [decide_eq_false hz]; rfl
    repeat' ((conv => whnf); first
      | with_reducible first | refine spB_t ?_
      | ((with_reducible apply spB_cong); (focus (simp only [beq_self_eq_true, bne_self_eq_false, Bool.true_bne, Bool.false_bne, Bool.bne_true, Bool.bne_false, Bool.true_beq, Bool.false_beq, Bool.not_true, Bool.not_false, Bool.not_not, Int.reduceBEq, Int.reduceBNe, Int.reduceLE, Int.reduceLT, Int.reduceEq, decide_true, decide_false]; rfl)))
      | with_reducible first | refine spB_yes (by decide) ?_ | refine spB_no (by decide) ?_ | refine spB_f ?_ | refine spB_not ?_ | refine spB_yes (by assumption) ?_ | refine spB_no (by assumption) ?_
      | (with_reducible refine spB_dec ?_ ?_ <;> intro _ <;> (try (exfalso; first | contradiction | omega | (simp only [LN] at *; omega))))
      | (with_reducible refine spB_beq ?_ ?_ <;> intro _ <;> (try (exfalso; first | contradiction | omega | (simp only [LN] at *; omega))))
      | (with_reducible refine spB_bne ?_ ?_ <;> intro _ <;> (try (exfalso; first | contradiction | omega | (simp only [LN] at *; omega))))
      | (with_reducible refine spB_mk ?_ ?_ <;> intro _ <;> (try (exfalso; first | contradiction | omega | (simp only [LN] at *; omega))))
      | ((with_reducible apply rowN_mk); (focus rfl))
      | ((with_reducible apply ixN_lit); (focus (exact rfl)); (focus (exact rfl)))
      | ((with_reducible apply ixN_litp); (focus (exact rfl)); (focus ((try simp only [LN] at *) <;> omega)))
      | ((with_reducible refine eqN_mk2 ?_ ?_); (focus rfl))
      | with_reducible refine wr_i64 (by first | omega | (simp only [LN] at *; omega)) ?_
      | with_reducible refine wr_u64 (by omega) ?_
      | with_reducible first | refine wr_mk _ rfl ?_
      | ((with_reducible refine ixN_nat ?_ ?_); (focus ((try simp only [LN] at *) <;> omega)))
      | ((with_reducible refine rowN_map ?_ ?_); (focus ((try simp only [LN] at *) <;> omega)); intro x hx)
      | with_reducible refine eqN_dec (by omega) ?_
      | with_reducible first | refine apN_mk (by kernel_rfl) ?_
      | ((first | (with_reducible apply Z.conZ_mz ?_ (held_con _) ?_) | (with_reducible apply Z.callZ_mk ?_ (held_con _) ?_) | (with_reducible apply Z.conZ_mz ?_ (done_con _) ?_) | (with_reducible apply Z.callZ_mk ?_ (done_con _) ?_)); (rotate_left 1); (focus ((repeat' (first | exact trivial | exact rfl | exact Z.low_nil | exact Z.low_nil2 | exact low_osl (fun _ => rfl) | (refine Z.low_osln ?_ (fun _ => rfl); (simp only [List.length_map]; done)) | exact low_oslr (fun _ => rfl) | exact Z.low_gslm (by first | rfl | exact Z.kb_some rfl) (fun _ => rfl) | exact .inl rfl | exact .inr ⟨_, rfl⟩ | apply And.intro)); done)))
      | ((first | (with_reducible apply Z.conZ_mz ?_ (conH_con _ ?_) ?_) | (with_reducible apply Z.callZ_mk ?_ (conH_con _ ?_) ?_)); (rotate_left 1); (focus ((repeat' (first | exact trivial | exact rfl | exact Z.low_nil | exact Z.low_nil2 | exact low_osl (fun _ => rfl) | (refine Z.low_osln ?_ (fun _ => rfl); (simp only [List.length_map]; done)) | exact low_oslr (fun _ => rfl) | exact Z.low_gslm (by first | rfl | exact Z.kb_some rfl) (fun _ => rfl) | exact .inl rfl | exact .inr ⟨_, rfl⟩ | apply And.intro)); done)); (iterate 1 (focus (first | assumption | omega | ((try simp only [LN] at *); omega)))))
      | ((first | (with_reducible apply Z.conZ_mz ?_ (mayQ_con _ ?_ ?_) ?_) | (with_reducible apply Z.callZ_mk ?_ (mayQ_con _ ?_ ?_) ?_)); (rotate_left 1); (focus ((repeat' (first | exact trivial | exact rfl | exact Z.low_nil | exact Z.low_nil2 | exact low_osl (fun _ => rfl) | (refine Z.low_osln ?_ (fun _ => rfl); (simp only [List.length_map]; done)) | exact low_oslr (fun _ => rfl) | exact Z.low_gslm (by first | rfl | exact Z.kb_some rfl) (fun _ => rfl) | exact .inl rfl | exact .inr ⟨_, rfl⟩ | apply And.intro)); done)); (iterate 2 (focus (first | assumption | omega | ((try simp only [LN] at *); omega)))))
      | ((first | (with_reducible apply Z.conZ_mz ?_ (allM_con _ ?_ ?_ ?_) ?_) | (with_reducible apply Z.callZ_mk ?_ (allM_con _ ?_ ?_ ?_) ?_)); (rotate_left 1); (focus ((repeat' (first | exact trivial | exact rfl | exact Z.low_nil | exact Z.low_nil2 | exact low_osl (fun _ => rfl) | (refine Z.low_osln ?_ (fun _ => rfl); (simp only [List.length_map]; done)) | exact low_oslr (fun _ => rfl) | exact Z.low_gslm (by first | rfl | exact Z.kb_some rfl) (fun _ => rfl) | exact .inl rfl | exact .inr ⟨_, rfl⟩ | apply And.intro)); done)); (iterate 3 (focus (first | assumption | omega | ((try simp only [LN] at *); omega)))))
      | ((first | (with_reducible apply Z.conZ_mz ?_ (allE_con _ ?_) ?_) | (with_reducible apply Z.callZ_mk ?_ (allE_con _ ?_) ?_)); (rotate_left 1); (focus ((repeat' (first | exact trivial | exact rfl | exact Z.low_nil | exact Z.low_nil2 | exact low_osl (fun _ => rfl) | (refine Z.low_osln ?_ (fun _ => rfl); (simp only [List.length_map]; done)) | exact low_oslr (fun _ => rfl) | exact Z.low_gslm (by first | rfl | exact Z.kb_some rfl) (fun _ => rfl) | exact .inl rfl | exact .inr ⟨_, rfl⟩ | apply And.intro)); done)); (iterate 1 (focus (first | assumption | omega | ((try simp only [LN] at *); omega)))))
      | ((first | (with_reducible apply Z.conZ_mz ?_ (allD_con _ ?_) ?_) | (with_reducible apply Z.callZ_mk ?_ (allD_con _ ?_) ?_)); (rotate_left 1); (focus ((repeat' (first | exact trivial | exact rfl | exact Z.low_nil | exact Z.low_nil2 | exact low_osl (fun _ => rfl) | (refine Z.low_osln ?_ (fun _ => rfl); (simp only [List.length_map]; done)) | exact low_oslr (fun _ => rfl) | exact Z.low_gslm (by first | rfl | exact Z.kb_some rfl) (fun _ => rfl) | exact .inl rfl | exact .inr ⟨_, rfl⟩ | apply And.intro)); done)); (iterate 1 (focus (first | assumption | omega | ((try simp only [LN] at *); omega)))))
      | ((with_reducible refine eqN_mk2 ?_ ?_); (focus (exact Z.kb_some rfl)))
      | ((with_reducible apply ex_and); exact rfl))
    all_goals (try (conv => whnf))
    all_goals first
      | ((first | (with_reducible apply Z.retF1) | (with_reducible apply Z.retF2) | (with_reducible apply Z.retF0)); (focus (exact rfl)); (repeat' (first | exact trivial | (with_reducible apply Z.frz_one) | (with_reducible apply Z.frz_agg) | (with_reducible apply Z.fq_int) | (with_reducible apply Z.fq_bool) | (exact Z.frz_nil) | (exact Z.frz_osl0 rfl rfl rfl) | (with_reducible apply Z.fq_nil) | (with_reducible apply Z.fq_ro) | ((with_reducible apply Z.fq_gsl); (focus (first | rfl | exact Z.isB_map _ | exact Z.gB_snoc.symm)); (focus (exact fun _ => rfl))) | ((with_reducible apply Z.fq_osl); (focus (exact rfl)); (focus (first | exact rfl | (simp only [List.length_map, Nat.zero_add]; done) | ((try simp only [LN] at *) <;> omega))); (focus (exact fun _ => rfl))) | ((with_reducible apply Z.fq_src); (focus (exact rfl)); (focus (first | exact rfl | (simp only [List.length_map, Nat.zero_add]; done) | ((try simp only [LN] at *) <;> omega))); (focus (exact fun _ => rfl))) | exact rfl | ((apply Z.fq_osl); (focus (exact rfl)); (focus (first | exact rfl | (simp only [List.length_map, Nat.zero_add]; done) | ((try simp only [LN] at *) <;> omega))); (focus (exact fun _ => rfl))) | ((apply Z.fq_src); (focus (exact rfl)); (focus (first | exact rfl | (simp only [List.length_map, Nat.zero_add]; done) | ((try simp only [LN] at *) <;> omega))); (focus (exact fun _ => rfl))) | (apply Z.fq_ro) | (apply Z.fq_int) | (apply Z.fq_bool) | apply And.intro)); (all_goals (try exact (fun _ => none))); all_goals (rw [hpre]))
      | (exfalso; simp only [LN] at *; omega)
      | (fail)

end Go.Proofs.Ytakfkbciijahgaa
namespace Go.Proofs.Ytakfkbciijahgaa
open Go Go.RowKit Wx
set_option linter.unusedVariables false
set_option linter.unusedSimpArgs false
set_option maxHeartbeats 4000000
end Go.Proofs.Ytakfkbciijahgaa
namespace Go.Proofs.Ytakfkbciijahgaa
open Go Go.RowKit Wx
set_option linter.unusedVariables false
set_option linter.unusedSimpArgs false
set_option maxHeartbeats 4000000
section
open Z
variable {m : Nat}
end
def big (qs : List Qu) : Bool := decide (qs.length > 50) || qs.any (fun q => decide (q.es.length > 50))
def tot : List Qu → Nat
  | [] => 0
  | q :: r => q.es.length + tot r
theorem tot_at {l : List Qu} {i : Nat} {x : Qu} (h : l[i]? = some x) : tot (l.drop i) = x.es.length + tot (l.drop (i + 1)) := by rw [drop_cons h]; rfl
theorem tot_le {k : Nat} : ∀ {l : List Qu}, (∀ q ∈ l, q.es.length ≤ k) → tot l ≤ l.length * k
  | [], _ => Nat.zero_le _
  | q :: r, h => by
    have h1 := tot_le (l := r) fun q hq => h q (List.mem_cons_of_mem _ hq)
    have h2 := h q List.mem_cons_self
    rw [tot, List.length_cons, Nat.succ_mul]; omega
theorem okQ_len {q : Qu} (h : okQ q = true) : q.es.length ≤ 4 := by
  unfold okQ at h
  simp only [Bool.and_eq_true, decide_eq_true_eq] at h
  exact h.1.1.1
theorem okG_all {qs : List Qu} {n d : Int} (h : okG qs n d = true) : (1 ≤ qs.length ∧ qs.length ≤ 16) ∧ ∀ q ∈ qs, q.es.length ≤ 4 := by
  unfold okG at h
  simp only [Bool.and_eq_true, decide_eq_true_eq, List.all_eq_true] at h
  exact ⟨h.1.1.1.1, fun q hq => okQ_len (h.1.2 q hq)⟩
end Go.Proofs.Ytakfkbciijahgaa
namespace Go.Proofs.Ytakfkbciijahgaa
open Go Go.RowKit Wx
set_option linter.unusedVariables false
set_option linter.unusedSimpArgs false
set_option maxHeartbeats 4000000
theorem check_con (qs : List Qu) (n d : Int) (hq : qs.length ≤ 9223372036854775807) (hlq : ∀ q ∈ qs, q.es.length ≤ 9223372036854775807) (huq : ∀ q ∈ qs, ∀ e ∈ q.es, 0 ≤ e.num) : Con Try.prog 22 [.agg [.ro false 4 (qs.map eQ), .v (.int .u64 n), .v (.int .u64 d)]] (fun rx rK rt => rx = .val (.int .i64 (bif okG qs n d then 0 else 250)) ∧ rK = [] ∧ rt = 0) := by
  refine Z.con_ofF tabOk 6 Try.f22 _ Try.func22 (by kernel_rfl) rfl rfl rfl rfl ?_
  repeat' ((conv => whnf); first
    | with_reducible first | refine spB_t ?_
    | ((with_reducible apply spB_cong); (focus (simp only [beq_self_eq_true, bne_self_eq_false, Bool.true_bne, Bool.false_bne, Bool.bne_true, Bool.bne_false, Bool.true_beq, Bool.false_beq, Bool.not_true, Bool.not_false, Bool.not_not, Int.reduceBEq, Int.reduceBNe, Int.reduceLE, Int.reduceLT, Int.reduceEq, decide_true, decide_false]; rfl)))
    | with_reducible first | refine spB_yes (by decide) ?_ | refine spB_no (by decide) ?_ | refine spB_f ?_ | refine spB_not ?_ | refine spB_yes (by assumption) ?_ | refine spB_no (by assumption) ?_
    | (with_reducible refine spB_dec ?_ ?_ <;> intro _ <;> (try (exfalso; first | contradiction | omega | (rename_i hz; with_reducible exact absurd rfl hz))))
    | (with_reducible refine spB_beq ?_ ?_ <;> intro _ <;> (try (exfalso; first | contradiction | omega | (rename_i hz; with_reducible exact absurd rfl hz))))
    | (with_reducible refine spB_bne ?_ ?_ <;> intro _ <;> (try (exfalso; first | contradiction | omega | (rename_i hz; with_reducible exact absurd rfl hz))))
    | (with_reducible refine spB_mk ?_ ?_ <;> intro _ <;> (try (exfalso; first | contradiction | omega | (rename_i hz; with_reducible exact absurd rfl hz))))
    | ((with_reducible apply rowN_mk); (focus rfl))
    | ((with_reducible apply ixN_lit); (focus (exact rfl)); (focus (exact rfl)))
    | ((with_reducible apply ixN_litp); (focus (exact rfl)); (focus ((try simp only [LN] at *) <;> omega)))
    | ((with_reducible refine eqN_mk2 ?_ ?_); (focus rfl))
    | with_reducible refine wr_i64 (by first | omega | (simp only [LN] at *; omega)) ?_
    | with_reducible refine wr_u64 (by omega) ?_
    | with_reducible first | refine wr_mk _ rfl ?_
    | ((with_reducible refine ixN_nat ?_ ?_); (focus ((try simp only [LN] at *) <;> omega)))
    | ((with_reducible refine rowN_map ?_ ?_); (focus ((try simp only [LN] at *) <;> omega)); intro x hx)
    | with_reducible refine eqN_dec (by omega) ?_
    | with_reducible first | refine apN_mk (by kernel_rfl) ?_
    | ((first | (with_reducible apply Z.conZ_mz ?_ (mayBe_con _ _ _ ?_ ?_ ?_) ?_) | (with_reducible apply Z.callZ_mk ?_ (mayBe_con _ _ _ ?_ ?_ ?_) ?_)); (rotate_left 3); (focus ((repeat' (first | exact trivial | exact rfl | exact Z.low_nil | exact Z.low_nil2 | exact low_osl (fun _ => rfl) | (refine Z.low_osln ?_ (fun _ => rfl); (simp only [List.length_map]; done)) | exact low_oslr (fun _ => rfl) | exact Z.low_gslm (by first | rfl | exact Z.kb_some rfl) (fun _ => rfl) | exact .inl rfl | exact .inr ⟨_, rfl⟩ | apply And.intro)); done)); (iterate 3 (focus (first | assumption | omega | ((try simp only [LN] at *); omega)))))
    | ((with_reducible refine eqN_mk2 ?_ ?_); (focus (exact Z.kb_some rfl)))
    | ((with_reducible apply ex_and); exact rfl))
  all_goals (try (conv => whnf))
  all_goals first
    | ((first | (with_reducible apply Z.retF1) | (with_reducible apply Z.retF2) | (with_reducible apply Z.retF0)); (focus (exact rfl)); (repeat' (first | exact trivial | (with_reducible apply Z.frz_one) | (with_reducible apply Z.frz_agg) | (with_reducible apply Z.fq_int) | (with_reducible apply Z.fq_bool) | (exact Z.frz_nil) | (exact Z.frz_osl0 rfl rfl rfl) | (with_reducible apply Z.fq_nil) | (with_reducible apply Z.fq_ro) | ((with_reducible apply Z.fq_gsl); (focus (first | rfl | exact Z.isB_map _ | exact Z.gB_snoc.symm)); (focus (exact fun _ => rfl))) | ((with_reducible apply Z.fq_osl); (focus (exact rfl)); (focus (first | exact rfl | (simp only [List.length_map, Nat.zero_add]; done) | ((try simp only [LN] at *) <;> omega))); (focus (exact fun _ => rfl))) | ((with_reducible apply Z.fq_src); (focus (exact rfl)); (focus (first | exact rfl | (simp only [List.length_map, Nat.zero_add]; done) | ((try simp only [LN] at *) <;> omega))); (focus (exact fun _ => rfl))) | exact rfl | ((apply Z.fq_osl); (focus (exact rfl)); (focus (first | exact rfl | (simp only [List.length_map, Nat.zero_add]; done) | ((try simp only [LN] at *) <;> omega))); (focus (exact fun _ => rfl))) | ((apply Z.fq_src); (focus (exact rfl)); (focus (first | exact rfl | (simp only [List.length_map, Nat.zero_add]; done) | ((try simp only [LN] at *) <;> omega))); (focus (exact fun _ => rfl))) | (apply Z.fq_ro) | (apply Z.fq_int) | (apply Z.fq_bool) | apply And.intro)); (all_goals (try exact (fun _ => none))); all_goals (first | (rw [show okG qs n d = true by simp_all]; rfl) | (rw [show okG qs n d = false by simp_all]; rfl)))
    | (fail)

theorem full_con (qs : List Qu) (n d : Int) (hq : qs.length ≤ 9223372036854775807) (hlq : ∀ q ∈ qs, q.es.length ≤ 9223372036854775807) (huq : ∀ q ∈ qs, ∀ e ∈ q.es, 0 ≤ e.num) : Con Try.prog 25 [.agg [.ro false 4 (qs.map eQ), .v (.int .u64 n), .v (.int .u64 d)]] (fun rx rK rt => rx = .val (.int .i64 (bif okG qs n d then (tot qs : Int) else 0)) ∧ rK = [] ∧ rt = 0) := by
  refine Z.con_ofF tabOk 22 Try.f25 _ Try.func25 (by kernel_rfl) rfl rfl rfl rfl ?_
  cases hok : okG qs n d with
  | false =>
    repeat' ((conv => whnf); first
      | with_reducible first | refine spB_t ?_
      | ((with_reducible apply spB_cong); (focus (simp only [beq_self_eq_true, bne_self_eq_false, Bool.true_bne, Bool.false_bne, Bool.bne_true, Bool.bne_false, Bool.true_beq, Bool.false_beq, Bool.not_true, Bool.not_false, Bool.not_not, Int.reduceBEq, Int.reduceBNe, Int.reduceLE, Int.reduceLT, Int.reduceEq, decide_true, decide_false, hok]; rfl)))
      | with_reducible first | refine spB_yes (by decide) ?_ | refine spB_no (by decide) ?_ | refine spB_f ?_ | refine spB_not ?_ | refine spB_yes (by assumption) ?_ | refine spB_no (by assumption) ?_
      | (with_reducible refine spB_dec ?_ ?_ <;> intro _ <;> (try (exfalso; first | contradiction | omega | (rename_i hz; with_reducible exact absurd rfl hz))))
      | (with_reducible refine spB_beq ?_ ?_ <;> intro _ <;> (try (exfalso; first | contradiction | omega | (rename_i hz; with_reducible exact absurd rfl hz))))
      | (with_reducible refine spB_bne ?_ ?_ <;> intro _ <;> (try (exfalso; first | contradiction | omega | (rename_i hz; with_reducible exact absurd rfl hz))))
      | (with_reducible refine spB_mk ?_ ?_ <;> intro _ <;> (try (exfalso; first | contradiction | omega | (rename_i hz; with_reducible exact absurd rfl hz))))
      | ((with_reducible apply rowN_mk); (focus rfl))
      | ((with_reducible apply ixN_lit); (focus (exact rfl)); (focus (exact rfl)))
      | ((with_reducible apply ixN_litp); (focus (exact rfl)); (focus ((try simp only [LN] at *) <;> omega)))
      | ((with_reducible refine eqN_mk2 ?_ ?_); (focus rfl))
      | with_reducible refine wr_i64 (by first | omega | (simp only [LN] at *; omega)) ?_
      | with_reducible refine wr_u64 (by omega) ?_
      | with_reducible refine wr_u8 (by omega) ?_
      | with_reducible refine wr_u32 (by omega) ?_
      | with_reducible first | refine wr_mk _ rfl ?_
      | ((with_reducible refine ixN_nat ?_ ?_); (focus ((try simp only [LN] at *) <;> omega)))
      | ((with_reducible refine rowN_map ?_ ?_); (focus ((try simp only [LN] at *) <;> omega)); intro x hx)
      | with_reducible refine eqN_dec (by omega) ?_
      | with_reducible first | refine apN_mk (by kernel_rfl) ?_
      | ((first | (with_reducible apply Z.conZ_mz ?_ (mayBe_con _ _ _ ?_ ?_ ?_) ?_) | (with_reducible apply Z.callZ_mk ?_ (mayBe_con _ _ _ ?_ ?_ ?_) ?_)); (rotate_left 3); (focus ((repeat' (first | exact trivial | exact rfl | exact Z.low_nil | exact Z.low_nil2 | exact low_osl (fun _ => rfl) | (refine Z.low_osln ?_ (fun _ => rfl); (simp only [List.length_map]; done)) | exact low_oslr (fun _ => rfl) | exact Z.low_gslm (by first | rfl | exact Z.kb_some rfl) (fun _ => rfl) | exact .inl rfl | exact .inr ⟨_, rfl⟩ | apply And.intro)); done)); (iterate 3 (focus (first | assumption | omega | ((try simp only [LN] at *); omega)))))
      | ((with_reducible refine eqN_mk2 ?_ ?_); (focus (exact Z.kb_some rfl)))
      | ((with_reducible apply ex_and); exact rfl))
    all_goals (try (conv => whnf))
    all_goals first
      | ((first | (with_reducible apply Z.retF1) | (with_reducible apply Z.retF2) | (with_reducible apply Z.retF0)); (focus (exact rfl)); (repeat' (first | exact trivial | (with_reducible apply Z.frz_one) | (with_reducible apply Z.frz_agg) | (with_reducible apply Z.fq_int) | (with_reducible apply Z.fq_bool) | (exact Z.frz_nil) | (exact Z.frz_osl0 rfl rfl rfl) | (with_reducible apply Z.fq_nil) | (with_reducible apply Z.fq_ro) | ((with_reducible apply Z.fq_gsl); (focus (first | rfl | exact Z.isB_map _ | exact Z.gB_snoc.symm)); (focus (exact fun _ => rfl))) | ((with_reducible apply Z.fq_osl); (focus (exact rfl)); (focus (first | exact rfl | (simp only [List.length_map, Nat.zero_add]; done) | ((try simp only [LN] at *) <;> omega))); (focus (exact fun _ => rfl))) | ((with_reducible apply Z.fq_src); (focus (exact rfl)); (focus (first | exact rfl | (simp only [List.length_map, Nat.zero_add]; done) | ((try simp only [LN] at *) <;> omega))); (focus (exact fun _ => rfl))) | exact rfl | ((apply Z.fq_osl); (focus (exact rfl)); (focus (first | exact rfl | (simp only [List.length_map, Nat.zero_add]; done) | ((try simp only [LN] at *) <;> omega))); (focus (exact fun _ => rfl))) | ((apply Z.fq_src); (focus (exact rfl)); (focus (first | exact rfl | (simp only [List.length_map, Nat.zero_add]; done) | ((try simp only [LN] at *) <;> omega))); (focus (exact fun _ => rfl))) | (apply Z.fq_ro) | (apply Z.fq_int) | (apply Z.fq_bool) | apply And.intro)); (all_goals (try exact (fun _ => none))); all_goals (rfl))
      | (exfalso; simp_all; done)
      | (fail)
  | true =>
    obtain ⟨hn1, hn4⟩ := okG_all hok
    have ht := tot_le hn4
    repeat' ((conv => whnf); first
      | with_reducible first | refine spB_t ?_
      | ((with_reducible apply spB_cong); (focus (simp only [beq_self_eq_true, bne_self_eq_false, Bool.true_bne, Bool.false_bne, Bool.bne_true, Bool.bne_false, Bool.true_beq, Bool.false_beq, Bool.not_true, Bool.not_false, Bool.not_not, Int.reduceBEq, Int.reduceBNe, Int.reduceLE, Int.reduceLT, Int.reduceEq, decide_true, decide_false, hok]; rfl)))
      | with_reducible first | refine spB_yes (by decide) ?_ | refine spB_no (by decide) ?_ | refine spB_f ?_ | refine spB_not ?_ | refine spB_yes (by assumption) ?_ | refine spB_no (by assumption) ?_
      | (with_reducible refine spB_dec ?_ ?_ <;> intro _ <;> (try (exfalso; first | contradiction | omega | (rename_i hz; with_reducible exact absurd rfl hz))))
      | (with_reducible refine spB_beq ?_ ?_ <;> intro _ <;> (try (exfalso; first | contradiction | omega | (rename_i hz; with_reducible exact absurd rfl hz))))
      | (with_reducible refine spB_bne ?_ ?_ <;> intro _ <;> (try (exfalso; first | contradiction | omega | (rename_i hz; with_reducible exact absurd rfl hz))))
      | (with_reducible refine spB_mk ?_ ?_ <;> intro _ <;> (try (exfalso; first | contradiction | omega | (rename_i hz; with_reducible exact absurd rfl hz))))
      | ((with_reducible apply rowN_mk); (focus rfl))
      | ((with_reducible apply ixN_lit); (focus (exact rfl)); (focus (exact rfl)))
      | ((with_reducible apply ixN_litp); (focus (exact rfl)); (focus ((try simp only [LN] at *) <;> omega)))
      | ((with_reducible refine eqN_mk2 ?_ ?_); (focus rfl))
      | with_reducible refine wr_i64 (by first | omega | (simp only [LN] at *; omega)) ?_
      | with_reducible refine wr_u64 (by omega) ?_
      | with_reducible refine wr_u8 (by omega) ?_
      | with_reducible refine wr_u32 (by omega) ?_
      | with_reducible first | refine wr_mk _ rfl ?_
      | ((with_reducible refine ixN_nat ?_ ?_); (focus ((try simp only [LN] at *) <;> omega)))
      | ((with_reducible refine rowN_map ?_ ?_); (focus ((try simp only [LN] at *) <;> omega)); intro x hx)
      | with_reducible refine eqN_dec (by omega) ?_
      | with_reducible first | refine apN_mk (by kernel_rfl) ?_
      | ((first | (with_reducible apply Z.conZ_mz ?_ (mayBe_con _ _ _ ?_ ?_ ?_) ?_) | (with_reducible apply Z.callZ_mk ?_ (mayBe_con _ _ _ ?_ ?_ ?_) ?_)); (rotate_left 3); (focus ((repeat' (first | exact trivial | exact rfl | exact Z.low_nil | exact Z.low_nil2 | exact low_osl (fun _ => rfl) | (refine Z.low_osln ?_ (fun _ => rfl); (simp only [List.length_map]; done)) | exact low_oslr (fun _ => rfl) | exact Z.low_gslm (by first | rfl | exact Z.kb_some rfl) (fun _ => rfl) | exact .inl rfl | exact .inr ⟨_, rfl⟩ | apply And.intro)); done)); (iterate 3 (focus (first | assumption | omega | ((try simp only [LN] at *); omega)))))
      | ((with_reducible refine eqN_mk2 ?_ ?_); (focus (exact Z.kb_some rfl)))
      | ((with_reducible apply ex_and); exact rfl))
    all_goals (try (conv => whnf))
    all_goals try (exfalso; simp_all; done)
    refine Z.loopK tabOk (fun zq : Nat × Nat => [(11, .val (.int .i64 (zq.1 : Int))), (2, .val (.int .i64 (zq.2 : Int)))]) (fun zq : Nat × Nat => ([] : Z.Kr)) (fun zq => zq.1 ≤ qs.length ∧ zq.2 + tot (qs.drop zq.1) = tot qs) (fun zq => qs.length - zq.1) (0, 0) 1 [(9, _), (10, _)] ⟨rfl, rfl, trivial⟩ [(0, some _)] ⟨rfl, trivial⟩ ?_ ?_ rfl rfl ⟨Nat.zero_le _, by simp⟩ ?_
    · repeat' (first | exact trivial | apply And.intro | exact ⟨_, rfl, rfl⟩ | exact ⟨_, rfl, Z.Imp.refl _⟩ | exact ⟨_, rfl, Z.Imp.nilg _⟩ | exact ⟨_, rfl, Z.Imp.nilr _ _⟩)
    · repeat' (first | exact trivial | (intro b hb; cases hb; done) | exact (fun b hb => ⟨b, hb, Z.ImpO.refl b⟩) | (intro b hb; cases hb; refine ⟨_, rfl, ⟨rfl, rfl, rfl⟩, ?_⟩; (repeat' (first | exact trivial | apply And.intro | exact Z.Imp.refl _ | exact Z.Imp.nilg _ | exact Z.Imp.nilr _ _)); done) | apply And.intro)
    rintro ⟨i, c⟩ HINV
    dsimp only at HINV ⊢
    obtain ⟨HI, HO⟩ := HINV
    repeat' ((conv => whnf); first
      | with_reducible first | refine spB_t ?_
      | ((with_reducible apply spB_cong); (focus (simp only [beq_self_eq_true, bne_self_eq_false, Bool.true_bne, Bool.false_bne, Bool.bne_true, Bool.bne_false, Bool.true_beq, Bool.false_beq, Bool.not_true, Bool.not_false, Bool.not_not, Int.reduceBEq, Int.reduceBNe, Int.reduceLE, Int.reduceLT, Int.reduceEq, decide_true, decide_false]; rfl)))
      | with_reducible first | refine spB_yes (by decide) ?_ | refine spB_no (by decide) ?_ | refine spB_f ?_ | refine spB_not ?_ | refine spB_yes (by assumption) ?_ | refine spB_no (by assumption) ?_
      | (with_reducible refine spB_dec ?_ ?_ <;> intro _ <;> (try (exfalso; first | contradiction | omega | (rename_i hz; with_reducible exact absurd rfl hz))))
      | (with_reducible refine spB_beq ?_ ?_ <;> intro _ <;> (try (exfalso; first | contradiction | omega | (rename_i hz; with_reducible exact absurd rfl hz))))
      | (with_reducible refine spB_bne ?_ ?_ <;> intro _ <;> (try (exfalso; first | contradiction | omega | (rename_i hz; with_reducible exact absurd rfl hz))))
      | (with_reducible refine spB_mk ?_ ?_ <;> intro _ <;> (try (exfalso; first | contradiction | omega | (rename_i hz; with_reducible exact absurd rfl hz))))
      | ((with_reducible apply rowN_mk); (focus rfl))
      | ((with_reducible apply ixN_lit); (focus (exact rfl)); (focus (exact rfl)))
      | ((with_reducible apply ixN_litp); (focus (exact rfl)); (focus ((try simp only [LN] at *) <;> omega)))
      | ((with_reducible refine eqN_mk2 ?_ ?_); (focus rfl))
      | with_reducible refine wr_i64 (by first | omega | (simp only [LN] at *; omega)) ?_
      | with_reducible refine wr_u64 (by omega) ?_
      | with_reducible refine wr_u8 (by omega) ?_
      | with_reducible refine wr_u32 (by omega) ?_
      | with_reducible first | refine wr_mk _ rfl ?_
      | ((with_reducible refine ixN_nat ?_ ?_); (focus ((try simp only [LN] at *) <;> omega)))
      | ((with_reducible refine rowN_map ?_ ?_); (focus ((try simp only [LN] at *) <;> omega)); intro x hx; have hx4 := hn4 _ (List.mem_of_getElem? hx))
      | with_reducible refine eqN_dec (by omega) ?_
      | with_reducible first | refine apN_mk (by kernel_rfl) ?_
      | ((first | (with_reducible apply Z.conZ_mz ?_ (mayBe_con _ _ _ ?_ ?_ ?_) ?_) | (with_reducible apply Z.callZ_mk ?_ (mayBe_con _ _ _ ?_ ?_ ?_) ?_)); (rotate_left 3); (focus ((repeat' (first | exact trivial | exact rfl | exact Z.low_nil | exact Z.low_nil2 | exact low_osl (fun _ => rfl) | (refine Z.low_osln ?_ (fun _ => rfl); (simp only [List.length_map]; done)) | exact low_oslr (fun _ => rfl) | exact Z.low_gslm (by first | rfl | exact Z.kb_some rfl) (fun _ => rfl) | exact .inl rfl | exact .inr ⟨_, rfl⟩ | apply And.intro)); done)); (iterate 3 (focus (first | assumption | omega | ((try simp only [LN] at *); omega)))))
      | ((with_reducible refine eqN_mk2 ?_ ?_); (focus (exact Z.kb_some rfl)))
      | ((with_reducible apply ex_and); exact rfl))
    all_goals (try (conv => whnf))
    all_goals first
      | ((refine Z.rndK ((i + 1, c + (x.es.map eE).length)) (fun s => [0]) rfl rfl rfl rfl ?_ ?_ ?_ ?_); (focus (repeat' (first | exact trivial | exact rfl | (rw [List.map_append]; exact rfl) | apply And.intro))); (focus (repeat' (first | exact trivial | (intro b hb; cases hb; rfl) | (intro b hb; cases hb; subst hlb; rfl) | (intro b hb; cases hb; rw [List.map_append]; rfl) | (intro b hb; cases hb; done) | exact Z.blk_sub rfl rfl (ren_map fun _ => rfl) | exact Z.blk_sub rfl rfl (Z.ren_app (ren_map fun _ => rfl) (ren_map fun _ => rfl)) | exact Z.blk_sub rfl (by first | (rw [List.map_append]; rfl) | (rw [List.map_set]; rfl) | simp only [List.map_append, List.map_cons, List.map_nil, List.map_set]) (ren_map fun _ => rfl) | exact Z.gB_sub rfl rfl (ren_map fun _ => rfl) | exact Z.gB_sub' rfl (by first | rfl | (rw [List.map_append]; rfl) | simp only [List.map_append, List.map_cons, List.map_nil]) (ren_map fun _ => rfl) | apply And.intro))); (focus (refine ⟨by (try simp only [LN] at *) <;> omega, ?_⟩; (try dsimp only); rw [← HO, tot_at hx, List.length_map]; omega)); (try simp only [LN] at *); (try dsimp only); omega)
      | ((first | (with_reducible apply Z.retF1) | (with_reducible apply Z.retF2) | (with_reducible apply Z.retF0)); (focus (exact rfl)); (repeat' (first | exact trivial | (with_reducible apply Z.frz_one) | (with_reducible apply Z.frz_agg) | (with_reducible apply Z.fq_int) | (with_reducible apply Z.fq_bool) | (exact Z.frz_nil) | (exact Z.frz_osl0 rfl rfl rfl) | (with_reducible apply Z.fq_nil) | (with_reducible apply Z.fq_ro) | ((with_reducible apply Z.fq_gsl); (focus (first | rfl | exact Z.isB_map _ | exact Z.gB_snoc.symm)); (focus (exact fun _ => rfl))) | ((with_reducible apply Z.fq_osl); (focus (exact rfl)); (focus (first | exact rfl | (simp only [List.length_map, Nat.zero_add]; done) | ((try simp only [LN] at *) <;> omega))); (focus (exact fun _ => rfl))) | ((with_reducible apply Z.fq_src); (focus (exact rfl)); (focus (first | exact rfl | (simp only [List.length_map, Nat.zero_add]; done) | ((try simp only [LN] at *) <;> omega))); (focus (exact fun _ => rfl))) | exact rfl | ((apply Z.fq_osl); (focus (exact rfl)); (focus (first | exact rfl | (simp only [List.length_map, Nat.zero_add]; done) | ((try simp only [LN] at *) <;> omega))); (focus (exact fun _ => rfl))) | ((apply Z.fq_src); (focus (exact rfl)); (focus (first | exact rfl | (simp only [List.length_map, Nat.zero_add]; done) | ((try simp only [LN] at *) <;> omega))); (focus (exact fun _ => rfl))) | (apply Z.fq_ro) | (apply Z.fq_int) | (apply Z.fq_bool) | apply And.intro)); (all_goals (try exact (fun _ => none))); all_goals (rw [drop_end (by (try simp only [LN] at *) <;> omega)] at HO; simp only [tot, Nat.add_zero] at HO; rw [HO]; rfl))
      | (fail)

end Go.Proofs.Ytakfkbciijahgaa
namespace Go.Proofs.Ytakfkbciijahgaa
open Go Go.RowKit Wx
set_option linter.unusedVariables false
set_option linter.unusedSimpArgs false
set_option maxHeartbeats 4000000
end Go.Proofs.Ytakfkbciijahgaa
namespace Go.Proofs.Ytakfkbciijahgaa
open Go Go.RowKit Wx
set_option linter.unusedVariables false
set_option linter.unusedSimpArgs false
set_option maxHeartbeats 4000000
end Go.Proofs.Ytakfkbciijahgaa
namespace Go.Proofs.Ytakfkbciijahgaa
open Go Go.RowKit Wx
set_option linter.unusedVariables false
set_option linter.unusedSimpArgs false
set_option maxHeartbeats 4000000
abbrev eI (z : Int) : List RT := [RT.v (.int .i64 z)]
abbrev cI (z : Int) : List Ce := [Ce.v (.int .i64 z)]
/-! ### Put and taken -/
def lastE : List El → Bool
  | [] => false
  | [e] => decide (e.kd = 3)
  | _ :: r => lastE r
theorem lastE_at : ∀ {l : List El} {x : El}, l[l.length - 1]? = some x → lastE l = decide (x.kd = 3)
  | [], x, h => by simp at h
  | [e], x, h => by simp at h; subst h; rfl
  | e :: f :: r, x, h => by
    rw [lastE]
    · refine lastE_at ?_
      simpa using h
    · simp
def clsQ (q : Qu) : Bool := q.ended || lastE q.es
def rdQ (q : Qu) : Bool := decide (0 < q.es.length) && !q.held
def pushQ (e : El) (q : Qu) : Qu := { q with es := q.es ++ [e], last := if e.kd = 2 then e.num else q.last }
def openL (qs : List Qu) : Nat → List Int
  | 0 => []
  | k + 1 => openL qs k ++ (match qs[k]? with
    | some q => if rdQ q = true then [(k : Int)] else []
    | none => [])
theorem openL_yes {qs : List Qu} {k : Nat} {q : Qu} (h : qs[k]? = some q) (hr : rdQ q = true) : openL qs (k + 1) = openL qs k ++ [(k : Int)] := by rw [openL, h]; simp [hr]
theorem openL_no {qs : List Qu} {k : Nat} {q : Qu} (h : qs[k]? = some q) (hr : rdQ q = false) : openL qs (k + 1) = openL qs k := by rw [openL, h]; simp [hr]
theorem openL_len {qs : List Qu} : ∀ {k : Nat}, (openL qs k).length ≤ k
  | 0 => Nat.le_refl _
  | k + 1 => by
    have := @openL_len qs k
    rw [openL, List.length_append]
    split
    · split <;> simp <;> omega
    · simp; omega
theorem openL_nil {qs : List Qu} : ∀ {k : Nat}, openL qs k = [] → ∀ (i : Nat) (q : Qu), i < k → qs[i]? = some q → rdQ q = false
  | 0, _, i, q, h, _ => by omega
  | k + 1, h, i, q, hi, hq => by
    rw [openL, List.append_eq_nil_iff] at h
    by_cases e : i = k
    · subst e
      have h2 := h.2
      rw [hq] at h2
      cases hr : rdQ q with
      | false => rfl
      | true => simp [hr] at h2
    · exact openL_nil h.1 i q (by omega) hq
theorem closed_con (q : Qu) (hl : q.es.length ≤ 9223372036854775807) : Con Try.prog 31 [.agg [.ro false 5 (q.es.map eE), .v (.int .u64 q.last), .v (.bool q.held), .v (.bool q.ended)]] (fun rx rK rt => rx = .val (.bool (clsQ q)) ∧ rK = [] ∧ rt = 0) := by
  refine Z.con_ofF tabOk 23 Try.f31 _ Try.func31 (by kernel_rfl) rfl rfl rfl rfl ?_
  obtain ⟨es, last, held, ended⟩ := q
  dsimp only at hl ⊢
  rcases Nat.eq_zero_or_pos es.length with h0 | h0
  · have he : es = [] := List.length_eq_zero_iff.1 h0
    subst he
    repeat' ((conv => whnf); first
      | with_reducible first | refine spB_t ?_
      | with_reducible first | refine spB_no (by decide) ?_
      | (with_reducible refine spB_mk ?_ ?_ <;> intro _ <;> (try (exfalso; first | contradiction | omega | (rename_i hz; refine hz ?_; simp; done) | (rename_i hz; simp at hz; done) | (simp only [LN] at *; omega)))))
    all_goals (try (conv => whnf))
    all_goals try (show Nat.ble _ _ = true; rfl)
    all_goals first
      | ((first | (with_reducible apply Z.retF1)); (focus (exact rfl)); (repeat' (first | exact trivial | (with_reducible apply Z.frz_one) | (with_reducible apply Z.fq_bool) | apply And.intro)); (all_goals (try exact (fun _ => none))); all_goals (first | (unfold clsQ lastE; simp_all; done)))
  obtain ⟨x, hx⟩ := getElem?_some' (xs := es) (i := es.length - 1) (by omega)
  have hlast := lastE_at hx
  repeat' ((conv => whnf); first
    | with_reducible first | refine spB_t ?_
    | with_reducible first | refine spB_no (by decide) ?_
    | (with_reducible refine spB_dec ?_ ?_ <;> intro _ <;> (try (exfalso; first | contradiction | omega | (rename_i hz; refine hz ?_; simp; done) | (rename_i hz; simp at hz; done) | (simp only [LN] at *; omega))))
    | (with_reducible refine spB_mk ?_ ?_ <;> intro _ <;> (try (exfalso; first | contradiction | omega | (rename_i hz; refine hz ?_; simp; done) | (rename_i hz; simp at hz; done) | (simp only [LN] at *; omega))))
    | ((with_reducible refine ixN_mk (es.length - 1) ?_ ?_ ?_); (focus (first | ((try simp only [LN] at *) <;> omega))); (focus ((try simp only [LN] at *) <;> omega)))
    | with_reducible first | refine Z.rowN_known hx ?_
    | with_reducible refine wr_i64 (by first | omega | (simp only [LN] at *; omega)) ?_)
  all_goals (try (conv => whnf))
  all_goals try (show Nat.ble _ _ = true; rfl)
  all_goals first
    | ((first | (with_reducible apply Z.retF1)); (focus (exact rfl)); (repeat' (first | exact trivial | (with_reducible apply Z.frz_one) | (with_reducible apply Z.fq_bool) | apply And.intro)); (all_goals (try exact (fun _ => none))); all_goals (first | (unfold clsQ; simp_all; done) | (unfold clsQ; rw [hlast]; cases ended <;> simp_all; exact Bool.eq_iff_iff.2 (by simp))))

theorem readable_con (q : Qu)  : Con Try.prog 37 [.agg [.ro false 5 (q.es.map eE), .v (.int .u64 q.last), .v (.bool q.held), .v (.bool q.ended)]] (fun rx rK rt => rx = .val (.bool (rdQ q)) ∧ rK = [] ∧ rt = 0) := by
  refine Z.con_ofF tabOk 12 Try.f37 _ Try.func37 (by kernel_rfl) rfl rfl rfl rfl ?_
  repeat' ((conv => whnf); first
    | with_reducible first | refine spB_t ?_
    | with_reducible first | refine spB_no (by decide) ?_
    | (with_reducible refine spB_dec ?_ ?_ <;> intro _ <;> (try (exfalso; first | contradiction | omega | (rename_i hz; refine hz ?_; simp; done) | (rename_i hz; simp at hz; done) | (simp only [LN] at *; omega)))))
  all_goals (try (conv => whnf))
  all_goals try (show Nat.ble _ _ = true; rfl)
  all_goals first
    | ((first | (with_reducible apply Z.retF1)); (focus (exact rfl)); (repeat' (first | exact trivial | (with_reducible apply Z.frz_one) | (with_reducible apply Z.fq_bool) | apply And.intro)); (all_goals (try exact (fun _ => none))); all_goals (first | (unfold rdQ; simp_all; done)))

theorem has_con (qs : List Qu) (n d : Int) (i : Int)  : Con Try.prog 28 [.agg [.ro false 4 (qs.map eQ), .v (.int .u64 n), .v (.int .u64 d)], .one (.v (.int .i64 i))] (fun rx rK rt => rx = .val (.bool (decide (0 ≤ i ∧ i < qs.length))) ∧ rK = [] ∧ rt = 0) := by
  refine Z.con_ofF tabOk 14 Try.f28 _ Try.func28 (by kernel_rfl) rfl rfl rfl rfl ?_
  repeat' ((conv => whnf); first
    | with_reducible first | refine spB_t ?_
    | with_reducible first | refine spB_no (by decide) ?_
    | (with_reducible refine spB_dec ?_ ?_ <;> intro _ <;> (try (exfalso; first | contradiction | omega | (rename_i hz; refine hz ?_; simp; done) | (rename_i hz; simp at hz; done) | (simp only [LN] at *; omega)))))
  all_goals (try (conv => whnf))
  all_goals try (show Nat.ble _ _ = true; rfl)
  all_goals first
    | ((first | (with_reducible apply Z.retF1)); (focus (exact rfl)); (repeat' (first | exact trivial | (with_reducible apply Z.frz_one) | (with_reducible apply Z.fq_bool) | apply And.intro)); (all_goals (try exact (fun _ => none))); all_goals (first | (exact (decide_eq_false (by (try simp only [LN] at *) <;> omega)).symm) | (refine decide_eq_decide.2 ?_; (try simp only [LN] at *) <;> omega)))

theorem open_con (qs : List Qu) (n d : Int) (hq : qs.length ≤ 9223372036854775807) (hlq : ∀ q ∈ qs, q.es.length ≤ 9223372036854775807) (huq : ∀ q ∈ qs, ∀ e ∈ q.es, 0 ≤ e.num) : Con Try.prog 20 [.agg [.ro false 4 (qs.map eQ), .v (.int .u64 n), .v (.int .u64 d)]] (fun rx rK rt => rx = .c (.ro true 1 ((bif okG qs n d then openL qs qs.length else []).map eI)) ∧ rK = [] ∧ rt = 0) := by
  refine Z.con_ofF tabOk 24 Try.f20 _ Try.func20 (by kernel_rfl) rfl rfl rfl rfl ?_
  have hm := mayBe_con qs n d hq hlq huq
  cases hk : okG qs n d
  all_goals rw [hk] at hm
  · skip
    repeat' ((conv => whnf); first
      | with_reducible first | refine spB_t ?_
      | ((with_reducible apply spB_cong); (focus (simp only [beq_self_eq_true, bne_self_eq_false, Bool.true_bne, Bool.false_bne, Bool.bne_true, Bool.bne_false, Bool.true_beq, Bool.false_beq, Bool.not_true, Bool.not_false, Bool.not_not, Int.reduceBEq, Int.reduceBNe, Int.reduceLE, Int.reduceLT, Int.reduceEq, decide_true, decide_false]; rfl)))
      | ((first | (with_reducible refine Z.callZ_mk ?_ (hm) ?_)); (focus ((repeat' (first | exact trivial | exact rfl | apply And.intro)); done))))
    all_goals (try (conv => whnf))
    all_goals try (show Nat.ble _ _ = true; rfl)
    all_goals first
      | ((first | (with_reducible apply Z.retF1)); (focus (exact rfl)); (repeat' (first | exact trivial | (with_reducible apply Z.frz_one) | (exact Z.frz_nil) | apply And.intro)); (all_goals (try exact (fun _ => none))); all_goals (rfl))
  repeat' ((conv => whnf); first
    | ((with_reducible apply spB_cong); (focus (simp only [beq_self_eq_true, bne_self_eq_false, Bool.true_bne, Bool.false_bne, Bool.bne_true, Bool.bne_false, Bool.true_beq, Bool.false_beq, Bool.not_true, Bool.not_false, Bool.not_not, Int.reduceBEq, Int.reduceBNe, Int.reduceLE, Int.reduceLT, Int.reduceEq, decide_true, decide_false]; rfl)))
    | with_reducible first | refine spB_no (by decide) ?_
    | ((first | (with_reducible refine Z.callZ_mk ?_ (hm) ?_)); (focus ((repeat' (first | exact trivial | exact rfl | apply And.intro)); done))))
  all_goals (try (conv => whnf))
  all_goals try (show Nat.ble _ _ = true; rfl)
  all_goals try (exfalso; rename_i hz; cases hz; done)
  all_goals try (exfalso; (try simp only [LN] at *) <;> omega)
  refine Z.loopK tabOk (fun zq : Nat × List Int => [(11, .val (.int .i64 (zq.1 : Int))), (2, .c (.gsl 1 (zq.2.map cI)))]) (fun zq : Nat × List Int => ([(1, (gB 1 3 (zq.2.map cI)).map Z.Ob.b)] : Z.Kr)) (fun zq => zq.1 ≤ qs.length ∧ zq.2 = openL qs zq.1) (fun zq => qs.length - zq.1) (0, []) 2 [(9, _), (10, _)] ⟨rfl, rfl, trivial⟩ [(0, some _)] ⟨rfl, trivial⟩ ?_ ?_ rfl rfl ⟨Nat.zero_le _, rfl⟩ ?_
  · repeat' (first | exact trivial | apply And.intro | exact ⟨_, rfl, Z.Imp.refl _⟩ | exact ⟨_, rfl, Z.Imp.nilg _⟩)
  · repeat' (first | exact trivial | (intro b hb; cases hb; done) | apply And.intro)
  rintro ⟨i, acc⟩ HINV
  dsimp only at HINV ⊢
  obtain ⟨HI, HA⟩ := HINV
  have hal := @openL_len qs i
  rw [← HA] at hal
  have hlen := (okG_all hk).1
  by_cases hi : i < qs.length
  · obtain ⟨x, hx⟩ := getElem?_some' (xs := qs) (i := i) hi
    repeat' ((conv => whnf); first
      | (with_reducible refine spB_dec ?_ ?_ <;> intro _ <;> (try (exfalso; first | contradiction | omega | (rename_i hz; refine hz ?_; simp; done) | (rename_i hz; simp at hz; done) | (simp only [LN] at *; omega))))
      | (with_reducible refine spB_mk ?_ ?_ <;> intro _ <;> (try (exfalso; first | contradiction | omega | (rename_i hz; refine hz ?_; simp; done) | (rename_i hz; simp at hz; done) | (simp only [LN] at *; omega))))
      | with_reducible first | refine Z.rowN_known hx ?_
      | ((with_reducible refine posE_pos ?_ ?_); (focus ((try simp only [LN] at *) <;> omega)))
      | ((with_reducible apply ixN_litp); (focus (exact rfl)); (focus ((try simp only [LN] at *) <;> omega)))
      | ((with_reducible refine apdN.mk ?_ ?_ ?_ ?_ ?_ ?_); (focus (first | rfl)); (focus (first | exact one_all (by rfl))); (focus ((try simp only [LN] at *) <;> omega)); (focus ((try simp only [LN] at *) <;> omega)); (focus ((try simp only [LN] at *) <;> omega)))
      | with_reducible refine wr_i64 (by first | omega | (simp only [LN] at *; omega)) ?_
      | ((first | (with_reducible apply Z.callZ_mk ?_ (readable_con _) ?_)); (rotate_left 1); (focus ((repeat' (first | exact trivial | exact rfl | apply And.intro)); done)))
      | ((with_reducible refine eqN_mk2 ?_ ?_); (focus (exact Z.kb_some rfl))))
    all_goals (try (conv => whnf))
    all_goals try (show Nat.ble _ _ = true; rfl)
    all_goals first
      | ((refine Z.rndK ((i + 1, acc ++ [(i : Int)])) (fun s => [0, s.idAt 2]) rfl rfl rfl rfl ?_ ?_ ?_ ?_); (focus (repeat' (first | exact trivial | exact rfl | (rw [List.map_append (f := cI)]; exact rfl) | apply And.intro))); (focus (repeat' (first | exact trivial | (intro b hb; cases hb; rfl) | exact Z.gB_sub' rfl (by first | rfl | (rw [List.map_append]; rfl) | simp only [List.map_append, List.map_cons, List.map_nil]) (ren_map fun _ => rfl) | apply And.intro))); (focus (exact ⟨by (try dsimp only); omega, by (try dsimp only); rw [openL_yes hx (by assumption), HA]⟩)); ((try dsimp only); omega))
      | ((refine Z.rndK ((i + 1, acc)) (fun s => [0, s.idAt 2]) rfl rfl rfl rfl ?_ ?_ ?_ ?_); (focus (repeat' (first | exact trivial | exact rfl | apply And.intro))); (focus (repeat' (first | exact trivial | (intro b hb; cases hb; rfl) | exact Z.gB_sub rfl rfl (ren_map fun _ => rfl) | apply And.intro))); (focus (exact ⟨by (try dsimp only); omega, by (try dsimp only); rw [openL_no hx (by simp_all), HA]⟩)); ((try dsimp only); omega))
  have hil : i = qs.length := by omega
  subst hil
  rw [cond_true, ← HA]
  repeat' ((conv => whnf); first
    | (with_reducible refine spB_dec ?_ ?_ <;> intro _ <;> (try (exfalso; first | contradiction | omega | (rename_i hz; refine hz ?_; simp; done) | (rename_i hz; simp at hz; done) | (simp only [LN] at *; omega)))))
  all_goals (try (conv => whnf))
  all_goals try (show Nat.ble _ _ = true; rfl)
  all_goals first
    | ((first | (with_reducible apply Z.retF1)); (focus (exact rfl)); (repeat' (first | exact trivial | (with_reducible apply Z.frz_one) | ((with_reducible apply Z.fq_gsl); (focus (first | exact Z.isB_map _)); (focus (exact fun _ => rfl))) | exact rfl | apply And.intro)); (all_goals (try exact (fun _ => none))); all_goals (rfl))

end Go.Proofs.Ytakfkbciijahgaa
namespace Go.Proofs.Ytakfkbciijahgaa
open Go Go.RowKit Wx
set_option linter.unusedVariables false
set_option linter.unusedSimpArgs false
set_option maxHeartbeats 4000000
abbrev cQf (x : Qu) : List Ce := [Ce.ro false 5 (x.es.map eE), Ce.v (.int .u64 x.last), Ce.v (.bool x.held), Ce.v (.bool x.ended)]
section
open Z
variable {m : Nat}
/-- At a round's end: the block of slot tj is frozen in rows of block B. -/
theorem rnd_fzr {α : Type} {G : α → Z.S} {Inv : α → Prop} {μ : α → Nat} {p : α} {s : Z.S} (tj B : Nat) {rows : List (List Ce)} (rows' : List (List Ce)) {sz : Nat} {ty : TypeId} {bx : Bool} (hm : Nat.ble m s.top = true) (hne : Nat.beq B (s.idAt tj) = false) (hB : kz s.K B = some (.b ⟨rows, sz, ty, bx⟩)) (h : All2 (All2 (fzC (s.idAt tj) (kb s.K (s.idAt tj)))) rows rows')
    (k : rndZ m G Inv μ p ⟨s.F, (B, some (.b ⟨rows', sz, ty, bx⟩)) :: (s.idAt tj, none) :: s.K, s.top⟩) : rndZ m G Inv μ p s :=
  rndZ_stp (Stp.fz (s.idAt tj) [] [(B, some (.b ⟨rows', sz, ty, bx⟩))] trivial ⟨⟨fun e => by rw [e] at hne; simp at hne, fun b hb => by cases hb; exact ⟨_, hB, ⟨rfl, rfl, rfl⟩, h⟩⟩, trivial⟩ (Nat.le_of_ble_eq_true hm)) k
theorem rows_mid {j : Nat} {o : Option Blk} {qs : List Qu} {i : Nat} {x : Qu} {r : List Ce} (hx : qs[i]? = some x) (h : All2 (fzC j o) r (cQ x)) : All2 (All2 (fzC j o)) (((qs.take i).map cQ ++ (qs.drop i).map cQf).set (0 + i) r) ((qs.take (i + 1)).map cQ ++ (qs.drop (i + 1)).map cQf) := by
  have hi := (List.getElem?_eq_some_iff.1 hx).1
  rw [Nat.zero_add, drop_cons hx, take_snoc hx, List.map_cons, List.map_append, List.append_assoc, List.set_append_right _ _ (by rw [List.length_map, List.length_take]; exact Nat.min_le_left _ _), show i - ((qs.take i).map cQ).length = 0 by rw [List.length_map, List.length_take]; omega, List.set_cons_zero]
  exact All2.append (All2.self (All2.self fzC.refl) _) ⟨h, All2.self (All2.self fzC.refl) _⟩
end
namespace Wx.Z
/-- A function's end, behind a step of its own. -/
structure retG (T : Tab) (rs : List ResultVar) (s : Z.S) (post : AV → Prop) : Prop where
  h : ∃ s0 : Z.S, Stp 0 s s0 ∧ retF T rs ⟨s0.F, kbl s0.K, s0.top⟩ post
theorem retG_0 {T : Tab} {rs : List ResultVar} {s : Z.S} {post : AV → Prop} (h : retF T rs ⟨s.F, kbl s.K, s.top⟩ post) : retG T rs s post := ⟨s, Stp.refl (Nat.zero_le _), h⟩
theorem retG_stp {T : Tab} {rs : List ResultVar} {s s1 : Z.S} {post : AV → Prop} (h : Stp 0 s s1) (k : retG T rs s1 post) : retG T rs s post := by
  obtain ⟨s0, h1, h2⟩ := k.h
  exact ⟨s0, h.trans h1, h2⟩
theorem retG_fz {T : Tab} {rs : List ResultVar} {s : Z.S} {post : AV → Prop} (tj B : Nat) {rows : List (List Ce)} (rows' : List (List Ce)) {sz : Nat} {ty : TypeId} {bx : Bool} (hne : Nat.beq B (s.idAt tj) = false) (hB : kz s.K B = some (.b ⟨rows, sz, ty, bx⟩)) (h : All2 (All2 (fzC (s.idAt tj) (kb s.K (s.idAt tj)))) rows rows')
    (k : retG T rs ⟨s.F, (B, some (.b ⟨rows', sz, ty, bx⟩)) :: (s.idAt tj, none) :: s.K, s.top⟩ post) : retG T rs s post :=
  retG_stp (Stp.fz (s.idAt tj) [] [(B, some (.b ⟨rows', sz, ty, bx⟩))] trivial ⟨⟨fun e => by rw [e] at hne; simp at hne, fun b hb => by cases hb; exact ⟨_, hB, ⟨rfl, rfl, rfl⟩, h⟩⟩, trivial⟩ (Nat.zero_le _)) k
theorem con_ofG {P : Program} {T : Tab} {g : FuncId} {args : List A0} {post : AV → Prop} (hT : TabOk P T) (n : Nat) (fn : Func) (c : Code) (hf : P.funcs[g]? = some fn) (hfn : fnB P g = true) (hb : fn.body = some c) (hn : fn.ntmps = n) (hle : Nat.ble args.length n = true) (hlow : args.all A0.low' = true)
    (h : codeZ P T n 0 none c ⟨argF 0 (args.map .pl), [], 0⟩ fun e s => match s with
      | ⟨F', K', t'⟩ => match e with
        | .normal => retG T fn.results.toList ⟨F', K', t'⟩ post
        | .ret => retG T fn.results.toList ⟨F', K', t'⟩ post
        | _ => False) : Con P g args (fun x K t => post x ∧ K = [] ∧ t = 0) := by
  refine ⟨hfn, fun w vs hvs => ?_⟩
  have hle' : args.length ≤ n := by simpa [Nat.ble_eq] using hle
  let R0 : RM := fun fl b o => match fl with | true => none | false => w.cell? ⟨b, o, none⟩
  have hw : Wd (Wo.of w) (kg []) (fun _ => none) R0 w := by
    refine ⟨fun i b h => by simp [kg] at h, fun i j bi bj p q h => by simp [kg] at h, fun i b p h => by simp [kg] at h, ?_, fun i b p f o h => by simp [kg] at h, ?_, ?_, .refl _, fun _ _ _ _ _ h => h, fun _ h => h.elim⟩
    · intro f b o u hu
      cases f with
      | true => cases hu
      | false => exact hu
    · intro b o u hu; cases hu
    · intro b o u hu; cases hu
  have hv : All2 (AV.rel (fun _ => none) R0) (args.map .pl) vs := by
    refine All2.map _ (hvs.mono_mem fun a ha b hb => ?_)
    exact A0.rel_low (by rfl) (List.all_eq_true.1 hlow a ha) hb
  have h0 := Wx.st_args (n := n) hv hw (by rw [← hvs.length]; exact hle')
  have hwz : Y.Wz (Wo.of w) (ky []) (fun _ => none) R0 w := ⟨by rw [kb_eq]; exact hw, fun i o h => (by cases h), fun i j oi oj p q h => (by cases h)⟩
  subst hn
  refine Y.fr_calls (r := none) (n := 0) (callsIn_of_wp_marks hf hb trivial (wpIn_mono (codeZ_sound hT (fun _ h => by cases h) c _ _ h (Wo.of w) none _ R0 _ w rfl ⟨h0.size, trivial, h0.fr, hwz⟩ (fun _ _ => rfl) (Nat.le_refl _)) ?_))
  rintro e' a' w' ⟨⟨F', K', t'⟩, I', R', h1, h2, h3, h4, h5, h6⟩
  have h1 : Y.St fn.ntmps (Wo.of w) (get F') (ky K') I' R' a' w' := h1
  have fin : retG T fn.results.toList ⟨F', K', t'⟩ post → LeavesInM (Y.fr none) 0 P fn a'.tmps (fun e w' => ∃ v_1 x Kc tc I Rf, e = .returned v_1 ∧ Wd (Wo.of w) (kg Kc) I (fun _ => Rf) w' ∧ (∀ j, tc ≤ j → I j = none) ∧ (∀ p ∈ Kc, p.1 < tc) ∧ x.rel I (fun _ => Rf) v_1 ∧ (post x ∧ Kc = [] ∧ tc = 0)) a'.defers .returning w' := by
    rintro ⟨s0, hst, xs, hx, ys, hy, hp⟩
    obtain ⟨I2, R2, m1, m2, _, _, _⟩ := hst _ _ I' R' a' w' h1 h2
    refine Y.leaves_marks _ _ m1.mks m1.wz fun w2 hw2 => ?_
    have k1' : Wx.St fn.ntmps (Wo.of w) (get s0.F) (kg (kbl s0.K)) I2 R2 ⟨a'.tmps, []⟩ w2 := ⟨m1.size, rfl, fun t x hx => m1.fr t x hx, by rw [kg_kbl, ← kb_eq]; exact hw2.wd⟩
    obtain ⟨v, j1, j2⟩ := resL_results hT k1' hx
    obtain ⟨g1, g2⟩ := retV_frz k1'.wd hy j2
    have g3 := (fz_all k1'.wd).1
    have g4 := (g3.weak (s := ⟨[], [], s0.top⟩) (K0 := []) (l := []) List.nodup_nil trivial m2).own (fun j b h => by simp [kg] at h)
    refine ⟨v, j1, v, _, [], 0, _, fzR (Wo.of w) R2 w2 true, rfl, g4, fun j _ => ?_, by simp, fzV_rel g2 g1, hp, rfl, rfl⟩
    simp only [rn, List.getElem?_nil]
    exact m2 _ (Nat.le_add_right _ _)
  cases e' with
  | normal => exact fin h6
  | ret => exact fin h6
  | _ => exact h6.elim
end Wx.Z
theorem rows_at {qs : List Qu} {i : Nat} {x : Qu} (hx : qs[i]? = some x) : ((qs.take i).map cQ ++ (qs.drop i).map cQf)[0 + i]? = some (cQf x) := by
  have hi := (List.getElem?_eq_some_iff.1 hx).1
  rw [Nat.zero_add, List.getElem?_append_right (by simp; omega), drop_cons hx, show i - ((qs.take i).map cQ).length = 0 by simp; omega]; rfl
theorem rows_set {α : Type} {l : List α} {i : Nat} {x : α} (h : i < l.length) : (l.set (0 + i) x)[0 + i]? = some x := by rw [Nat.zero_add]; simp [h]
/-! ### Queues, of which one keeps a block of its own -/
abbrev rwB (qs : List Qu) (i : Nat) : List (List Ce) := (qs.take i).map cQ ++ (qs.drop i).map cQf
abbrev rwQ (qs : List Qu) (k i : Nat) (r : List Ce) : Bool → List (List Ce)
  | false => rwB qs i
  | true => (rwB qs i).set k r
abbrev blQ (b : Z.Ob) : Bool → Option Z.Ob
  | false => none
  | true => some b
theorem rwB_len {qs : List Qu} {i : Nat} : (rwB qs i).length = qs.length := by
  simp only [rwB, List.length_append, List.length_map, List.length_take, List.length_drop]; omega
theorem rwB_ren {qs : List Qu} {i : Nat} {r : Nat → Nat} : (rwB qs i).map (List.map (Ce.ren r)) = rwB qs i := by
  unfold rwB; rw [List.map_append]; congr 1
  · exact ren_map fun _ => rfl
  · exact ren_map fun _ => rfl
theorem blk_set0 {K : Z.Kr} {r : Nat → Nat} {j k sz : Nat} {ty : TypeId} {bx : Bool} {L : List (List Ce)} {RK r0 : List Ce} (h : Z.kz K (r j) = some (.b ⟨L.set k r0, sz, ty, bx⟩)) (hL : L.map (List.map (Ce.ren r)) = L) (hr : RK.map (Ce.ren r) = r0) : ∀ b, some (Z.Ob.b ⟨L.set k RK, sz, ty, bx⟩) = some b → Z.kz K (r j) = some (b.ren r) := fun b hb => by
  cases hb
  rw [h]
  show some (Z.Ob.b ⟨_, _, _, _⟩) = some (Z.Ob.b ⟨_, _, _, _⟩)
  rw [List.map_set, hL, hr]
theorem rows_atS {qs : List Qu} {i k : Nat} {x : Qu} {RK : List Ce} (hx : qs[i]? = some x) (hk : k ≠ i) : ((rwB qs i).set k RK)[0 + i]? = some (cQf x) := by
  rw [Nat.zero_add, List.getElem?_set_ne hk]
  have := rows_at hx
  rw [Nat.zero_add] at this
  exact this
theorem rows_midS {j : Nat} {o : Option Blk} {qs : List Qu} {i k : Nat} {x : Qu} {r RK : List Ce} (hx : qs[i]? = some x) (hk : k ≠ i) (h : All2 (Z.fzC j o) r (cQ x)) : All2 (All2 (Z.fzC j o)) (((rwB qs i).set k RK).set (0 + i) r) ((rwB qs (i + 1)).set k RK) := by
  rw [Nat.zero_add, List.set_comm _ _ hk]
  have h1 := rows_mid hx h
  rw [Nat.zero_add] at h1
  exact Y.All2.setAt k h1 (Z.All2.self Z.fzC.refl _)
theorem setB_len {qs : List Qu} {i k : Nat} {RK : List Ce} : ((rwB qs i).set k RK).length = qs.length := by rw [List.length_set, rwB_len]
theorem g_app' {α : Type} {f : α → List Ce} {l : List α} {n : Nat} {S : List (List Ce)} {v : α} (hn : n = l.length) (hS : S = [f v]) : List.take n (l.map f) ++ S = (l ++ [v]).map f := by
  subst hn hS; rw [List.take_of_length_le (by simp)]; simp
theorem rows_end {j : Nat} {o : Option Blk} {qs : List Qu} {k : Nat} {q : Qu} {r RK : List Ce} (h : All2 (Z.fzC j o) r (cQ q)) : All2 (All2 (Z.fzC j o)) (((rwB qs qs.length).set k RK).set (0 + k) r) ((qs.set k q).map cQ) := by
  rw [Nat.zero_add, List.set_set, List.map_set]
  unfold rwB
  rw [List.take_length, List.drop_length, List.map_nil, List.append_nil]
  exact Y.All2.setAt k (Z.All2.self (Z.All2.self Z.fzC.refl) _) h
theorem rows_end2 {j : Nat} {o : Option Blk} {qs : List Qu} {k : Nat} {q : Qu} {r r2 RK : List Ce} (h : All2 (Z.fzC j o) r (cQ q)) : All2 (All2 (Z.fzC j o)) ((((rwB qs qs.length).set k RK).set (0 + k) r2).set (0 + k) r) ((qs.set k q).map cQ) := by
  rw [Nat.zero_add, List.set_set]
  have := rows_end (RK := RK) (qs := qs) (k := k) h
  rw [Nat.zero_add] at this
  exact this
theorem rows_set0 {L : List (List Ce)} {k : Nat} {r : List Ce} (h : k < L.length) : (L.set k r)[0 + k]? = some r := by rw [Nat.zero_add]; simp [h]
theorem Z.fzC.of_eq {j : Nat} {o : Option Blk} {c c' : Ce} (h : c = c') : Z.fzC j o c c' := by subst h; exact Z.fzC.refl _
/-- Where the one queue gets its block: its row is put. -/
theorem blk_setM {K : Z.Kr} {r : Nat → Nat} {j i sz : Nat} {ty : TypeId} {bx : Bool} {qs : List Qu} {x : Qu} {RK r0 : List Ce} (h : Z.kz K (r j) = some (.b ⟨(rwB qs i).set (0 + i) r0, sz, ty, bx⟩)) (hL : ∀ m, (rwB qs m).map (List.map (Ce.ren r)) = rwB qs m) (hr : RK.map (Ce.ren r) = r0) (hx : qs[i]? = some x) : ∀ b, some (Z.Ob.b ⟨(rwB qs (i + 1)).set i RK, sz, ty, bx⟩) = some b → Z.kz K (r j) = some (b.ren r) := fun b hb => by
  cases hb
  rw [h]
  show some (Z.Ob.b ⟨_, _, _, _⟩) = some (Z.Ob.b ⟨_, _, _, _⟩)
  rw [List.map_set, hL, hr, Nat.zero_add]
  have hi := (List.getElem?_eq_some_iff.1 hx).1
  unfold rwB
  rw [drop_cons hx, take_snoc hx, List.map_cons, List.map_append, List.append_assoc, List.set_append_right _ _ (by rw [List.length_map, List.length_take]; exact Nat.min_le_left _ _), List.set_append_right _ _ (by rw [List.length_map, List.length_take]; exact Nat.min_le_left _ _), show i - ((qs.take i).map cQ).length = 0 by rw [List.length_map, List.length_take]; omega, List.set_cons_zero]
  rfl
theorem rows_done {qs : List Qu} {k : Nat} {x : Qu} (hx : qs[k]? = some x) : ((qs.take qs.length).map cQ ++ (qs.drop qs.length).map cQf)[0 + k]? = some (cQ x) := by
  rw [Nat.zero_add, List.take_length, List.drop_length, List.map_nil, List.append_nil, List.getElem?_map, hx]; rfl
end Go.Proofs.Ytakfkbciijahgaa
namespace Go.Proofs.Ytakfkbciijahgaa
open Go Go.RowKit Wx
set_option linter.unusedVariables false
set_option linter.unusedSimpArgs false
set_option maxHeartbeats 4000000
theorem push_ok (qs : List Qu) (n d : Int) (k : Nat) (x : Qu) (e : El) (hq : qs.length ≤ 9223372036854775807) (hlq : ∀ q ∈ qs, q.es.length ≤ 9223372036854775807) (huq : ∀ q ∈ qs, ∀ e ∈ q.es, 0 ≤ e.num) (he : 0 ≤ e.num) (hk : okG qs n d = true) (hx : qs[k]? = some x) (hoe : okE e = true) (hcl : clsQ x = false) (hnb : ¬ (e.kd = 2 ∧ e.num ≤ x.last)) (hfl : x.es.length < 4) : Con Try.prog 12 [.agg [.ro false 4 (qs.map eQ), .v (.int .u64 n), .v (.int .u64 d)], .one (.v (.int .i64 (k : Int))), .agg [.v (.int .i64 e.kd), .v (.int .i64 e.src), .v (.int .i64 e.key), .v (.int .i64 e.val), .v (.int .u64 e.num)]] (fun rx rK rt => rx = .tup [.agg [.ro true 4 ((qs.set k (pushQ e x)).map eQ), .v (.int .u64 n), .v (.int .u64 d)], .one (.v (.int .i64 0))] ∧ rK = [] ∧ rt = 0) := by
  refine Z.con_ofG tabOk 82 Try.f12 _ Try.func12 (by kernel_rfl) rfl rfl rfl rfl ?_
  have ck := check_con qs n d hq hlq huq
  rw [hk] at ck
  simp only [cond_true] at ck
  obtain ⟨hn1, hn4⟩ := okG_all hk
  have ch := has_con qs n d (k : Int)
  rw [decide_eq_true (p := (0 : Int) ≤ (k : Int) ∧ (k : Int) < (qs.length : Int)) (by have := (List.getElem?_eq_some_iff.1 hx).1; omega)] at ch
  have hkl := (List.getElem?_eq_some_iff.1 hx).1
  have hx4 := hn4 x (List.mem_of_getElem? hx)
  have ce := checkE_con e he
  rw [hoe] at ce
  simp only [cond_true] at ce
  have cc := closed_con x (by omega)
  rw [hcl] at cc
  repeat' ((conv => whnf); first
    | ((with_reducible apply spB_cong); (focus (simp only [beq_self_eq_true, bne_self_eq_false, Bool.true_bne, Bool.false_bne, Bool.bne_true, Bool.bne_false, Bool.true_beq, Bool.false_beq, Bool.not_true, Bool.not_false, Bool.not_not, Int.reduceBEq, Int.reduceBNe, Int.reduceLE, Int.reduceLT, Int.reduceEq, decide_true, decide_false]; rfl)))
    | with_reducible first | refine spB_no (by decide) ?_
    | ((with_reducible refine cpyN.mk ?_ ?_ ?_ ?_); (focus (first | (simp; done))); (focus (first | exact one_map2 (fun _ => rfl))); (focus ((try simp only [LN] at *) <;> omega)))
    | with_reducible first | refine Z.callZ_in tabOk 41 Try.f30 _ Try.func30 (by kernel_rfl) rfl rfl rfl ?_
    | ((first | (with_reducible refine Z.callZ_mk ?_ (ck) ?_) | (with_reducible refine Z.callZ_mk ?_ (ch) ?_) | (with_reducible refine Z.callZ_mk ?_ (ce) ?_)); (focus ((repeat' (first | exact trivial | exact rfl | apply And.intro)); done)))
    | ((with_reducible refine Z.mkN_nat ?_ ?_ ?_ ?_); (focus ((try simp only [LN] at *) <;> omega)); (focus ((try simp only [LN] at *) <;> omega)); (focus ((try simp only [LN] at *) <;> omega))))
  all_goals (try (conv => whnf))
  all_goals try (show Nat.ble _ _ = true; rfl)
  all_goals try (exfalso; rename_i hz; cases hz; done)
  all_goals try (exfalso; (try simp only [LN] at *) <;> omega)
  refine Z.loopK tabOk (fun zq : Nat × Bool => [(16, .val (.int .i64 (zq.1 : Int)))]) (fun zq : Nat × Bool => ([(5, some (Z.Ob.b ⟨rwQ qs k zq.1 [.osl 6 0 (x.es.map eE).length (some (x.es.map eE).length), .v (.int .u64 x.last), .v (.bool x.held), .v (.bool x.ended)] zq.2, 4, 39, false⟩)), (6, blQ (.b ⟨x.es.map cE, 5, 29, false⟩) zq.2)] : Z.Kr)) (fun zq => zq.1 ≤ qs.length ∧ (zq.2 = true ↔ k < zq.1)) (fun zq => qs.length - zq.1) (0, false) 7 [(1, _), (2, _), (3, _), (14, _), (15, _)] ⟨rfl, rfl, rfl, rfl, rfl, trivial⟩ [(0, some _), (1, some _), (2, some _), (3, some _), (4, some _)] ⟨rfl, rfl, rfl, rfl, rfl, trivial⟩ ?_ ?_ rfl rfl ⟨Nat.zero_le _, by simp⟩ ?_
  · repeat' (first | exact trivial | apply And.intro | exact ⟨_, rfl, Z.Imp.refl _⟩)
  · repeat' (first | exact trivial | (intro b hb; cases hb; done) | (intro b hb; cases hb; refine ⟨_, rfl, ⟨rfl, rfl, rfl⟩, Z.imp_eq ?_⟩; first | rfl | exact Z.lay_copy (by simp) (Nat.le_min.2 ⟨by simp, by simp⟩) (fun _ => rfl); done) | apply And.intro)
  rintro ⟨i, ph⟩ HINV
  dsimp only at HINV ⊢
  obtain ⟨HI, HP⟩ := HINV
  by_cases hi : i < qs.length
  · obtain ⟨y, hy⟩ := getElem?_some' (xs := qs) (i := i) hi
    have hy4 := hn4 y (List.mem_of_getElem? hy)
    cases ph
    · dsimp only [rwQ, blQ]
      have hik : i ≤ k := by
        rcases Nat.lt_or_ge k i with h9 | h9
        · exact absurd (HP.2 h9) (by simp)
        · exact h9
      repeat' ((conv => whnf); first
        | (with_reducible refine spB_dec ?_ ?_ <;> intro _ <;> (try (exfalso; first | contradiction | omega | (rename_i hz; refine hz ?_; simp; done) | (rename_i hz; simp at hz; done) | (simp only [LN] at *; omega))))
        | ((with_reducible refine rowN_mk (cQf y) ?_ ?_); (focus (exact rows_at hy)))
        | ((with_reducible apply rowN_mk); (focus (exact rows_set (by first | (rw [rwB_len]; exact hi) | (simp only [rwB, List.length_set, List.length_append, List.length_map, List.length_take, List.length_drop]; omega)))))
        | ((with_reducible apply ixN_litp); (focus (exact rfl)); (focus ((try simp only [LN] at *) <;> omega)))
        | ((with_reducible refine cpyN.mk ?_ ?_ ?_ ?_); (focus (first | (simp; done))); (focus (first | exact one_map2 (fun _ => rfl))); (focus ((try simp only [LN] at *) <;> omega)))
        | with_reducible refine wr_i64 (by first | omega | (simp only [LN] at *; omega)) ?_
        | ((with_reducible refine Z.mkN_nat ?_ ?_ ?_ ?_); (focus ((try simp only [LN] at *) <;> omega)); (focus ((try simp only [LN] at *) <;> omega)); (focus ((try simp only [LN] at *) <;> omega)))
        | with_reducible first | refine Z.drawZ_rule tabOk mixOk ?_ | refine Z.apZ_mk (by kernel_rfl) ?_)
      all_goals (try (conv => whnf))
      all_goals try (show Nat.ble _ _ = true; rfl)
      rcases Nat.lt_or_ge i k with hlt | hge
      · skip
        all_goals first
          | ((refine Z.rnd_rw 8 (y.es.map cE) rfl rfl ?_ ?_); (focus (exact Z.lay_copy (by simp) (Nat.le_min.2 ⟨by simp, by simp⟩) (fun _ => rfl))); ((refine rnd_fzr 26 5 (rwB qs (i + 1)) rfl rfl rfl (rows_mid hy ⟨?_, ?_, ?_, ?_, trivial⟩) ?_); (focus (first | exact Z.fzC.ogsl rfl (by simp only [List.length_map, Nat.zero_add]) (fun _ => rfl))); (focus (first | exact Z.fzC.refl _)); (focus (first | exact Z.fzC.refl _)); (focus (first | exact Z.fzC.refl _)); ((refine Z.rndK ((i + 1, false)) (fun s => [0, 1, 2, 3, 4, 5, 6]) rfl rfl rfl rfl ?_ ?_ ?_ ?_); (focus (repeat' (first | exact trivial | exact rfl | apply And.intro))); (focus (repeat' (first | exact trivial | (intro b hb; cases hb; rfl) | (intro b hb; cases hb; done) | exact Z.blk_sub rfl rfl (Z.ren_app (ren_map fun _ => rfl) (ren_map fun _ => rfl)) | apply And.intro))); (focus (exact ⟨by (try dsimp only); omega, by (try dsimp only); first | (constructor; (focus (intro h9; cases h9)); (intro h9; omega)) | (constructor; (focus (intro _; omega)); (intro _; rfl))⟩)); ((try dsimp only); omega))))
      have hik2 : i = k := by omega
      subst hik2
      obtain rfl : y = x := by rw [hx] at hy; exact (Option.some.inj hy).symm
      all_goals first
        | ((refine Z.rnd_rw 8 (y.es.map cE) rfl rfl ?_ ?_); (focus (exact Z.lay_copy (by simp) (Nat.le_min.2 ⟨by simp, by simp⟩) (fun _ => rfl))); ((refine Z.rndK ((i + 1, true)) (fun s => [0, 1, 2, 3, 4, 5, s.idAt 26]) rfl rfl rfl rfl ?_ ?_ ?_ ?_); (focus (repeat' (first | exact trivial | exact rfl | apply And.intro))); (focus (repeat' (first | exact trivial | exact blk_setM rfl (fun _ => rwB_ren) rfl hx | (intro b hb; cases hb; rfl) | exact Z.blk_sub rfl rfl (ren_map fun _ => rfl) | apply And.intro))); (focus (exact ⟨by (try dsimp only); omega, by (try dsimp only); exact ⟨fun _ => by omega, fun _ => rfl⟩⟩)); ((try dsimp only); omega)))
    · dsimp only [rwQ, blQ]
      have hik : k < i := HP.1 rfl
      have hki : k ≠ i := by omega
      repeat' ((conv => whnf); first
        | (with_reducible refine spB_dec ?_ ?_ <;> intro _ <;> (try (exfalso; first | contradiction | omega | (rename_i hz; refine hz ?_; simp; done) | (rename_i hz; simp at hz; done) | (simp only [LN] at *; omega))))
        | ((with_reducible refine rowN_mk (cQf y) ?_ ?_); (focus (exact rows_atS hy hki)))
        | ((with_reducible apply rowN_mk); (focus (exact rows_set (by first | (rw [setB_len]; exact hi) | (simp only [rwB, List.length_set, List.length_append, List.length_map, List.length_take, List.length_drop]; omega)))))
        | ((with_reducible apply ixN_litp); (focus (exact rfl)); (focus ((try simp only [LN] at *) <;> omega)))
        | ((with_reducible refine cpyN.mk ?_ ?_ ?_ ?_); (focus (first | (simp; done))); (focus (first | exact one_map2 (fun _ => rfl))); (focus ((try simp only [LN] at *) <;> omega)))
        | with_reducible refine wr_i64 (by first | omega | (simp only [LN] at *; omega)) ?_
        | ((with_reducible refine Z.mkN_nat ?_ ?_ ?_ ?_); (focus ((try simp only [LN] at *) <;> omega)); (focus ((try simp only [LN] at *) <;> omega)); (focus ((try simp only [LN] at *) <;> omega)))
        | with_reducible first | refine Z.drawZ_rule tabOk mixOk ?_ | refine Z.apZ_mk (by kernel_rfl) ?_)
      all_goals (try (conv => whnf))
      all_goals try (show Nat.ble _ _ = true; rfl)
      all_goals first
        | ((refine Z.rnd_rw 8 (y.es.map cE) rfl rfl ?_ ?_); (focus (exact Z.lay_copy (by simp) (Nat.le_min.2 ⟨by simp, by simp⟩) (fun _ => rfl))); ((refine rnd_fzr 26 5 ((rwB qs (i + 1)).set k [.osl 6 0 (x.es.map eE).length (some (x.es.map eE).length), .v (.int .u64 x.last), .v (.bool x.held), .v (.bool x.ended)]) rfl rfl rfl (rows_midS hy hki ⟨?_, ?_, ?_, ?_, trivial⟩) ?_); (focus (first | exact Z.fzC.ogsl rfl (by simp only [List.length_map, Nat.zero_add]) (fun _ => rfl))); (focus (first | exact Z.fzC.refl _)); (focus (first | exact Z.fzC.refl _)); (focus (first | exact Z.fzC.refl _)); ((refine Z.rndK ((i + 1, true)) (fun s => [0, 1, 2, 3, 4, 5, 6]) rfl rfl rfl rfl ?_ ?_ ?_ ?_); (focus (repeat' (first | exact trivial | exact rfl | apply And.intro))); (focus (repeat' (first | exact trivial | exact blk_set0 rfl rwB_ren rfl | (intro b hb; cases hb; rfl) | exact Z.blk_sub rfl rfl (ren_map fun _ => rfl) | apply And.intro))); (focus (exact ⟨by (try dsimp only); omega, by (try dsimp only); first | (constructor; (focus (intro h9; cases h9)); (intro h9; omega)) | (constructor; (focus (intro _; omega)); (intro _; rfl))⟩)); ((try dsimp only); omega))))
  have hiq : i = qs.length := by omega
  subst hiq
  obtain rfl : ph = true := HP.2 hkl
  dsimp only [rwQ, blQ]
  repeat' ((conv => whnf); first
    | with_reducible first | refine spB_t ?_
    | with_reducible first | refine spB_no (by decide) ?_
    | (with_reducible refine spB_dec ?_ ?_ <;> intro _ <;> (try (exfalso; first | contradiction | omega | (rename_i hz; refine hz ?_; simp; done) | (rename_i hz; simp at hz; done) | (simp only [LN] at *; omega))))
    | (with_reducible refine spB_beq ?_ ?_ <;> intro _ <;> (try (exfalso; first | contradiction | omega | (rename_i hz; refine hz ?_; simp; done) | (rename_i hz; simp at hz; done) | (simp only [LN] at *; omega))))
    | ((with_reducible refine ixN_mk (k) ?_ ?_ ?_); (focus (first | rfl)); (focus ((try simp only [LN] at *) <;> omega)))
    | ((with_reducible refine rowN_mk [.osl 6 0 (x.es.map eE).length (some (x.es.map eE).length), .v (.int .u64 x.last), .v (.bool x.held), .v (.bool x.ended)] ?_ ?_); (focus (exact rows_set0 (by rw [rwB_len]; exact hkl))))
    | ((with_reducible apply rowN_mk); (focus (exact rows_set (by first | (rw [setB_len]; exact hkl) | (rw [rwB_len]; exact hkl) | (rw [List.length_set, setB_len]; exact hkl)))))
    | ((with_reducible refine apdE_k ?_); (with_reducible refine apkN.mk ⟨_, rfl, ?_⟩ ?_); (focus omega); (with_reducible refine apdN.mk ?_ ?_ ?_ ?_ ?_ ?_); (focus rfl); (focus (exact one_all (by rfl))); (focus (simp; done)); (focus ((try simp only [LN] at *) <;> omega)); (focus ((try simp only [LN] at *) <;> omega)))
    | ((first | (with_reducible refine Z.conZ_mz ?_ (cc) ?_)); (focus ((repeat' (first | exact trivial | exact rfl | (refine Z.low_osln ?_ (fun _ => rfl); (simp only [List.length_map]; done)) | apply And.intro)); done)))
    | ((with_reducible apply ex_and); exact rfl)
    | with_reducible first | refine Z.drawZ_rule tabOk mixOk ?_ | refine Z.apZ_mk (by kernel_rfl) ?_)
  all_goals (try (conv => whnf))
  all_goals try (show Nat.ble _ _ = true; rfl)
  all_goals try (exfalso; rename_i hz; cases hz; done)
  all_goals try (exfalso; (try simp only [LN] at *) <;> omega)
  all_goals first
    | ((refine Z.retG_fz 70 5 ((qs.set k (pushQ e x)).map cQ) rfl rfl (rows_end (q := pushQ e x) ?_) ?_); (focus (refine ⟨?_, ?_, ?_, ?_, trivial⟩; (focus (exact Z.fzC.ogsl (l := x.es ++ [e]) (f := cE) (ty := 29) (bx := false) (congrArg (fun r => some (Blk.mk r 5 29 false)) (g_app' (f := cE) (by simp) rfl)) (by simp) (fun _ => rfl))); (focus (exact Z.fzC.of_eq (by unfold pushQ; simp_all))); (focus exact Z.fzC.refl _); (exact Z.fzC.refl _))); (refine Z.retG_0 ?_); (refine Z.retF2 [.agg [.osl 5 0 (qs.map eQ).length (some (qs.map eQ).length), .v (.int .u64 n), .v (.int .u64 d)], .one (.v (.int .i64 0))] (by rfl) ⟨⟨Z.frz_osl (l := qs.set k (pushQ e x)) (f := cQ) (ty := 39) (bx := false) (by rfl) (by simp) (fun _ => rfl), rfl, rfl, trivial⟩, rfl, trivial⟩))
    | ((refine Z.retG_fz 70 5 ((qs.set k (pushQ e x)).map cQ) rfl rfl (rows_end2 (q := pushQ e x) ?_) ?_); (focus (refine ⟨?_, ?_, ?_, ?_, trivial⟩; (focus (exact Z.fzC.ogsl (l := x.es ++ [e]) (f := cE) (ty := 29) (bx := false) (congrArg (fun r => some (Blk.mk r 5 29 false)) (g_app' (f := cE) (by simp) rfl)) (by simp) (fun _ => rfl))); (focus (exact Z.fzC.of_eq (by unfold pushQ; simp_all))); (focus exact Z.fzC.refl _); (exact Z.fzC.refl _))); (refine Z.retG_0 ?_); (refine Z.retF2 [.agg [.osl 5 0 (qs.map eQ).length (some (qs.map eQ).length), .v (.int .u64 n), .v (.int .u64 d)], .one (.v (.int .i64 0))] (by rfl) ⟨⟨Z.frz_osl (l := qs.set k (pushQ e x)) (f := cQ) (ty := 39) (bx := false) (by rfl) (by simp) (fun _ => rfl), rfl, rfl, trivial⟩, rfl, trivial⟩))

end Go.Proofs.Ytakfkbciijahgaa
namespace Go.Proofs.Ytakfkbciijahgaa
open Go Go.RowKit Wx
set_option linter.unusedVariables false
set_option linter.unusedSimpArgs false
set_option maxHeartbeats 4000000
theorem push_bad (qs : List Qu) (n d : Int) (i : Int) (e : El) (hq : qs.length ≤ 9223372036854775807) (hlq : ∀ q ∈ qs, q.es.length ≤ 9223372036854775807) (huq : ∀ q ∈ qs, ∀ e ∈ q.es, 0 ≤ e.num) (he : 0 ≤ e.num) (hk : okG qs n d = false) : Con Try.prog 12 [.agg [.ro false 4 (qs.map eQ), .v (.int .u64 n), .v (.int .u64 d)], .one (.v (.int .i64 i)), .agg [.v (.int .i64 e.kd), .v (.int .i64 e.src), .v (.int .i64 e.key), .v (.int .i64 e.val), .v (.int .u64 e.num)]] (fun rx rK rt => rx = .tup [.agg [.ro true 4 (([] : List Qu).map eQ), .v (.int .u64 0), .v (.int .u64 0)], .one (.v (.int .i64 250))] ∧ rK = [] ∧ rt = 0) := by
  refine Z.con_ofF tabOk 82 Try.f12 _ Try.func12 (by kernel_rfl) rfl rfl rfl rfl ?_
  have ck := check_con qs n d hq hlq huq
  rw [hk] at ck
  simp only [cond_false] at ck
  repeat' ((conv => whnf); first
    | with_reducible first | refine spB_t ?_
    | ((with_reducible apply spB_cong); (focus (simp only [beq_self_eq_true, bne_self_eq_false, Bool.true_bne, Bool.false_bne, Bool.bne_true, Bool.bne_false, Bool.true_beq, Bool.false_beq, Bool.not_true, Bool.not_false, Bool.not_not, Int.reduceBEq, Int.reduceBNe, Int.reduceLE, Int.reduceLT, Int.reduceEq, decide_true, decide_false]; rfl)))
    | ((first | (with_reducible refine Z.callZ_mk ?_ (ck) ?_)); (focus ((repeat' (first | exact trivial | exact rfl | apply And.intro)); done))))
  all_goals (try (conv => whnf))
  all_goals try (show Nat.ble _ _ = true; rfl)
  all_goals first
    | ((first | (with_reducible apply Z.retF2)); (focus (exact rfl)); (repeat' (first | exact trivial | (with_reducible apply Z.frz_agg) | (with_reducible apply Z.fq_int) | (exact Z.frz_nil) | exact rfl | apply And.intro)); (all_goals (try exact (fun _ => none))); all_goals (first | (simp; done)))

theorem push_has (qs : List Qu) (n d : Int) (i : Int) (e : El) (hq : qs.length ≤ 9223372036854775807) (hlq : ∀ q ∈ qs, q.es.length ≤ 9223372036854775807) (huq : ∀ q ∈ qs, ∀ e ∈ q.es, 0 ≤ e.num) (he : 0 ≤ e.num) (hk : okG qs n d = true) (hi : ¬ (0 ≤ i ∧ i < qs.length)) : Con Try.prog 12 [.agg [.ro false 4 (qs.map eQ), .v (.int .u64 n), .v (.int .u64 d)], .one (.v (.int .i64 i)), .agg [.v (.int .i64 e.kd), .v (.int .i64 e.src), .v (.int .i64 e.key), .v (.int .i64 e.val), .v (.int .u64 e.num)]] (fun rx rK rt => rx = .tup [.agg [.ro true 4 (([] : List Qu).map eQ), .v (.int .u64 0), .v (.int .u64 0)], .one (.v (.int .i64 2))] ∧ rK = [] ∧ rt = 0) := by
  refine Z.con_ofF tabOk 82 Try.f12 _ Try.func12 (by kernel_rfl) rfl rfl rfl rfl ?_
  have ck := check_con qs n d hq hlq huq
  rw [hk] at ck
  simp only [cond_true] at ck
  obtain ⟨hn1, hn4⟩ := okG_all hk
  have ch := has_con qs n d i
  rw [decide_eq_false hi] at ch
  repeat' ((conv => whnf); first
    | with_reducible first | refine spB_t ?_
    | ((with_reducible apply spB_cong); (focus (simp only [beq_self_eq_true, bne_self_eq_false, Bool.true_bne, Bool.false_bne, Bool.bne_true, Bool.bne_false, Bool.true_beq, Bool.false_beq, Bool.not_true, Bool.not_false, Bool.not_not, Int.reduceBEq, Int.reduceBNe, Int.reduceLE, Int.reduceLT, Int.reduceEq, decide_true, decide_false]; rfl)))
    | with_reducible first | refine spB_no (by decide) ?_
    | ((first | (with_reducible refine Z.callZ_mk ?_ (ck) ?_) | (with_reducible refine Z.callZ_mk ?_ (ch) ?_)); (focus ((repeat' (first | exact trivial | exact rfl | apply And.intro)); done))))
  all_goals (try (conv => whnf))
  all_goals try (show Nat.ble _ _ = true; rfl)
  all_goals first
    | ((first | (with_reducible apply Z.retF2)); (focus (exact rfl)); (repeat' (first | exact trivial | (with_reducible apply Z.frz_one) | (with_reducible apply Z.frz_agg) | (with_reducible apply Z.fq_int) | (exact Z.frz_nil) | exact rfl | apply And.intro)); (all_goals (try exact (fun _ => none))); all_goals (first | (simp; done)))

theorem push_elem (qs : List Qu) (n d : Int) (i : Int) (e : El) (hq : qs.length ≤ 9223372036854775807) (hlq : ∀ q ∈ qs, q.es.length ≤ 9223372036854775807) (huq : ∀ q ∈ qs, ∀ e ∈ q.es, 0 ≤ e.num) (he : 0 ≤ e.num) (hk : okG qs n d = true) (hi : 0 ≤ i ∧ i < qs.length) (hoe : okE e = false) : Con Try.prog 12 [.agg [.ro false 4 (qs.map eQ), .v (.int .u64 n), .v (.int .u64 d)], .one (.v (.int .i64 i)), .agg [.v (.int .i64 e.kd), .v (.int .i64 e.src), .v (.int .i64 e.key), .v (.int .i64 e.val), .v (.int .u64 e.num)]] (fun rx rK rt => rx = .tup [.agg [.ro true 4 (([] : List Qu).map eQ), .v (.int .u64 0), .v (.int .u64 0)], .one (.v (.int .i64 151))] ∧ rK = [] ∧ rt = 0) := by
  refine Z.con_ofF tabOk 82 Try.f12 _ Try.func12 (by kernel_rfl) rfl rfl rfl rfl ?_
  have ck := check_con qs n d hq hlq huq
  rw [hk] at ck
  simp only [cond_true] at ck
  obtain ⟨hn1, hn4⟩ := okG_all hk
  have ch := has_con qs n d i
  rw [decide_eq_true hi] at ch
  have ce := checkE_con e he
  rw [hoe] at ce
  simp only [cond_false] at ce
  repeat' ((conv => whnf); first
    | with_reducible first | refine spB_t ?_
    | ((with_reducible apply spB_cong); (focus (simp only [beq_self_eq_true, bne_self_eq_false, Bool.true_bne, Bool.false_bne, Bool.bne_true, Bool.bne_false, Bool.true_beq, Bool.false_beq, Bool.not_true, Bool.not_false, Bool.not_not, Int.reduceBEq, Int.reduceBNe, Int.reduceLE, Int.reduceLT, Int.reduceEq, decide_true, decide_false]; rfl)))
    | with_reducible first | refine spB_no (by decide) ?_
    | ((first | (with_reducible refine Z.callZ_mk ?_ (ck) ?_) | (with_reducible refine Z.callZ_mk ?_ (ch) ?_) | (with_reducible refine Z.callZ_mk ?_ (ce) ?_)); (focus ((repeat' (first | exact trivial | exact rfl | apply And.intro)); done))))
  all_goals (try (conv => whnf))
  all_goals try (show Nat.ble _ _ = true; rfl)
  all_goals first
    | ((first | (with_reducible apply Z.retF2)); (focus (exact rfl)); (repeat' (first | exact trivial | (with_reducible apply Z.frz_agg) | (with_reducible apply Z.fq_int) | (exact Z.frz_nil) | exact rfl | apply And.intro)); (all_goals (try exact (fun _ => none))); all_goals (first | (simp; done)))

theorem push_cls (qs : List Qu) (n d : Int) (k : Nat) (x : Qu) (e : El) (hq : qs.length ≤ 9223372036854775807) (hlq : ∀ q ∈ qs, q.es.length ≤ 9223372036854775807) (huq : ∀ q ∈ qs, ∀ e ∈ q.es, 0 ≤ e.num) (he : 0 ≤ e.num) (hk : okG qs n d = true) (hx : qs[k]? = some x) (hoe : okE e = true) (hcl : clsQ x = true) : Con Try.prog 12 [.agg [.ro false 4 (qs.map eQ), .v (.int .u64 n), .v (.int .u64 d)], .one (.v (.int .i64 (k : Int))), .agg [.v (.int .i64 e.kd), .v (.int .i64 e.src), .v (.int .i64 e.key), .v (.int .i64 e.val), .v (.int .u64 e.num)]] (fun rx rK rt => rx = .tup [.agg [.ro true 4 (([] : List Qu).map eQ), .v (.int .u64 0), .v (.int .u64 0)], .one (.v (.int .i64 2))] ∧ rK = [] ∧ rt = 0) := by
  refine Z.con_ofF tabOk 82 Try.f12 _ Try.func12 (by kernel_rfl) rfl rfl rfl rfl ?_
  have ck := check_con qs n d hq hlq huq
  rw [hk] at ck
  simp only [cond_true] at ck
  obtain ⟨hn1, hn4⟩ := okG_all hk
  have ch := has_con qs n d (k : Int)
  rw [decide_eq_true (p := (0 : Int) ≤ (k : Int) ∧ (k : Int) < (qs.length : Int)) (by have := (List.getElem?_eq_some_iff.1 hx).1; omega)] at ch
  have hkl := (List.getElem?_eq_some_iff.1 hx).1
  have hx4 := hn4 x (List.mem_of_getElem? hx)
  have ce := checkE_con e he
  rw [hoe] at ce
  simp only [cond_true] at ce
  have cc := closed_con x (by omega)
  rw [hcl] at cc
  repeat' ((conv => whnf); first
    | ((with_reducible apply spB_cong); (focus (simp only [beq_self_eq_true, bne_self_eq_false, Bool.true_bne, Bool.false_bne, Bool.bne_true, Bool.bne_false, Bool.true_beq, Bool.false_beq, Bool.not_true, Bool.not_false, Bool.not_not, Int.reduceBEq, Int.reduceBNe, Int.reduceLE, Int.reduceLT, Int.reduceEq, decide_true, decide_false]; rfl)))
    | with_reducible first | refine spB_no (by decide) ?_
    | ((with_reducible refine cpyN.mk ?_ ?_ ?_ ?_); (focus (first | (simp; done))); (focus (first | exact one_map2 (fun _ => rfl))); (focus ((try simp only [LN] at *) <;> omega)))
    | with_reducible first | refine Z.callZ_in tabOk 41 Try.f30 _ Try.func30 (by kernel_rfl) rfl rfl rfl ?_
    | ((first | (with_reducible refine Z.callZ_mk ?_ (ck) ?_) | (with_reducible refine Z.callZ_mk ?_ (ch) ?_) | (with_reducible refine Z.callZ_mk ?_ (ce) ?_)); (focus ((repeat' (first | exact trivial | exact rfl | apply And.intro)); done)))
    | ((with_reducible refine Z.mkN_nat ?_ ?_ ?_ ?_); (focus ((try simp only [LN] at *) <;> omega)); (focus ((try simp only [LN] at *) <;> omega)); (focus ((try simp only [LN] at *) <;> omega))))
  all_goals (try (conv => whnf))
  all_goals try (show Nat.ble _ _ = true; rfl)
  all_goals try (exfalso; rename_i hz; cases hz; done)
  all_goals try (exfalso; (try simp only [LN] at *) <;> omega)
  refine Z.loopK tabOk (fun zq : Nat => [(16, .val (.int .i64 (zq : Int)))]) (fun zq : Nat => ([(5, some (Z.Ob.b ⟨(qs.take zq).map cQ ++ (qs.drop zq).map cQf, 4, 39, false⟩))] : Z.Kr)) (fun zq => zq ≤ qs.length) (fun zq => qs.length - zq) 0 6 [(1, _), (2, _), (3, _), (14, _), (15, _)] ⟨rfl, rfl, rfl, rfl, rfl, trivial⟩ [(0, some _), (1, some _), (2, some _), (3, some _), (4, some _)] ⟨rfl, rfl, rfl, rfl, rfl, trivial⟩ ?_ ?_ rfl rfl (Nat.zero_le _) ?_
  · repeat' (first | exact trivial | apply And.intro | exact ⟨_, rfl, Z.Imp.refl _⟩)
  · repeat' (first | exact trivial | (intro b hb; cases hb; refine ⟨_, rfl, ⟨rfl, rfl, rfl⟩, Z.imp_eq ?_⟩; first | rfl | exact Z.lay_copy (by simp) (Nat.le_min.2 ⟨by simp, by simp⟩) (fun _ => rfl); done) | apply And.intro)
  rintro i HINV
  dsimp only at HINV ⊢
  by_cases hi : i < qs.length
  · obtain ⟨y, hy⟩ := getElem?_some' (xs := qs) (i := i) hi
    have hy4 := hn4 y (List.mem_of_getElem? hy)
    repeat' ((conv => whnf); first
      | (with_reducible refine spB_dec ?_ ?_ <;> intro _ <;> (try (exfalso; first | contradiction | omega | (rename_i hz; refine hz ?_; simp; done) | (rename_i hz; simp at hz; done) | (simp only [LN] at *; omega))))
      | ((with_reducible refine rowN_mk (cQf y) ?_ ?_); (focus (exact rows_at hy)))
      | ((with_reducible apply rowN_mk); (focus (exact rows_set (by simp only [List.length_append, List.length_map, List.length_take, List.length_drop]; omega))))
      | ((with_reducible apply ixN_litp); (focus (exact rfl)); (focus ((try simp only [LN] at *) <;> omega)))
      | ((with_reducible refine cpyN.mk ?_ ?_ ?_ ?_); (focus (first | (simp; done))); (focus (first | exact one_map2 (fun _ => rfl))); (focus ((try simp only [LN] at *) <;> omega)))
      | with_reducible refine wr_i64 (by first | omega | (simp only [LN] at *; omega)) ?_
      | ((with_reducible refine Z.mkN_nat ?_ ?_ ?_ ?_); (focus ((try simp only [LN] at *) <;> omega)); (focus ((try simp only [LN] at *) <;> omega)); (focus ((try simp only [LN] at *) <;> omega)))
      | with_reducible first | refine Z.drawZ_rule tabOk mixOk ?_ | refine Z.apZ_mk (by kernel_rfl) ?_)
    all_goals (try (conv => whnf))
    all_goals try (show Nat.ble _ _ = true; rfl)
    all_goals first
      | ((refine Z.rnd_rw 7 (y.es.map cE) rfl rfl ?_ ?_); (focus (exact Z.lay_copy (by simp) (Nat.le_min.2 ⟨by simp, by simp⟩) (fun _ => rfl))); ((refine rnd_fzr 26 5 ((qs.take (i + 1)).map cQ ++ (qs.drop (i + 1)).map cQf) rfl rfl rfl (rows_mid hy ⟨?_, ?_, ?_, ?_, trivial⟩) ?_); (focus (first | exact Z.fzC.ogsl rfl (by simp only [List.length_map, Nat.zero_add]) (fun _ => rfl))); (focus (first | exact Z.fzC.refl _)); (focus (first | exact Z.fzC.refl _)); (focus (first | exact Z.fzC.refl _)); ((refine Z.rndK ((i + 1)) (fun s => [0, 1, 2, 3, 4, 5]) rfl rfl rfl rfl ?_ ?_ ?_ ?_); (focus (repeat' (first | exact trivial | exact rfl | apply And.intro))); (focus (repeat' (first | exact trivial | (intro b hb; cases hb; rfl) | exact Z.blk_sub rfl rfl (Z.ren_app (ren_map fun _ => rfl) (ren_map fun _ => rfl)) | apply And.intro))); (focus (((try dsimp only); omega))); ((try dsimp only); omega))))
  have hiq : i = qs.length := by omega
  subst hiq
  repeat' ((conv => whnf); first
    | with_reducible first | refine spB_t ?_
    | (with_reducible refine spB_dec ?_ ?_ <;> intro _ <;> (try (exfalso; first | contradiction | omega | (rename_i hz; refine hz ?_; simp; done) | (rename_i hz; simp at hz; done) | (simp only [LN] at *; omega))))
    | ((with_reducible refine ixN_mk (k) ?_ ?_ ?_); (focus (first | rfl)); (focus ((try simp only [LN] at *) <;> omega)))
    | ((with_reducible refine rowN_mk (cQ x) ?_ ?_); (focus (exact rows_done hx)))
    | ((first | (with_reducible refine Z.conZ_mz ?_ (cc) ?_)); (focus ((repeat' (first | exact trivial | exact rfl | apply And.intro)); done)))
    | ((with_reducible apply ex_and); exact rfl)
    | with_reducible first | refine Z.drawZ_rule tabOk mixOk ?_ | refine Z.apZ_mk (by kernel_rfl) ?_)
  all_goals (try (conv => whnf))
  all_goals try (show Nat.ble _ _ = true; rfl)
  all_goals first
    | ((first | (with_reducible apply Z.retF2)); (focus (exact rfl)); (repeat' (first | exact trivial | (with_reducible apply Z.frz_one) | (with_reducible apply Z.frz_agg) | (with_reducible apply Z.fq_int) | (exact Z.frz_nil) | exact rfl | apply And.intro)); (all_goals (try exact (fun _ => none))); all_goals (first | (simp; done)))

theorem push_bar (qs : List Qu) (n d : Int) (k : Nat) (x : Qu) (e : El) (hq : qs.length ≤ 9223372036854775807) (hlq : ∀ q ∈ qs, q.es.length ≤ 9223372036854775807) (huq : ∀ q ∈ qs, ∀ e ∈ q.es, 0 ≤ e.num) (he : 0 ≤ e.num) (hk : okG qs n d = true) (hx : qs[k]? = some x) (hoe : okE e = true) (hcl : clsQ x = false) (hb : e.kd = 2 ∧ e.num ≤ x.last) : Con Try.prog 12 [.agg [.ro false 4 (qs.map eQ), .v (.int .u64 n), .v (.int .u64 d)], .one (.v (.int .i64 (k : Int))), .agg [.v (.int .i64 e.kd), .v (.int .i64 e.src), .v (.int .i64 e.key), .v (.int .i64 e.val), .v (.int .u64 e.num)]] (fun rx rK rt => rx = .tup [.agg [.ro true 4 (([] : List Qu).map eQ), .v (.int .u64 0), .v (.int .u64 0)], .one (.v (.int .i64 2))] ∧ rK = [] ∧ rt = 0) := by
  refine Z.con_ofF tabOk 82 Try.f12 _ Try.func12 (by kernel_rfl) rfl rfl rfl rfl ?_
  have ck := check_con qs n d hq hlq huq
  rw [hk] at ck
  simp only [cond_true] at ck
  obtain ⟨hn1, hn4⟩ := okG_all hk
  have ch := has_con qs n d (k : Int)
  rw [decide_eq_true (p := (0 : Int) ≤ (k : Int) ∧ (k : Int) < (qs.length : Int)) (by have := (List.getElem?_eq_some_iff.1 hx).1; omega)] at ch
  have hkl := (List.getElem?_eq_some_iff.1 hx).1
  have hx4 := hn4 x (List.mem_of_getElem? hx)
  have ce := checkE_con e he
  rw [hoe] at ce
  simp only [cond_true] at ce
  have cc := closed_con x (by omega)
  rw [hcl] at cc
  repeat' ((conv => whnf); first
    | ((with_reducible apply spB_cong); (focus (simp only [beq_self_eq_true, bne_self_eq_false, Bool.true_bne, Bool.false_bne, Bool.bne_true, Bool.bne_false, Bool.true_beq, Bool.false_beq, Bool.not_true, Bool.not_false, Bool.not_not, Int.reduceBEq, Int.reduceBNe, Int.reduceLE, Int.reduceLT, Int.reduceEq, decide_true, decide_false]; rfl)))
    | with_reducible first | refine spB_no (by decide) ?_
    | ((with_reducible refine cpyN.mk ?_ ?_ ?_ ?_); (focus (first | (simp; done))); (focus (first | exact one_map2 (fun _ => rfl))); (focus ((try simp only [LN] at *) <;> omega)))
    | with_reducible first | refine Z.callZ_in tabOk 41 Try.f30 _ Try.func30 (by kernel_rfl) rfl rfl rfl ?_
    | ((first | (with_reducible refine Z.callZ_mk ?_ (ck) ?_) | (with_reducible refine Z.callZ_mk ?_ (ch) ?_) | (with_reducible refine Z.callZ_mk ?_ (ce) ?_)); (focus ((repeat' (first | exact trivial | exact rfl | apply And.intro)); done)))
    | ((with_reducible refine Z.mkN_nat ?_ ?_ ?_ ?_); (focus ((try simp only [LN] at *) <;> omega)); (focus ((try simp only [LN] at *) <;> omega)); (focus ((try simp only [LN] at *) <;> omega))))
  all_goals (try (conv => whnf))
  all_goals try (show Nat.ble _ _ = true; rfl)
  all_goals try (exfalso; rename_i hz; cases hz; done)
  all_goals try (exfalso; (try simp only [LN] at *) <;> omega)
  refine Z.loopK tabOk (fun zq : Nat => [(16, .val (.int .i64 (zq : Int)))]) (fun zq : Nat => ([(5, some (Z.Ob.b ⟨(qs.take zq).map cQ ++ (qs.drop zq).map cQf, 4, 39, false⟩))] : Z.Kr)) (fun zq => zq ≤ qs.length) (fun zq => qs.length - zq) 0 6 [(1, _), (2, _), (3, _), (14, _), (15, _)] ⟨rfl, rfl, rfl, rfl, rfl, trivial⟩ [(0, some _), (1, some _), (2, some _), (3, some _), (4, some _)] ⟨rfl, rfl, rfl, rfl, rfl, trivial⟩ ?_ ?_ rfl rfl (Nat.zero_le _) ?_
  · repeat' (first | exact trivial | apply And.intro | exact ⟨_, rfl, Z.Imp.refl _⟩)
  · repeat' (first | exact trivial | (intro b hb; cases hb; refine ⟨_, rfl, ⟨rfl, rfl, rfl⟩, Z.imp_eq ?_⟩; first | rfl | exact Z.lay_copy (by simp) (Nat.le_min.2 ⟨by simp, by simp⟩) (fun _ => rfl); done) | apply And.intro)
  rintro i HINV
  dsimp only at HINV ⊢
  by_cases hi : i < qs.length
  · obtain ⟨y, hy⟩ := getElem?_some' (xs := qs) (i := i) hi
    have hy4 := hn4 y (List.mem_of_getElem? hy)
    repeat' ((conv => whnf); first
      | (with_reducible refine spB_dec ?_ ?_ <;> intro _ <;> (try (exfalso; first | contradiction | omega | (rename_i hz; refine hz ?_; simp; done) | (rename_i hz; simp at hz; done) | (simp only [LN] at *; omega))))
      | ((with_reducible refine rowN_mk (cQf y) ?_ ?_); (focus (exact rows_at hy)))
      | ((with_reducible apply rowN_mk); (focus (exact rows_set (by simp only [List.length_append, List.length_map, List.length_take, List.length_drop]; omega))))
      | ((with_reducible apply ixN_litp); (focus (exact rfl)); (focus ((try simp only [LN] at *) <;> omega)))
      | ((with_reducible refine cpyN.mk ?_ ?_ ?_ ?_); (focus (first | (simp; done))); (focus (first | exact one_map2 (fun _ => rfl))); (focus ((try simp only [LN] at *) <;> omega)))
      | with_reducible refine wr_i64 (by first | omega | (simp only [LN] at *; omega)) ?_
      | ((with_reducible refine Z.mkN_nat ?_ ?_ ?_ ?_); (focus ((try simp only [LN] at *) <;> omega)); (focus ((try simp only [LN] at *) <;> omega)); (focus ((try simp only [LN] at *) <;> omega)))
      | with_reducible first | refine Z.drawZ_rule tabOk mixOk ?_ | refine Z.apZ_mk (by kernel_rfl) ?_)
    all_goals (try (conv => whnf))
    all_goals try (show Nat.ble _ _ = true; rfl)
    all_goals first
      | ((refine Z.rnd_rw 7 (y.es.map cE) rfl rfl ?_ ?_); (focus (exact Z.lay_copy (by simp) (Nat.le_min.2 ⟨by simp, by simp⟩) (fun _ => rfl))); ((refine rnd_fzr 26 5 ((qs.take (i + 1)).map cQ ++ (qs.drop (i + 1)).map cQf) rfl rfl rfl (rows_mid hy ⟨?_, ?_, ?_, ?_, trivial⟩) ?_); (focus (first | exact Z.fzC.ogsl rfl (by simp only [List.length_map, Nat.zero_add]) (fun _ => rfl))); (focus (first | exact Z.fzC.refl _)); (focus (first | exact Z.fzC.refl _)); (focus (first | exact Z.fzC.refl _)); ((refine Z.rndK ((i + 1)) (fun s => [0, 1, 2, 3, 4, 5]) rfl rfl rfl rfl ?_ ?_ ?_ ?_); (focus (repeat' (first | exact trivial | exact rfl | apply And.intro))); (focus (repeat' (first | exact trivial | (intro b hb; cases hb; rfl) | exact Z.blk_sub rfl rfl (Z.ren_app (ren_map fun _ => rfl) (ren_map fun _ => rfl)) | apply And.intro))); (focus (((try dsimp only); omega))); ((try dsimp only); omega))))
  have hiq : i = qs.length := by omega
  subst hiq
  repeat' ((conv => whnf); first
    | with_reducible first | refine spB_t ?_
    | with_reducible first | refine spB_no (by decide) ?_
    | (with_reducible refine spB_dec ?_ ?_ <;> intro _ <;> (try (exfalso; first | contradiction | omega | (rename_i hz; refine hz ?_; simp; done) | (rename_i hz; simp at hz; done) | (simp only [LN] at *; omega))))
    | (with_reducible refine spB_beq ?_ ?_ <;> intro _ <;> (try (exfalso; first | contradiction | omega | (rename_i hz; refine hz ?_; simp; done) | (rename_i hz; simp at hz; done) | (simp only [LN] at *; omega))))
    | ((with_reducible refine ixN_mk (k) ?_ ?_ ?_); (focus (first | rfl)); (focus ((try simp only [LN] at *) <;> omega)))
    | ((with_reducible refine rowN_mk (cQ x) ?_ ?_); (focus (exact rows_done hx)))
    | ((first | (with_reducible refine Z.conZ_mz ?_ (cc) ?_)); (focus ((repeat' (first | exact trivial | exact rfl | apply And.intro)); done)))
    | ((with_reducible apply ex_and); exact rfl)
    | with_reducible first | refine Z.drawZ_rule tabOk mixOk ?_ | refine Z.apZ_mk (by kernel_rfl) ?_)
  all_goals (try (conv => whnf))
  all_goals try (show Nat.ble _ _ = true; rfl)
  all_goals first
    | ((first | (with_reducible apply Z.retF2)); (focus (exact rfl)); (repeat' (first | exact trivial | (with_reducible apply Z.frz_one) | (with_reducible apply Z.frz_agg) | (with_reducible apply Z.fq_int) | (exact Z.frz_nil) | exact rfl | apply And.intro)); (all_goals (try exact (fun _ => none))); all_goals (first | (simp; done)))

theorem push_full (qs : List Qu) (n d : Int) (k : Nat) (x : Qu) (e : El) (hq : qs.length ≤ 9223372036854775807) (hlq : ∀ q ∈ qs, q.es.length ≤ 9223372036854775807) (huq : ∀ q ∈ qs, ∀ e ∈ q.es, 0 ≤ e.num) (he : 0 ≤ e.num) (hk : okG qs n d = true) (hx : qs[k]? = some x) (hoe : okE e = true) (hcl : clsQ x = false) (hnb : ¬ (e.kd = 2 ∧ e.num ≤ x.last)) (hfl : 4 ≤ x.es.length) : Con Try.prog 12 [.agg [.ro false 4 (qs.map eQ), .v (.int .u64 n), .v (.int .u64 d)], .one (.v (.int .i64 (k : Int))), .agg [.v (.int .i64 e.kd), .v (.int .i64 e.src), .v (.int .i64 e.key), .v (.int .i64 e.val), .v (.int .u64 e.num)]] (fun rx rK rt => rx = .tup [.agg [.ro true 4 (([] : List Qu).map eQ), .v (.int .u64 0), .v (.int .u64 0)], .one (.v (.int .i64 6))] ∧ rK = [] ∧ rt = 0) := by
  refine Z.con_ofF tabOk 82 Try.f12 _ Try.func12 (by kernel_rfl) rfl rfl rfl rfl ?_
  have ck := check_con qs n d hq hlq huq
  rw [hk] at ck
  simp only [cond_true] at ck
  obtain ⟨hn1, hn4⟩ := okG_all hk
  have ch := has_con qs n d (k : Int)
  rw [decide_eq_true (p := (0 : Int) ≤ (k : Int) ∧ (k : Int) < (qs.length : Int)) (by have := (List.getElem?_eq_some_iff.1 hx).1; omega)] at ch
  have hkl := (List.getElem?_eq_some_iff.1 hx).1
  have hx4 := hn4 x (List.mem_of_getElem? hx)
  have ce := checkE_con e he
  rw [hoe] at ce
  simp only [cond_true] at ce
  have cc := closed_con x (by omega)
  rw [hcl] at cc
  repeat' ((conv => whnf); first
    | ((with_reducible apply spB_cong); (focus (simp only [beq_self_eq_true, bne_self_eq_false, Bool.true_bne, Bool.false_bne, Bool.bne_true, Bool.bne_false, Bool.true_beq, Bool.false_beq, Bool.not_true, Bool.not_false, Bool.not_not, Int.reduceBEq, Int.reduceBNe, Int.reduceLE, Int.reduceLT, Int.reduceEq, decide_true, decide_false]; rfl)))
    | with_reducible first | refine spB_no (by decide) ?_
    | ((with_reducible refine cpyN.mk ?_ ?_ ?_ ?_); (focus (first | (simp; done))); (focus (first | exact one_map2 (fun _ => rfl))); (focus ((try simp only [LN] at *) <;> omega)))
    | with_reducible first | refine Z.callZ_in tabOk 41 Try.f30 _ Try.func30 (by kernel_rfl) rfl rfl rfl ?_
    | ((first | (with_reducible refine Z.callZ_mk ?_ (ck) ?_) | (with_reducible refine Z.callZ_mk ?_ (ch) ?_) | (with_reducible refine Z.callZ_mk ?_ (ce) ?_)); (focus ((repeat' (first | exact trivial | exact rfl | apply And.intro)); done)))
    | ((with_reducible refine Z.mkN_nat ?_ ?_ ?_ ?_); (focus ((try simp only [LN] at *) <;> omega)); (focus ((try simp only [LN] at *) <;> omega)); (focus ((try simp only [LN] at *) <;> omega))))
  all_goals (try (conv => whnf))
  all_goals try (show Nat.ble _ _ = true; rfl)
  all_goals try (exfalso; rename_i hz; cases hz; done)
  all_goals try (exfalso; (try simp only [LN] at *) <;> omega)
  refine Z.loopK tabOk (fun zq : Nat => [(16, .val (.int .i64 (zq : Int)))]) (fun zq : Nat => ([(5, some (Z.Ob.b ⟨(qs.take zq).map cQ ++ (qs.drop zq).map cQf, 4, 39, false⟩))] : Z.Kr)) (fun zq => zq ≤ qs.length) (fun zq => qs.length - zq) 0 6 [(1, _), (2, _), (3, _), (14, _), (15, _)] ⟨rfl, rfl, rfl, rfl, rfl, trivial⟩ [(0, some _), (1, some _), (2, some _), (3, some _), (4, some _)] ⟨rfl, rfl, rfl, rfl, rfl, trivial⟩ ?_ ?_ rfl rfl (Nat.zero_le _) ?_
  · repeat' (first | exact trivial | apply And.intro | exact ⟨_, rfl, Z.Imp.refl _⟩)
  · repeat' (first | exact trivial | (intro b hb; cases hb; refine ⟨_, rfl, ⟨rfl, rfl, rfl⟩, Z.imp_eq ?_⟩; first | rfl | exact Z.lay_copy (by simp) (Nat.le_min.2 ⟨by simp, by simp⟩) (fun _ => rfl); done) | apply And.intro)
  rintro i HINV
  dsimp only at HINV ⊢
  by_cases hi : i < qs.length
  · obtain ⟨y, hy⟩ := getElem?_some' (xs := qs) (i := i) hi
    have hy4 := hn4 y (List.mem_of_getElem? hy)
    repeat' ((conv => whnf); first
      | (with_reducible refine spB_dec ?_ ?_ <;> intro _ <;> (try (exfalso; first | contradiction | omega | (rename_i hz; refine hz ?_; simp; done) | (rename_i hz; simp at hz; done) | (simp only [LN] at *; omega))))
      | ((with_reducible refine rowN_mk (cQf y) ?_ ?_); (focus (exact rows_at hy)))
      | ((with_reducible apply rowN_mk); (focus (exact rows_set (by simp only [List.length_append, List.length_map, List.length_take, List.length_drop]; omega))))
      | ((with_reducible apply ixN_litp); (focus (exact rfl)); (focus ((try simp only [LN] at *) <;> omega)))
      | ((with_reducible refine cpyN.mk ?_ ?_ ?_ ?_); (focus (first | (simp; done))); (focus (first | exact one_map2 (fun _ => rfl))); (focus ((try simp only [LN] at *) <;> omega)))
      | with_reducible refine wr_i64 (by first | omega | (simp only [LN] at *; omega)) ?_
      | ((with_reducible refine Z.mkN_nat ?_ ?_ ?_ ?_); (focus ((try simp only [LN] at *) <;> omega)); (focus ((try simp only [LN] at *) <;> omega)); (focus ((try simp only [LN] at *) <;> omega)))
      | with_reducible first | refine Z.drawZ_rule tabOk mixOk ?_ | refine Z.apZ_mk (by kernel_rfl) ?_)
    all_goals (try (conv => whnf))
    all_goals try (show Nat.ble _ _ = true; rfl)
    all_goals first
      | ((refine Z.rnd_rw 7 (y.es.map cE) rfl rfl ?_ ?_); (focus (exact Z.lay_copy (by simp) (Nat.le_min.2 ⟨by simp, by simp⟩) (fun _ => rfl))); ((refine rnd_fzr 26 5 ((qs.take (i + 1)).map cQ ++ (qs.drop (i + 1)).map cQf) rfl rfl rfl (rows_mid hy ⟨?_, ?_, ?_, ?_, trivial⟩) ?_); (focus (first | exact Z.fzC.ogsl rfl (by simp only [List.length_map, Nat.zero_add]) (fun _ => rfl))); (focus (first | exact Z.fzC.refl _)); (focus (first | exact Z.fzC.refl _)); (focus (first | exact Z.fzC.refl _)); ((refine Z.rndK ((i + 1)) (fun s => [0, 1, 2, 3, 4, 5]) rfl rfl rfl rfl ?_ ?_ ?_ ?_); (focus (repeat' (first | exact trivial | exact rfl | apply And.intro))); (focus (repeat' (first | exact trivial | (intro b hb; cases hb; rfl) | exact Z.blk_sub rfl rfl (Z.ren_app (ren_map fun _ => rfl) (ren_map fun _ => rfl)) | apply And.intro))); (focus (((try dsimp only); omega))); ((try dsimp only); omega))))
  have hiq : i = qs.length := by omega
  subst hiq
  repeat' ((conv => whnf); first
    | with_reducible first | refine spB_t ?_
    | with_reducible first | refine spB_no (by decide) ?_
    | (with_reducible refine spB_dec ?_ ?_ <;> intro _ <;> (try (exfalso; first | contradiction | omega | (rename_i hz; refine hz ?_; simp; done) | (rename_i hz; simp at hz; done) | (simp only [LN] at *; omega))))
    | (with_reducible refine spB_beq ?_ ?_ <;> intro _ <;> (try (exfalso; first | contradiction | omega | (rename_i hz; refine hz ?_; simp; done) | (rename_i hz; simp at hz; done) | (simp only [LN] at *; omega))))
    | ((with_reducible refine ixN_mk (k) ?_ ?_ ?_); (focus (first | rfl)); (focus ((try simp only [LN] at *) <;> omega)))
    | ((with_reducible refine rowN_mk (cQ x) ?_ ?_); (focus (exact rows_done hx)))
    | ((first | (with_reducible refine Z.conZ_mz ?_ (cc) ?_)); (focus ((repeat' (first | exact trivial | exact rfl | apply And.intro)); done)))
    | ((with_reducible apply ex_and); exact rfl)
    | with_reducible first | refine Z.drawZ_rule tabOk mixOk ?_ | refine Z.apZ_mk (by kernel_rfl) ?_)
  all_goals (try (conv => whnf))
  all_goals try (show Nat.ble _ _ = true; rfl)
  all_goals first
    | ((first | (with_reducible apply Z.retF2)); (focus (exact rfl)); (repeat' (first | exact trivial | (with_reducible apply Z.frz_one) | (with_reducible apply Z.frz_agg) | (with_reducible apply Z.fq_int) | (exact Z.frz_nil) | exact rfl | apply And.intro)); (all_goals (try exact (fun _ => none))); all_goals (first | (simp; done)))

/-- What Push tells: the queues, both numbers, and whether it was refused. -/
def pushR (qs : List Qu) (n d i : Int) (e : El) : List Qu × Int × Int × Int :=
  bif okG qs n d then (if 0 ≤ i ∧ i < qs.length then (bif okE e then (match qs[i.toNat]? with
    | some x => bif clsQ x then ([], 0, 0, 2) else if e.kd = 2 ∧ e.num ≤ x.last then ([], 0, 0, 2) else if 4 ≤ x.es.length then ([], 0, 0, 6) else (qs.set i.toNat (pushQ e x), n, d, 0)
    | none => ([], 0, 0, 2)) else ([], 0, 0, 151)) else ([], 0, 0, 2)) else ([], 0, 0, 250)
theorem push_con (qs : List Qu) (n d i : Int) (e : El) (hq : qs.length ≤ 9223372036854775807) (hlq : ∀ q ∈ qs, q.es.length ≤ 9223372036854775807) (huq : ∀ q ∈ qs, ∀ e ∈ q.es, 0 ≤ e.num) (he : 0 ≤ e.num) : Con Try.prog 12 [.agg [.ro false 4 (qs.map eQ), .v (.int .u64 n), .v (.int .u64 d)], .one (.v (.int .i64 i)), .agg [.v (.int .i64 e.kd), .v (.int .i64 e.src), .v (.int .i64 e.key), .v (.int .i64 e.val), .v (.int .u64 e.num)]] (fun rx rK rt => rx = .tup [.agg [.ro true 4 ((pushR qs n d i e).1.map eQ), .v (.int .u64 (pushR qs n d i e).2.1), .v (.int .u64 (pushR qs n d i e).2.2.1)], .one (.v (.int .i64 (pushR qs n d i e).2.2.2))] ∧ rK = [] ∧ rt = 0) := by
  cases hk : okG qs n d with
  | false =>
    rw [show pushR qs n d i e = ([], 0, 0, 250) by unfold pushR; rw [hk]; rfl]
    exact push_bad qs n d i e hq hlq huq he hk
  | true =>
    by_cases hi : 0 ≤ i ∧ i < qs.length
    · cases hoe : okE e with
      | false =>
        rw [show pushR qs n d i e = ([], 0, 0, 151) by unfold pushR; rw [hk, cond_true, if_pos hi, hoe]; rfl]
        exact push_elem qs n d i e hq hlq huq he hk hi hoe
      | true =>
        obtain ⟨k, rfl⟩ := Int.eq_ofNat_of_zero_le hi.1
        obtain ⟨x, hx⟩ := getElem?_some' (xs := qs) (i := k) (by omega)
        have hR : pushR qs n d (k : Int) e = bif clsQ x then ([], 0, 0, 2) else if e.kd = 2 ∧ e.num ≤ x.last then ([], 0, 0, 2) else if 4 ≤ x.es.length then ([], 0, 0, 6) else (qs.set k (pushQ e x), n, d, 0) := by
          unfold pushR; rw [hk, cond_true, if_pos hi, hoe, cond_true, Int.toNat_natCast, hx]
        rw [hR]
        cases hcl : clsQ x with
        | true => exact push_cls qs n d k x e hq hlq huq he hk hx hoe hcl
        | false =>
          rw [cond_false]
          by_cases hb : e.kd = 2 ∧ e.num ≤ x.last
          · rw [if_pos hb]; exact push_bar qs n d k x e hq hlq huq he hk hx hoe hcl hb
          · rw [if_neg hb]
            by_cases hfl : 4 ≤ x.es.length
            · rw [if_pos hfl]; exact push_full qs n d k x e hq hlq huq he hk hx hoe hcl hb hfl
            · rw [if_neg hfl]; exact push_ok qs n d k x e hq hlq huq he hk hx hoe hcl hb (by omega)
    · rw [show pushR qs n d i e = ([], 0, 0, 2) by unfold pushR; rw [hk, cond_true, if_neg hi]]
      exact push_has qs n d i e hq hlq huq he hk hi
end Go.Proofs.Ytakfkbciijahgaa
namespace Go.Proofs.Ytakfkbciijahgaa
open Go Go.RowKit Wx
set_option linter.unusedVariables false
set_option linter.unusedSimpArgs false
set_option maxHeartbeats 4000000
/-! ### What Take tells -/
def dropQ (q : Qu) : Qu := { q with es := q.es.tail }
def relQ (q : Qu) : Qu := { q with held := false }
def heldQ (q : Qu) : Qu := { q with held := true }
def endQ (q : Qu) : Qu := { q with ended := true }
theorem rowsT {qs : List Qu} {k : Nat} {q : Qu} {r : List Ce} (hr : r = cQ q) : (((qs.take qs.length).map cQ ++ (qs.drop qs.length).map cQf).set (0 + k) r) = (qs.set k q).map cQ := by
  subst hr
  rw [Nat.zero_add, List.map_set, List.take_length, List.drop_length, List.map_nil, List.append_nil]
theorem rowsT2 {qs : List Qu} {k : Nat} {q : Qu} {r r2 : List Ce} (hr : r = cQ q) : ((((qs.take qs.length).map cQ ++ (qs.drop qs.length).map cQf).set (0 + k) r2).set (0 + k) r) = (qs.set k q).map cQ := by
  rw [Nat.zero_add, List.set_set]
  have := rowsT (qs := qs) (k := k) hr
  rw [Nat.zero_add] at this
  exact this
theorem tail_rows {l : List El} : List.take (l.length - 1) (List.drop 1 (l.map eE)) = l.tail.map eE := by
  cases l with
  | nil => rfl
  | cons a r =>
    rw [List.map_cons, List.drop_succ_cons, List.drop_zero, List.tail_cons, List.take_of_length_le (by simp)]
theorem drop_row {x : Qu} : [Ce.ro true 5 (List.take ((x.es.map eE).length - 1) (List.drop 1 (x.es.map eE))), Ce.v (.int .u64 x.last), Ce.v (.bool x.held), Ce.v (.bool x.ended)] = cQ (dropQ x) := by
  rw [List.length_map, tail_rows]
  rfl
theorem drop_rowE {x : Qu} : [Ce.ro true 5 (List.take ((x.es.map eE).length - 1) (List.drop 1 (x.es.map eE))), Ce.v (.int .u64 x.last), Ce.v (.bool x.held), Ce.v (.bool true)] = cQ (endQ (dropQ x)) := by
  rw [List.length_map, tail_rows]
  rfl
theorem drop_rowH {x : Qu} : [Ce.ro true 5 (List.take ((x.es.map eE).length - 1) (List.drop 1 (x.es.map eE))), Ce.v (.int .u64 x.last), Ce.v (.bool true), Ce.v (.bool x.ended)] = cQ (heldQ (dropQ x)) := by
  rw [List.length_map, tail_rows]
  rfl
theorem low_rows {l : List Qu} {R : List (List Ce)} {n : Nat} (hR : R = l.map cQ) (hn : n = l.length) : ∃ rows, Ce.ro false 4 (l.map eQ) = Ce.ro false 4 rows ∧ rows.length = n ∧ ((R.drop 0).take n).map (List.map RT.of) = rows.map (List.map some) := by
  subst hR
  exact Z.low_osln hn (fun _ => rfl)
/-- Queues, of which the first i are let go. -/
def relI (qs : List Qu) (i : Nat) : List Qu := (qs.take i).map relQ ++ qs.drop i
theorem relI_0 {qs : List Qu} : relI qs 0 = qs := by simp [relI]
theorem relI_all {qs : List Qu} : relI qs qs.length = qs.map relQ := by simp [relI]
theorem relI_at {qs : List Qu} {i : Nat} {y : Qu} (h : qs[i]? = some y) : (relI qs i)[i]? = some y := by
  have hi := (List.getElem?_eq_some_iff.1 h).1
  unfold relI
  rw [List.getElem?_append_right (by simp; omega), drop_cons h]
  rw [show i - ((qs.take i).map relQ).length = 0 by simp; omega]; rfl
theorem relI_row {qs : List Qu} {i : Nat} {y : Qu} (h : qs[i]? = some y) : ((relI qs i).map cQ)[0 + i]? = some (cQ y) := by
  rw [Nat.zero_add, List.getElem?_map, relI_at h]; rfl
theorem relI_set {qs : List Qu} {i : Nat} {y : Qu} {r : List Ce} (h : qs[i]? = some y) (hr : r = cQ (relQ y)) : ((relI qs i).map cQ).set (0 + i) r = (relI qs (i + 1)).map cQ := by
  subst hr
  have hi := (List.getElem?_eq_some_iff.1 h).1
  rw [Nat.zero_add, ← List.map_set]
  congr 1
  unfold relI
  rw [drop_cons h, take_snoc h, List.map_append, List.append_assoc, List.set_append_right _ _ (by simp; omega), show i - ((qs.take i).map relQ).length = 0 by simp; omega, List.set_cons_zero]
  rfl
theorem relI_blk {K : Z.Kr} {r : Nat → Nat} {j i sz : Nat} {ty : TypeId} {bx : Bool} {qs : List Qu} {y : Qu} {r0 : List Ce} (h : Z.kz K (r j) = some (.b ⟨((relI qs i).map cQ).set (0 + i) r0, sz, ty, bx⟩)) (hy : qs[i]? = some y) (hr : r0 = cQ (relQ y)) : ∀ b, some (Z.Ob.b ⟨(relI qs (i + 1)).map cQ, sz, ty, bx⟩) = some b → Z.kz K (r j) = some (b.ren r) := fun b hb => by
  cases hb
  rw [h, relI_set hy hr]
  show some (Z.Ob.b ⟨_, _, _, _⟩) = some (Z.Ob.b ⟨_, _, _, _⟩)
  rw [ren_map (fun _ => rfl)]
theorem relI_end {qs : List Qu} {m : Nat} (h : m = qs.length) : (relI qs m).map cQ = (qs.map relQ).map cQ := by subst h; rw [relI_all]
theorem relI_full {qs : List Qu} {k : Nat} {q : Qu} (hk : k < qs.length) : ((relI (qs.set k q) qs.length).map cQ)[0 + k]? = some (cQ (relQ q)) := by
  rw [relI_end (by simp), Nat.zero_add, List.getElem?_map, List.getElem?_map, List.getElem?_set_self hk]; rfl
theorem rowsD {qs : List Qu} {k : Nat} {p q : Qu} {r : List Ce} (hr : r = cQ q) : ((relI (qs.set k p) qs.length).map cQ).set (0 + k) r = ((qs.map relQ).set k q).map cQ := by
  subst hr
  rw [relI_end (by simp), Nat.zero_add, ← List.map_set, List.map_set (f := relQ), List.set_set]
theorem take_rec (qs : List Qu) (n d : Int) (k : Nat) (x : Qu) (e : El) (r : List El) (hq : qs.length ≤ 9223372036854775807) (hlq : ∀ q ∈ qs, q.es.length ≤ 9223372036854775807) (huq : ∀ q ∈ qs, ∀ e ∈ q.es, 0 ≤ e.num) (hk : okG qs n d = true) (hx : qs[k]? = some x) (hrd : rdQ x = true) (hes : x.es = e :: r) (hk1 : e.kd = 1) : Con Try.prog 18 [.agg [.ro false 4 (qs.map eQ), .v (.int .u64 n), .v (.int .u64 d)], .one (.v (.int .i64 (k : Int)))] (fun rx rK rt => rx = .tup [.agg [.ro true 4 ((qs.set k (dropQ x)).map eQ), .v (.int .u64 n), .v (.int .u64 d)], .agg [.v (.int .i64 e.kd), .v (.int .i64 e.src), .v (.int .i64 e.key), .v (.int .i64 e.val), .v (.int .u64 e.num)], .one (.v (.bool true)), .one (.v (.int .i64 0))] ∧ rK = [] ∧ rt = 0) := by
  refine Z.con_ofF tabOk 80 Try.f18 _ Try.func18 (by kernel_rfl) rfl rfl rfl rfl ?_
  have ck := check_con qs n d hq hlq huq
  rw [hk] at ck
  simp only [cond_true] at ck
  obtain ⟨hn1, hn4⟩ := okG_all hk
  have ch := has_con qs n d (k : Int)
  rw [decide_eq_true (p := (0 : Int) ≤ (k : Int) ∧ (k : Int) < (qs.length : Int)) (by have := (List.getElem?_eq_some_iff.1 hx).1; omega)] at ch
  have hkl := (List.getElem?_eq_some_iff.1 hx).1
  have cr := readable_con x
  rw [hrd] at cr
  have hx4 := hn4 x (List.mem_of_getElem? hx)
  have he0 : x.es[0]? = some e := by rw [hes]; rfl
  have hel : 0 < x.es.length := by rw [hes]; simp
  repeat' ((conv => whnf); first
    | ((with_reducible apply spB_cong); (focus (simp only [beq_self_eq_true, bne_self_eq_false, Bool.true_bne, Bool.false_bne, Bool.bne_true, Bool.bne_false, Bool.true_beq, Bool.false_beq, Bool.not_true, Bool.not_false, Bool.not_not, Int.reduceBEq, Int.reduceBNe, Int.reduceLE, Int.reduceLT, Int.reduceEq, decide_true, decide_false]; rfl)))
    | with_reducible first | refine spB_no (by decide) ?_
    | ((with_reducible refine ixN_mk (k) ?_ ?_ ?_); (focus (first | rfl)); (focus ((try simp only [LN] at *) <;> omega)))
    | with_reducible first | refine Z.rowN_known hx ?_
    | ((with_reducible refine cpyN.mk ?_ ?_ ?_ ?_); (focus (first | (simp; done))); (focus (first | exact one_map2 (fun _ => rfl))); (focus ((try simp only [LN] at *) <;> omega)))
    | with_reducible first | refine Z.callZ_in tabOk 41 Try.f30 _ Try.func30 (by kernel_rfl) rfl rfl rfl ?_
    | ((first | (with_reducible refine Z.callZ_mk ?_ (ck) ?_) | (with_reducible refine Z.callZ_mk ?_ (ch) ?_) | (with_reducible refine Z.callZ_mk ?_ (cr) ?_)); (focus ((repeat' (first | exact trivial | exact rfl | apply And.intro)); done)))
    | ((with_reducible refine Z.mkN_nat ?_ ?_ ?_ ?_); (focus ((try simp only [LN] at *) <;> omega)); (focus ((try simp only [LN] at *) <;> omega)); (focus ((try simp only [LN] at *) <;> omega))))
  all_goals (try (conv => whnf))
  all_goals try (show Nat.ble _ _ = true; rfl)
  all_goals try (exfalso; rename_i hz; cases hz; done)
  all_goals try (exfalso; (try simp only [LN] at *) <;> omega)
  refine Z.loopK tabOk (fun zq : Nat => [(16, .val (.int .i64 (zq : Int)))]) (fun zq : Nat => ([(5, some (Z.Ob.b ⟨(qs.take zq).map cQ ++ (qs.drop zq).map cQf, 4, 39, false⟩))] : Z.Kr)) (fun zq => zq ≤ qs.length) (fun zq => qs.length - zq) 0 6 [(1, _), (2, _), (3, _), (14, _), (15, _)] ⟨rfl, rfl, rfl, rfl, rfl, trivial⟩ [(0, some _), (1, some _), (2, some _), (3, some _), (4, some _)] ⟨rfl, rfl, rfl, rfl, rfl, trivial⟩ ?_ ?_ rfl rfl (Nat.zero_le _) ?_
  · repeat' (first | exact trivial | apply And.intro | exact ⟨_, rfl, Z.Imp.refl _⟩)
  · repeat' (first | exact trivial | (intro b hb; cases hb; refine ⟨_, rfl, ⟨rfl, rfl, rfl⟩, Z.imp_eq ?_⟩; first | rfl | exact Z.lay_copy (by simp) (Nat.le_min.2 ⟨by simp, by simp⟩) (fun _ => rfl); done) | apply And.intro)
  rintro i HINV
  dsimp only at HINV ⊢
  by_cases hi : i < qs.length
  · obtain ⟨y, hy⟩ := getElem?_some' (xs := qs) (i := i) hi
    have hy4 := hn4 y (List.mem_of_getElem? hy)
    repeat' ((conv => whnf); first
      | (with_reducible refine spB_dec ?_ ?_ <;> intro _ <;> (try (exfalso; first | contradiction | omega | (rename_i hz; refine hz ?_; simp; done) | (rename_i hz; simp at hz; done) | (simp only [LN] at *; omega))))
      | ((with_reducible refine rowN_mk (cQf y) ?_ ?_); (focus (exact rows_at hy)))
      | ((with_reducible apply rowN_mk); (focus (exact rows_set (by simp only [List.length_append, List.length_map, List.length_take, List.length_drop]; omega))))
      | ((with_reducible apply ixN_litp); (focus (exact rfl)); (focus ((try simp only [LN] at *) <;> omega)))
      | ((with_reducible refine cpyN.mk ?_ ?_ ?_ ?_); (focus (first | (simp; done))); (focus (first | exact one_map2 (fun _ => rfl))); (focus ((try simp only [LN] at *) <;> omega)))
      | with_reducible refine wr_i64 (by first | omega | (simp only [LN] at *; omega)) ?_
      | ((with_reducible refine Z.mkN_nat ?_ ?_ ?_ ?_); (focus ((try simp only [LN] at *) <;> omega)); (focus ((try simp only [LN] at *) <;> omega)); (focus ((try simp only [LN] at *) <;> omega)))
      | with_reducible first | refine Z.drawZ_rule tabOk mixOk ?_ | refine Z.apZ_mk (by kernel_rfl) ?_)
    all_goals (try (conv => whnf))
    all_goals try (show Nat.ble _ _ = true; rfl)
    all_goals first
      | ((refine Z.rnd_rw 7 (y.es.map cE) rfl rfl ?_ ?_); (focus (exact Z.lay_copy (by simp) (Nat.le_min.2 ⟨by simp, by simp⟩) (fun _ => rfl))); ((refine rnd_fzr 26 5 ((qs.take (i + 1)).map cQ ++ (qs.drop (i + 1)).map cQf) rfl rfl rfl (rows_mid hy ⟨?_, ?_, ?_, ?_, trivial⟩) ?_); (focus (first | exact Z.fzC.ogsl rfl (by simp only [List.length_map, Nat.zero_add]) (fun _ => rfl))); (focus (first | exact Z.fzC.refl _)); (focus (first | exact Z.fzC.refl _)); (focus (first | exact Z.fzC.refl _)); ((refine Z.rndK ((i + 1)) (fun s => [0, 1, 2, 3, 4, 5]) rfl rfl rfl rfl ?_ ?_ ?_ ?_); (focus (repeat' (first | exact trivial | exact rfl | apply And.intro))); (focus (repeat' (first | exact trivial | (intro b hb; cases hb; rfl) | exact Z.blk_sub rfl rfl (Z.ren_app (ren_map fun _ => rfl) (ren_map fun _ => rfl)) | apply And.intro))); (focus (((try dsimp only); omega))); ((try dsimp only); omega))))
  have hiq : i = qs.length := by omega
  subst hiq
  repeat' ((conv => whnf); first
    | (with_reducible refine spB_dec ?_ ?_ <;> intro _ <;> (try (exfalso; first | contradiction | omega | (rename_i hz; refine hz ?_; simp; done) | (rename_i hz; simp at hz; done) | (simp only [LN] at *; omega))))
    | (with_reducible refine spB_beq ?_ ?_ <;> intro _ <;> (try (exfalso; first | contradiction | omega | (rename_i hz; refine hz ?_; simp; done) | (rename_i hz; simp at hz; done) | (simp only [LN] at *; omega))))
    | ((with_reducible refine ixN_mk (k) ?_ ?_ ?_); (focus (first | rfl)); (focus ((try simp only [LN] at *) <;> omega)))
    | ((with_reducible refine ixN_mk (0) ?_ ?_ ?_); (focus (first | rfl)); (focus ((try simp only [LN] at *) <;> omega)))
    | ((with_reducible refine rowN_mk (cQ x) ?_ ?_); (focus (exact rows_done hx)))
    | with_reducible first | refine Z.rowN_known he0 ?_
    | ((with_reducible refine Z.slN_lo 1 ?_ ?_ ?_); (focus rfl); (focus ((try simp only [LN] at *) <;> omega)))
    | ((with_reducible apply ex_and); exact rfl)
    | with_reducible first | refine Z.drawZ_rule tabOk mixOk ?_ | refine Z.apZ_mk (by kernel_rfl) ?_)
  all_goals (try (conv => whnf))
  all_goals try (show Nat.ble _ _ = true; rfl)
  all_goals try (exfalso; rename_i hz; cases hz; done)
  all_goals try (exfalso; (try simp only [LN] at *) <;> omega)
  all_goals first
    | (refine Z.retF2 [.agg [.osl 5 0 (qs.map eQ).length (some (qs.map eQ).length), .v (.int .u64 n), .v (.int .u64 d)], .agg [.v (.int .i64 e.kd), .v (.int .i64 e.src), .v (.int .i64 e.key), .v (.int .i64 e.val), .v (.int .u64 e.num)], .one (.v (.bool true)), .one (.v (.int .i64 0))] (by rfl) ⟨⟨Z.frz_osl (l := (qs.set k (dropQ x))) (f := cQ) (ty := 39) (bx := false) (congrArg (fun r => some (Blk.mk r 4 39 false)) (by exact rowsT (q := dropQ x) drop_row)) (by simp) (fun _ => rfl), rfl, rfl, trivial⟩, ⟨rfl, rfl, rfl, rfl, rfl, trivial⟩, rfl, rfl, trivial⟩)

end Go.Proofs.Ytakfkbciijahgaa
