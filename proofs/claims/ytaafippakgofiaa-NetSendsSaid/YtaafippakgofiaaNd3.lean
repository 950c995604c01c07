import Derived.Test.YtaafippakgofiaaNd2
namespace Go.Proofs.Ytaafippakgofiaa
open Go Go.RowKit Wx
set_option linter.unusedVariables false
set_option linter.unusedSimpArgs false
set_option maxHeartbeats 4000000
def keepL (node : Int) (ps : List Pc) : List Pc := ps.filter (fun p => !(decide (p.fr = node) || decide (p.to = node)))
theorem keepL_len (node : Int) (ps : List Pc) : (keepL node ps).length ≤ ps.length := List.length_filter_le _ _
theorem keep_yes {ps : List Pc} {i : Nat} {x : Pc} {node : Int} (h : ps[i]? = some x) (h1 : ¬ x.fr = node) (h2 : ¬ x.to = node) : keepL node (ps.take (i + 1)) = keepL node (ps.take i) ++ [x] := by
  rw [take_snoc h]; simp [keepL, List.filter_append, h1, h2]
theorem keep_no {ps : List Pc} {i : Nat} {x : Pc} {node : Int} (h : ps[i]? = some x) (h1 : x.fr = node ∨ x.to = node) : keepL node (ps.take (i + 1)) = keepL node (ps.take i) := by
  rw [take_snoc h]; rcases h1 with h1 | h1 <;> simp [keepL, List.filter_append, h1]
theorem mid_get {A acc : List Pc} {j : Nat} {y : Pc} (h : acc.length ≤ j) (hy : A[j]? = some y) : ((acc ++ A.drop acc.length).map cP)[0 + j]? = some (cP y) := by
  rw [Nat.zero_add, List.getElem?_map, List.getElem?_append_right h, List.getElem?_drop, show acc.length + (j - acc.length) = j by omega, hy]; rfl
theorem mid_set {A acc : List Pc} {y : Pc} (h : acc.length < A.length) : ((acc ++ A.drop acc.length).map cP).set (0 + acc.length) (cP y) = ((acc ++ [y]) ++ A.drop (acc.length + 1)).map cP := by
  obtain ⟨z, hz⟩ : ∃ z, A[acc.length]? = some z := ⟨_, List.getElem?_eq_getElem h⟩
  rw [Nat.zero_add, drop_cons hz]
  simp [List.set_append]
theorem cut_rows {A acc : List Pc} {Z : List (List Ce)} : List.take (acc.length - 0) (lay ((acc ++ A.drop acc.length).map cP) (0 + acc.length) Z) = acc.map cP := by
  rw [Nat.zero_add, Nat.sub_zero]
  unfold lay
  rw [List.map_append, List.take_left' (by simp), List.take_left' (by simp)]
theorem cut_t (sent node : Int) (ps : List Pc) (hl : ps.length ≤ 100) (hb : ∀ p ∈ ps, p.bs.length ≤ 30001) (hk : okN sent ps = true) (hnd : 1 ≤ node ∧ node ≤ 7) : Con Try.prog 35 [.agg [.v (.int .u64 sent), .ro false 4 (ps.map eP)], .one (.v (.int .i64 node))] (fun rx rK rt => rx = .tup [.agg [.v (.int .u64 sent), .ro true 4 ((keepL node ps).map eP)], .one (.v (.int .i64 ((ps.length : Int) - (keepL node ps).length))), .one (.v (.int .i64 0))] ∧ rK = [] ∧ rt = 0) := by
  refine Z.con_ofF tabOk 19 Try.f35 _ Try.func35 (by kernel_rfl) rfl rfl rfl rfl ?_
  repeat' ((conv => whnf); first
    | with_reducible first | refine spB_yes (by decide) ?_ | refine spB_no (by decide) ?_ | refine spB_f ?_ | refine spB_not ?_ | refine spB_yes (by assumption) ?_ | refine spB_no (by assumption) ?_
    | ((with_reducible refine cpyN.mk ?_ ?_ ?_ ?_); (focus (first | rfl | (simp; done))); (focus (first | exact one_all (by rfl) | exact one_map (fun _ => rfl) | exact one_map2 (fun _ => rfl))); (focus ((try simp only [LN] at *) <;> omega)))
    | with_reducible first | refine apN_mk (by kernel_rfl) ?_ | refine Z.callZ_in tabOk 44 Try.f40 _ Try.func40 (by kernel_rfl) rfl rfl rfl ?_ | refine Z.callZ_in tabOk 27 Try.f44 _ Try.func44 (by kernel_rfl) rfl rfl rfl ?_ | refine Z.callZ_in tabOk 9 Try.f42 _ Try.func42 (by kernel_rfl) rfl rfl rfl ?_ | refine Z.callZ_in tabOk 42 Try.f45 _ Try.func45 (by kernel_rfl) rfl rfl rfl ?_ | refine Z.callZ_in tabOk 14 Try.f46 _ Try.func46 (by kernel_rfl) rfl rfl rfl ?_ | refine Z.callZ_in tabOk 19 Try.f22 _ Try.func22 (by kernel_rfl) rfl rfl rfl ?_
    | ((first | (with_reducible apply Z.conZ_mz ?_ (mayBe_con _ _ ?_) ?_) | (with_reducible apply Z.callZ_mk ?_ (mayBe_con _ _ ?_) ?_)); (rotate_left 2); (focus ((repeat' (first | exact trivial | exact rfl | exact Z.low_nil | exact Z.low_nil2 | exact low_osl (fun _ => rfl) | (refine Z.low_osln ?_ (fun _ => rfl); (simp only [List.length_map]; done)) | exact low_oslr (fun _ => rfl) | exact Z.low_gslm (by first | rfl | exact Z.kb_some rfl) (fun _ => rfl) | exact .inl rfl | exact .inr ⟨_, rfl⟩ | apply And.intro)); done)); (iterate 1 (focus (first | assumption | omega | ((try simp only [LN] at *); omega)))))
    | ((with_reducible refine Z.mkN_nat ?_ ?_ ?_ ?_); (focus ((try simp only [LN] at *) <;> omega)); (focus ((try simp only [LN] at *) <;> omega)); (focus ((try simp only [LN] at *) <;> omega))))
  all_goals (try (conv => whnf))
  all_goals try (exfalso; simp_all; done)
  refine Z.loopK tabOk (fun zq : Nat × List Pc × List Pc => [(24, .val (.int .i64 (zq.1 : Int)))]) (fun zq : Nat × List Pc × List Pc => ([(6, some (.b ⟨(zq.2.1).map cP ++ (zq.2.2).map cP0, 4, 48, false⟩))] : Z.Kr)) (fun zq => zq.1 = (zq.2.1).length ∧ zq.2.1 ++ zq.2.2 = ps) (fun zq => (zq.2.2).length) (0, [], ps) 7 [(1, _), (2, _), (4, _), (6, _), (22, _), (23, _)] ⟨rfl, rfl, rfl, rfl, rfl, rfl, trivial⟩ [(0, some _), (1, some _), (2, some _), (3, some _), (4, some _), (5, some _)] ⟨rfl, rfl, rfl, rfl, rfl, rfl, trivial⟩ ?_ ?_ rfl rfl ⟨rfl, rfl⟩ ?_
  · repeat' (first | exact trivial | apply And.intro | exact ⟨_, rfl, rfl⟩ | exact ⟨_, rfl, Z.Imp.refl _⟩ | exact ⟨_, rfl, Z.Imp.nilg _⟩ | exact ⟨_, rfl, Z.Imp.nilr _ _⟩)
  · repeat' (first | exact trivial | (intro b hb; cases hb; done) | exact (fun b hb => ⟨b, hb, Z.ImpO.refl b⟩) | (intro b hb; cases hb; refine ⟨_, rfl, ⟨rfl, rfl, rfl⟩, ?_⟩; (repeat' (first | exact trivial | apply And.intro | exact Z.Imp.refl _ | exact Z.Imp.nilg _ | exact Z.Imp.nilr _ _)); done) | (intro b hb; cases hb; refine ⟨_, rfl, ⟨rfl, rfl, rfl⟩, Z.imp_eq ?_⟩; exact Z.lay_copy (by simp) (Nat.le_min.2 ⟨by simp, by simp⟩) (fun _ => rfl); done) | apply And.intro)
  rintro ⟨i, A, B⟩ HINV
  dsimp only at HINV ⊢
  obtain ⟨HI, HAB⟩ := HINV
  have hlen : A.length + B.length = ps.length := by rw [← HAB, List.length_append]
  have hs := okN_srt hk
  cases B with
  | nil =>
    rw [show List.map cP A ++ List.map cP0 [] = List.map cP A by simp]
    simp only [List.append_nil] at HAB
    subst HAB
    repeat' ((conv => whnf); first
      | with_reducible first | refine spB_t ?_
      | with_reducible first | refine spB_yes (by decide) ?_ | refine spB_no (by decide) ?_ | refine spB_f ?_ | refine spB_not ?_ | refine spB_yes (by assumption) ?_ | refine spB_no (by assumption) ?_
      | (with_reducible refine spB_dec ?_ ?_ <;> intro _ <;> (try (exfalso; first | contradiction | omega | (simp only [LN] at *; omega))))
      | with_reducible first | refine apN_mk (by kernel_rfl) ?_ | refine Z.callZ_in tabOk 44 Try.f40 _ Try.func40 (by kernel_rfl) rfl rfl rfl ?_ | refine Z.callZ_in tabOk 27 Try.f44 _ Try.func44 (by kernel_rfl) rfl rfl rfl ?_ | refine Z.callZ_in tabOk 9 Try.f42 _ Try.func42 (by kernel_rfl) rfl rfl rfl ?_ | refine Z.callZ_in tabOk 42 Try.f45 _ Try.func45 (by kernel_rfl) rfl rfl rfl ?_ | refine Z.callZ_in tabOk 14 Try.f46 _ Try.func46 (by kernel_rfl) rfl rfl rfl ?_ | refine Z.callZ_in tabOk 19 Try.f22 _ Try.func22 (by kernel_rfl) rfl rfl rfl ?_
      | ((with_reducible apply ex_and); exact rfl))
    all_goals (try (conv => whnf))
    refine Z.loopK tabOk (fun zq : Nat => [(8, .val (.int .i64 (zq : Int)))]) (fun zq : Nat => ([] : Z.Kr)) (fun zq => zq ≤ A.length ∧ keepL node (A.take zq) = A.take zq) (fun zq => A.length - zq) 0 7 [(0, _), (1, _), (7, _)] ⟨rfl, rfl, rfl, trivial⟩ [(0, some _), (1, some _), (2, some _), (3, some _), (4, some _), (5, some _), (6, some _)] ⟨rfl, rfl, rfl, rfl, rfl, rfl, rfl, trivial⟩ ?_ ?_ rfl rfl ⟨Nat.zero_le _, rfl⟩ ?_
    · repeat' (first | exact trivial | apply And.intro | exact ⟨_, rfl, rfl⟩ | exact ⟨_, rfl, Z.Imp.refl _⟩ | exact ⟨_, rfl, Z.Imp.nilg _⟩ | exact ⟨_, rfl, Z.Imp.nilr _ _⟩)
    · repeat' (first | exact trivial | (intro b hb; cases hb; done) | exact (fun b hb => ⟨b, hb, Z.ImpO.refl b⟩) | (intro b hb; cases hb; refine ⟨_, rfl, ⟨rfl, rfl, rfl⟩, ?_⟩; (repeat' (first | exact trivial | apply And.intro | exact Z.Imp.refl _ | exact Z.Imp.nilg _ | exact Z.Imp.nilr _ _)); done) | apply And.intro)
    rintro h HINV
    dsimp only at HINV ⊢
    obtain ⟨HH, HK⟩ := HINV
    by_cases hhl : h < A.length
    rotate_left
    · have hfin : keepL node A = A := by rw [take_end hhl] at HK; exact HK
      rw [hfin]
      repeat' ((conv => whnf); first
        | with_reducible first | refine spB_t ?_
        | ((with_reducible apply spB_cong); (focus (simp only [beq_self_eq_true, bne_self_eq_false, Bool.true_bne, Bool.false_bne, Bool.bne_true, Bool.bne_false, Bool.true_beq, Bool.false_beq, Bool.not_true, Bool.not_false, Bool.not_not, Int.reduceBEq, Int.reduceBNe, Int.reduceLE, Int.reduceLT, Int.reduceEq, decide_true, decide_false]; rfl)))
        | with_reducible first | refine spB_yes (by decide) ?_ | refine spB_no (by decide) ?_ | refine spB_f ?_ | refine spB_not ?_ | refine spB_yes (by assumption) ?_ | refine spB_no (by assumption) ?_
        | (with_reducible refine spB_dec ?_ ?_ <;> intro _ <;> (try (exfalso; first | contradiction | omega | (simp only [LN] at *; omega))))
        | with_reducible refine wr_i64 (by first | omega | (simp only [LN] at *; omega)) ?_
        | ((with_reducible apply ex_and); exact rfl)
        | with_reducible first | refine Z.drawZ_rule tabOk mixOk ?_ | refine Z.apZ_mk (by kernel_rfl) ?_)
      all_goals (try (conv => whnf))
      all_goals first
        | ((first | (with_reducible apply Z.retF1) | (with_reducible apply Z.retF2) | (with_reducible apply Z.retF0)); (focus (exact rfl)); (repeat' (first | exact trivial | (with_reducible apply Z.frz_one) | (with_reducible apply Z.frz_agg) | (with_reducible apply Z.fq_int) | (with_reducible apply Z.fq_bool) | (exact Z.frz_nil) | (exact Z.frz_osl0 rfl rfl rfl) | (with_reducible apply Z.fq_nil) | (with_reducible apply Z.fq_ro) | ((with_reducible apply Z.fq_gsl); (focus (first | rfl | exact Z.isB_map _ | exact Z.gB_snoc.symm)); (focus (exact fun _ => rfl))) | ((with_reducible apply Z.fq_osl); (focus (exact rfl)); (focus (first | exact rfl | (simp only [List.length_map, Nat.zero_add]; done) | ((try simp only [LN] at *) <;> omega))); (focus (exact fun _ => rfl))) | ((with_reducible apply Z.fq_src); (focus (exact rfl)); (focus (first | exact rfl | (simp only [List.length_map, Nat.zero_add]; done) | ((try simp only [LN] at *) <;> omega))); (focus (exact fun _ => rfl))) | exact rfl | ((apply Z.fq_osl); (focus (exact rfl)); (focus (first | exact rfl | (simp only [List.length_map, Nat.zero_add]; done) | ((try simp only [LN] at *) <;> omega))); (focus (exact fun _ => rfl))) | ((apply Z.fq_src); (focus (exact rfl)); (focus (first | exact rfl | (simp only [List.length_map, Nat.zero_add]; done) | ((try simp only [LN] at *) <;> omega))); (focus (exact fun _ => rfl))) | (apply Z.fq_ro) | (apply Z.fq_int) | (apply Z.fq_bool) | apply And.intro)); (all_goals (try exact (fun _ => none))); all_goals (first | rfl | (simp only [LN]; done) | (simp; done)))
        | (exfalso; simp only [LN] at *; omega)
        | (fail)
    obtain ⟨x, hx⟩ := getElem?_some' (xs := A) (i := h) hhl
    by_cases hdel : x.fr = node ∨ x.to = node
    rotate_left
    · skip
      repeat' ((conv => whnf); first
        | with_reducible first | refine spB_yes (by decide) ?_ | refine spB_no (by decide) ?_ | refine spB_f ?_ | refine spB_not ?_ | refine spB_yes (by assumption) ?_ | refine spB_no (by assumption) ?_
        | (with_reducible refine spB_dec ?_ ?_ <;> intro _ <;> (try (exfalso; first | contradiction | omega | (simp only [LN] at *; omega))))
        | (with_reducible refine spB_beq ?_ ?_ <;> intro _ <;> (try (exfalso; first | contradiction | omega | (simp only [LN] at *; omega))))
        | ((with_reducible refine rowN_mk (cP x) ?_ ?_); (focus (show (List.map cP A)[0 + h]? = some (cP x); rw [Nat.zero_add, List.getElem?_map, hx]; rfl)))
        | ((with_reducible apply ixN_litp); (focus (exact rfl)); (focus ((try simp only [LN] at *) <;> omega)))
        | with_reducible refine wr_i64 (by first | omega | (simp only [LN] at *; omega)) ?_
        | with_reducible first | refine apN_mk (by kernel_rfl) ?_ | refine Z.callZ_in tabOk 44 Try.f40 _ Try.func40 (by kernel_rfl) rfl rfl rfl ?_ | refine Z.callZ_in tabOk 27 Try.f44 _ Try.func44 (by kernel_rfl) rfl rfl rfl ?_ | refine Z.callZ_in tabOk 9 Try.f42 _ Try.func42 (by kernel_rfl) rfl rfl rfl ?_ | refine Z.callZ_in tabOk 42 Try.f45 _ Try.func45 (by kernel_rfl) rfl rfl rfl ?_ | refine Z.callZ_in tabOk 14 Try.f46 _ Try.func46 (by kernel_rfl) rfl rfl rfl ?_ | refine Z.callZ_in tabOk 19 Try.f22 _ Try.func22 (by kernel_rfl) rfl rfl rfl ?_
        | ((with_reducible apply ex_and); exact rfl))
      all_goals (try (conv => whnf))
      all_goals first
        | ((refine Z.rndK (h + 1) (fun s => [0, 1, 2, 3, 4, 5, 6]) rfl rfl rfl rfl ?_ ?_ ?_ ?_); (focus (repeat' (first | exact trivial | exact rfl | (rw [List.map_append]; exact rfl) | apply And.intro))); (focus (repeat' (first | exact trivial | (intro b hb; cases hb; rfl) | (intro b hb; cases hb; subst hlb; rfl) | (intro b hb; cases hb; rw [List.map_append]; rfl) | (intro b hb; cases hb; done) | exact Z.blk_sub rfl rfl (ren_map fun _ => rfl) | exact Z.blk_sub rfl rfl (Z.ren_app (ren_map fun _ => rfl) (ren_map fun _ => rfl)) | exact Z.blk_sub rfl (by first | (rw [List.map_append]; rfl) | (rw [List.map_set]; rfl) | simp only [List.map_append, List.map_cons, List.map_nil, List.map_set]) (ren_map fun _ => rfl) | exact Z.gB_sub rfl rfl (ren_map fun _ => rfl) | exact Z.gB_sub' rfl (by first | rfl | (rw [List.map_append]; rfl) | simp only [List.map_append, List.map_cons, List.map_nil]) (ren_map fun _ => rfl) | apply And.intro))); (focus (refine ⟨by (try dsimp only); omega, ?_⟩; (try dsimp only); rw [keep_yes hx (fun e => hdel (.inl e)) (fun e => hdel (.inr e)), HK, ← take_snoc hx])); ((try dsimp only); omega))
        | (exfalso; simp only [LN] at *; omega)
        | (fail)
    have hkh : A.take h = keepL node (A.take (h + 1)) := by rw [keep_no hx hdel, HK]
    rcases (Classical.em (x.fr = node)) with hfr | hfr
    rotate_left
    · have hto : x.to = node := by rcases hdel with h9 | h9; (focus (exact absurd h9 hfr)); exact h9
      repeat' ((conv => whnf); first
        | with_reducible first | refine spB_yes (by decide) ?_ | refine spB_no (by decide) ?_ | refine spB_f ?_ | refine spB_not ?_ | refine spB_yes (by assumption) ?_ | refine spB_no (by assumption) ?_
        | (with_reducible refine spB_dec ?_ ?_ <;> intro _ <;> (try (exfalso; first | contradiction | omega | (simp only [LN] at *; omega))))
        | (with_reducible refine spB_beq ?_ ?_ <;> intro _ <;> (try (exfalso; first | contradiction | omega | (simp only [LN] at *; omega))))
        | ((with_reducible refine rowN_mk (cP x) ?_ ?_); (focus (show (List.map cP A)[0 + h]? = some (cP x); rw [Nat.zero_add, List.getElem?_map, hx]; rfl)))
        | ((with_reducible apply ixN_litp); (focus (exact rfl)); (focus ((try simp only [LN] at *) <;> omega)))
        | with_reducible refine wr_i64 (by first | omega | (simp only [LN] at *; omega)) ?_
        | with_reducible first | refine apN_mk (by kernel_rfl) ?_ | refine Z.callZ_in tabOk 44 Try.f40 _ Try.func40 (by kernel_rfl) rfl rfl rfl ?_ | refine Z.callZ_in tabOk 27 Try.f44 _ Try.func44 (by kernel_rfl) rfl rfl rfl ?_ | refine Z.callZ_in tabOk 9 Try.f42 _ Try.func42 (by kernel_rfl) rfl rfl rfl ?_ | refine Z.callZ_in tabOk 42 Try.f45 _ Try.func45 (by kernel_rfl) rfl rfl rfl ?_ | refine Z.callZ_in tabOk 14 Try.f46 _ Try.func46 (by kernel_rfl) rfl rfl rfl ?_ | refine Z.callZ_in tabOk 19 Try.f22 _ Try.func22 (by kernel_rfl) rfl rfl rfl ?_
        | ((with_reducible apply ex_and); exact rfl))
      all_goals (try (conv => whnf))
      refine Z.loopK tabOk (fun zq : Nat × Nat × List Pc => [(6, .val (.int .i64 (zq.1 : Int))), (5, .val (.int .i64 (zq.2.1 : Int)))]) (fun zq : Nat × Nat × List Pc => ([(6, some (.b ⟨((zq.2.2) ++ A.drop zq.2.1).map cP, 4, 48, false⟩))] : Z.Kr)) (fun zq => zq.2.1 < zq.1 ∧ zq.1 ≤ A.length ∧ zq.2.1 = (zq.2.2).length ∧ zq.2.2 = keepL node (A.take zq.1)) (fun zq => A.length - zq.1) (h + 1, h, A.take h) 8 [(0, _), (1, _)] ⟨rfl, rfl, trivial⟩ [(0, some _), (1, some _), (2, some _), (3, some _), (4, some _), (5, some _)] ⟨rfl, rfl, rfl, rfl, rfl, rfl, trivial⟩ ?_ ?_ rfl rfl ⟨Nat.lt_succ_self _, by (try dsimp only); omega, (show h = (List.take h A).length by rw [List.length_take]; omega), hkh⟩ ?_
      · repeat' (first | exact trivial | apply And.intro | exact ⟨_, rfl, rfl⟩ | exact ⟨_, rfl, Z.Imp.refl _⟩ | exact ⟨_, rfl, Z.Imp.nilg _⟩ | exact ⟨_, rfl, Z.Imp.nilr _ _⟩)
      · repeat' (first | exact trivial | (intro b hb; cases hb; done) | exact (fun b hb => ⟨b, hb, Z.ImpO.refl b⟩) | (intro b hb; cases hb; refine ⟨_, rfl, ⟨rfl, rfl, rfl⟩, ?_⟩; (repeat' (first | exact trivial | apply And.intro | exact Z.Imp.refl _ | exact Z.Imp.nilg _ | exact Z.Imp.nilr _ _)); done) | (intro b hb; cases hb; refine ⟨_, rfl, ⟨rfl, rfl, rfl⟩, Z.imp_eq ?_⟩; rw [List.take_append_drop]; done) | apply And.intro)
      rintro ⟨j, a, acc⟩ HINV
      dsimp only at HINV ⊢
      obtain ⟨HJ, HJ2, rfl, HC⟩ := HINV
      by_cases hjl : j < A.length
      rotate_left
      · have hfin : acc = keepL node A := by rw [HC, take_end hjl]
        repeat' ((conv => whnf); first
          | ((with_reducible apply spB_cong); (focus (simp only [beq_self_eq_true, bne_self_eq_false, Bool.true_bne, Bool.false_bne, Bool.bne_true, Bool.bne_false, Bool.true_beq, Bool.false_beq, Bool.not_true, Bool.not_false, Bool.not_not, Int.reduceBEq, Int.reduceBNe, Int.reduceLE, Int.reduceLT, Int.reduceEq, decide_true, decide_false]; rfl)))
          | with_reducible first | refine spB_yes (by decide) ?_ | refine spB_no (by decide) ?_ | refine spB_f ?_ | refine spB_not ?_ | refine spB_yes (by assumption) ?_ | refine spB_no (by assumption) ?_
          | (with_reducible refine spB_dec ?_ ?_ <;> intro _ <;> (try (exfalso; first | contradiction | omega | (simp only [LN] at *; omega))))
          | ((with_reducible refine slN_lo acc.length ?_ ?_ ?_); (focus rfl); (focus ((try simp only [LN] at *) <;> omega)))
          | ((with_reducible refine slN_hi acc.length ?_ ?_ ?_); (focus rfl); (focus ((try simp only [LN] at *) <;> omega)))
          | ((with_reducible refine slE_a ?_ ?_); (focus ((try simp only [LN] at *) <;> omega)))
          | ((with_reducible refine clrN_mk ?_ ?_ ?_); (focus ((try simp only [LN] at *) <;> omega)); (focus rfl))
          | with_reducible refine wr_i64 (by first | omega | (simp only [LN] at *; omega)) ?_
          | ((with_reducible apply ex_and); exact rfl)
          | with_reducible first | refine Z.drawZ_rule tabOk mixOk ?_ | refine Z.apZ_mk (by kernel_rfl) ?_)
        all_goals (try (conv => whnf))
        all_goals first
          | ((first | (with_reducible apply Z.retF1) | (with_reducible apply Z.retF2) | (with_reducible apply Z.retF0)); (focus (exact rfl)); (repeat' (first | exact trivial | (with_reducible apply Z.frz_one) | (with_reducible apply Z.frz_agg) | (with_reducible apply Z.fq_int) | (with_reducible apply Z.fq_bool) | (exact Z.frz_nil) | (exact Z.frz_osl0 rfl rfl rfl) | (with_reducible apply Z.fq_nil) | (with_reducible apply Z.fq_ro) | ((with_reducible apply Z.fq_gsl); (focus (first | rfl | exact Z.isB_map _ | exact Z.gB_snoc.symm)); (focus (exact fun _ => rfl))) | ((with_reducible apply Z.fq_osl); (focus (exact rfl)); (focus (first | exact rfl | (simp only [List.length_map, Nat.zero_add]; done) | ((try simp only [LN] at *) <;> omega))); (focus (exact fun _ => rfl))) | ((with_reducible apply Z.fq_src); (focus (exact rfl)); (focus (first | exact rfl | (simp only [List.length_map, Nat.zero_add]; done) | ((try simp only [LN] at *) <;> omega))); (focus (exact fun _ => rfl))) | exact rfl | ((apply Z.fq_osl); (focus (exact rfl)); (focus (first | exact rfl | (simp only [List.length_map, Nat.zero_add]; done) | ((try simp only [LN] at *) <;> omega))); (focus (exact fun _ => rfl))) | ((apply Z.fq_src); (focus (exact rfl)); (focus (first | exact rfl | (simp only [List.length_map, Nat.zero_add]; done) | ((try simp only [LN] at *) <;> omega))); (focus (exact fun _ => rfl))) | (apply Z.fq_ro) | (apply Z.fq_int) | (apply Z.fq_bool) | apply And.intro)); (all_goals (try exact (fun _ => none))); all_goals (first | rfl | (rw [← hfin]; (try simp only [LN]); omega) | (rw [← hfin]; refine frz_oslw (l := acc) (f := cP) (ty := 48) (bx := false) rfl (by simp) ?_ (fun _ => rfl); exact cut_rows)))
          | (exfalso; simp only [LN] at *; omega)
          | (fail)
      obtain ⟨y, hy⟩ := getElem?_some' (xs := A) (i := j) hjl
      obtain ⟨z, hz⟩ := getElem?_some' (xs := A) (i := acc.length) (by omega)
      repeat' ((conv => whnf); first
        | with_reducible first | refine spB_t ?_
        | ((with_reducible apply spB_cong); (focus (simp only [beq_self_eq_true, bne_self_eq_false, Bool.true_bne, Bool.false_bne, Bool.bne_true, Bool.bne_false, Bool.true_beq, Bool.false_beq, Bool.not_true, Bool.not_false, Bool.not_not, Int.reduceBEq, Int.reduceBNe, Int.reduceLE, Int.reduceLT, Int.reduceEq, decide_true, decide_false]; rfl)))
        | with_reducible first | refine spB_yes (by decide) ?_ | refine spB_no (by decide) ?_ | refine spB_f ?_ | refine spB_not ?_ | refine spB_yes (by assumption) ?_ | refine spB_no (by assumption) ?_
        | (with_reducible refine spB_dec ?_ ?_ <;> intro _ <;> (try (exfalso; first | contradiction | omega | (simp only [LN] at *; omega))))
        | (with_reducible refine spB_beq ?_ ?_ <;> intro _ <;> (try (exfalso; first | contradiction | omega | (simp only [LN] at *; omega))))
        | ((with_reducible refine rowN_mk (cP y) ?_ ?_); (focus (exact mid_get (by omega) hy)))
        | ((with_reducible refine rowN_mk (cP z) ?_ ?_); (focus (exact mid_get (Nat.le_refl _) hz)))
        | ((with_reducible apply ixN_litp); (focus (exact rfl)); (focus ((try simp only [LN] at *) <;> omega)))
        | with_reducible refine wr_i64 (by first | omega | (simp only [LN] at *; omega)) ?_
        | with_reducible first | refine apN_mk (by kernel_rfl) ?_ | refine Z.callZ_in tabOk 44 Try.f40 _ Try.func40 (by kernel_rfl) rfl rfl rfl ?_ | refine Z.callZ_in tabOk 27 Try.f44 _ Try.func44 (by kernel_rfl) rfl rfl rfl ?_ | refine Z.callZ_in tabOk 9 Try.f42 _ Try.func42 (by kernel_rfl) rfl rfl rfl ?_ | refine Z.callZ_in tabOk 42 Try.f45 _ Try.func45 (by kernel_rfl) rfl rfl rfl ?_ | refine Z.callZ_in tabOk 14 Try.f46 _ Try.func46 (by kernel_rfl) rfl rfl rfl ?_ | refine Z.callZ_in tabOk 19 Try.f22 _ Try.func22 (by kernel_rfl) rfl rfl rfl ?_
        | ((with_reducible apply ex_and); exact rfl))
      all_goals (try (conv => whnf))
      all_goals first
        | ((refine Z.rnd_rw 6 (((acc ++ [y]) ++ A.drop (acc.length + 1)).map cP) rfl rfl ?_ ?_); (focus (exact mid_set (by omega))); ((refine Z.rndK ((j + 1, acc.length + 1, acc ++ [y])) (fun s => [0, 1, 2, 3, 4, 5, 6, 7]) rfl rfl rfl rfl ?_ ?_ ?_ ?_); (focus (repeat' (first | exact trivial | exact rfl | (rw [List.map_append]; exact rfl) | apply And.intro))); (focus (repeat' (first | exact trivial | (intro b hb; cases hb; rfl) | (intro b hb; cases hb; subst hlb; rfl) | (intro b hb; cases hb; rw [List.map_append]; rfl) | (intro b hb; cases hb; done) | exact Z.blk_sub rfl rfl (ren_map fun _ => rfl) | exact Z.blk_sub rfl rfl (Z.ren_app (ren_map fun _ => rfl) (ren_map fun _ => rfl)) | exact Z.blk_sub rfl (by first | (rw [List.map_append]; rfl) | (rw [List.map_set]; rfl) | simp only [List.map_append, List.map_cons, List.map_nil, List.map_set]) (ren_map fun _ => rfl) | exact Z.gB_sub rfl rfl (ren_map fun _ => rfl) | exact Z.gB_sub' rfl (by first | rfl | (rw [List.map_append]; rfl) | simp only [List.map_append, List.map_cons, List.map_nil]) (ren_map fun _ => rfl) | apply And.intro))); (focus (refine ⟨by (try dsimp only); omega, by (try dsimp only); omega, by simp, ?_⟩; (try dsimp only); rw [keep_yes hy (by assumption) (by assumption), ← HC])); ((try dsimp only); omega)))
        | ((refine Z.rndK ((j + 1, acc.length, acc)) (fun s => [0, 1, 2, 3, 4, 5, 6, 7]) rfl rfl rfl rfl ?_ ?_ ?_ ?_); (focus (repeat' (first | exact trivial | exact rfl | (rw [List.map_append]; exact rfl) | apply And.intro))); (focus (repeat' (first | exact trivial | (intro b hb; cases hb; rfl) | (intro b hb; cases hb; subst hlb; rfl) | (intro b hb; cases hb; rw [List.map_append]; rfl) | (intro b hb; cases hb; done) | exact Z.blk_sub rfl rfl (ren_map fun _ => rfl) | exact Z.blk_sub rfl rfl (Z.ren_app (ren_map fun _ => rfl) (ren_map fun _ => rfl)) | exact Z.blk_sub rfl (by first | (rw [List.map_append]; rfl) | (rw [List.map_set]; rfl) | simp only [List.map_append, List.map_cons, List.map_nil, List.map_set]) (ren_map fun _ => rfl) | exact Z.gB_sub rfl rfl (ren_map fun _ => rfl) | exact Z.gB_sub' rfl (by first | rfl | (rw [List.map_append]; rfl) | simp only [List.map_append, List.map_cons, List.map_nil]) (ren_map fun _ => rfl) | apply And.intro))); (focus (refine ⟨by (try dsimp only); omega, by (try dsimp only); omega, rfl, ?_⟩; (try dsimp only); rw [keep_no hy (by first | exact .inl (by assumption) | exact .inr (by assumption)), ← HC])); ((try dsimp only); omega))
        | (exfalso; simp only [LN] at *; omega)
        | (fail)
    repeat' ((conv => whnf); first
      | with_reducible first | refine spB_t ?_
      | (with_reducible refine spB_dec ?_ ?_ <;> intro _ <;> (try (exfalso; first | contradiction | omega | (simp only [LN] at *; omega))))
      | (with_reducible refine spB_beq ?_ ?_ <;> intro _ <;> (try (exfalso; first | contradiction | omega | (simp only [LN] at *; omega))))
      | ((with_reducible refine rowN_mk (cP x) ?_ ?_); (focus (show (List.map cP A)[0 + h]? = some (cP x); rw [Nat.zero_add, List.getElem?_map, hx]; rfl)))
      | ((with_reducible apply ixN_litp); (focus (exact rfl)); (focus ((try simp only [LN] at *) <;> omega)))
      | with_reducible refine wr_i64 (by first | omega | (simp only [LN] at *; omega)) ?_
      | with_reducible first | refine apN_mk (by kernel_rfl) ?_ | refine Z.callZ_in tabOk 44 Try.f40 _ Try.func40 (by kernel_rfl) rfl rfl rfl ?_ | refine Z.callZ_in tabOk 27 Try.f44 _ Try.func44 (by kernel_rfl) rfl rfl rfl ?_ | refine Z.callZ_in tabOk 9 Try.f42 _ Try.func42 (by kernel_rfl) rfl rfl rfl ?_ | refine Z.callZ_in tabOk 42 Try.f45 _ Try.func45 (by kernel_rfl) rfl rfl rfl ?_ | refine Z.callZ_in tabOk 14 Try.f46 _ Try.func46 (by kernel_rfl) rfl rfl rfl ?_ | refine Z.callZ_in tabOk 19 Try.f22 _ Try.func22 (by kernel_rfl) rfl rfl rfl ?_
      | ((with_reducible apply ex_and); exact rfl))
    all_goals (try (conv => whnf))
    refine Z.loopK tabOk (fun zq : Nat × Nat × List Pc => [(6, .val (.int .i64 (zq.1 : Int))), (5, .val (.int .i64 (zq.2.1 : Int)))]) (fun zq : Nat × Nat × List Pc => ([(6, some (.b ⟨((zq.2.2) ++ A.drop zq.2.1).map cP, 4, 48, false⟩))] : Z.Kr)) (fun zq => zq.2.1 < zq.1 ∧ zq.1 ≤ A.length ∧ zq.2.1 = (zq.2.2).length ∧ zq.2.2 = keepL node (A.take zq.1)) (fun zq => A.length - zq.1) (h + 1, h, A.take h) 8 [(0, _), (1, _)] ⟨rfl, rfl, trivial⟩ [(0, some _), (1, some _), (2, some _), (3, some _), (4, some _), (5, some _)] ⟨rfl, rfl, rfl, rfl, rfl, rfl, trivial⟩ ?_ ?_ rfl rfl ⟨Nat.lt_succ_self _, by (try dsimp only); omega, (show h = (List.take h A).length by rw [List.length_take]; omega), hkh⟩ ?_
    · repeat' (first | exact trivial | apply And.intro | exact ⟨_, rfl, rfl⟩ | exact ⟨_, rfl, Z.Imp.refl _⟩ | exact ⟨_, rfl, Z.Imp.nilg _⟩ | exact ⟨_, rfl, Z.Imp.nilr _ _⟩)
    · repeat' (first | exact trivial | (intro b hb; cases hb; done) | exact (fun b hb => ⟨b, hb, Z.ImpO.refl b⟩) | (intro b hb; cases hb; refine ⟨_, rfl, ⟨rfl, rfl, rfl⟩, ?_⟩; (repeat' (first | exact trivial | apply And.intro | exact Z.Imp.refl _ | exact Z.Imp.nilg _ | exact Z.Imp.nilr _ _)); done) | (intro b hb; cases hb; refine ⟨_, rfl, ⟨rfl, rfl, rfl⟩, Z.imp_eq ?_⟩; rw [List.take_append_drop]; done) | apply And.intro)
    rintro ⟨j, a, acc⟩ HINV
    dsimp only at HINV ⊢
    obtain ⟨HJ, HJ2, rfl, HC⟩ := HINV
    by_cases hjl : j < A.length
    rotate_left
    · have hfin : acc = keepL node A := by rw [HC, take_end hjl]
      repeat' ((conv => whnf); first
        | ((with_reducible apply spB_cong); (focus (simp only [beq_self_eq_true, bne_self_eq_false, Bool.true_bne, Bool.false_bne, Bool.bne_true, Bool.bne_false, Bool.true_beq, Bool.false_beq, Bool.not_true, Bool.not_false, Bool.not_not, Int.reduceBEq, Int.reduceBNe, Int.reduceLE, Int.reduceLT, Int.reduceEq, decide_true, decide_false]; rfl)))
        | with_reducible first | refine spB_yes (by decide) ?_ | refine spB_no (by decide) ?_ | refine spB_f ?_ | refine spB_not ?_ | refine spB_yes (by assumption) ?_ | refine spB_no (by assumption) ?_
        | (with_reducible refine spB_dec ?_ ?_ <;> intro _ <;> (try (exfalso; first | contradiction | omega | (simp only [LN] at *; omega))))
        | ((with_reducible refine slN_lo acc.length ?_ ?_ ?_); (focus rfl); (focus ((try simp only [LN] at *) <;> omega)))
        | ((with_reducible refine slN_hi acc.length ?_ ?_ ?_); (focus rfl); (focus ((try simp only [LN] at *) <;> omega)))
        | ((with_reducible refine slE_a ?_ ?_); (focus ((try simp only [LN] at *) <;> omega)))
        | ((with_reducible refine clrN_mk ?_ ?_ ?_); (focus ((try simp only [LN] at *) <;> omega)); (focus rfl))
        | with_reducible refine wr_i64 (by first | omega | (simp only [LN] at *; omega)) ?_
        | ((with_reducible apply ex_and); exact rfl)
        | with_reducible first | refine Z.drawZ_rule tabOk mixOk ?_ | refine Z.apZ_mk (by kernel_rfl) ?_)
      all_goals (try (conv => whnf))
      all_goals first
        | ((first | (with_reducible apply Z.retF1) | (with_reducible apply Z.retF2) | (with_reducible apply Z.retF0)); (focus (exact rfl)); (repeat' (first | exact trivial | (with_reducible apply Z.frz_one) | (with_reducible apply Z.frz_agg) | (with_reducible apply Z.fq_int) | (with_reducible apply Z.fq_bool) | (exact Z.frz_nil) | (exact Z.frz_osl0 rfl rfl rfl) | (with_reducible apply Z.fq_nil) | (with_reducible apply Z.fq_ro) | ((with_reducible apply Z.fq_gsl); (focus (first | rfl | exact Z.isB_map _ | exact Z.gB_snoc.symm)); (focus (exact fun _ => rfl))) | ((with_reducible apply Z.fq_osl); (focus (exact rfl)); (focus (first | exact rfl | (simp only [List.length_map, Nat.zero_add]; done) | ((try simp only [LN] at *) <;> omega))); (focus (exact fun _ => rfl))) | ((with_reducible apply Z.fq_src); (focus (exact rfl)); (focus (first | exact rfl | (simp only [List.length_map, Nat.zero_add]; done) | ((try simp only [LN] at *) <;> omega))); (focus (exact fun _ => rfl))) | exact rfl | ((apply Z.fq_osl); (focus (exact rfl)); (focus (first | exact rfl | (simp only [List.length_map, Nat.zero_add]; done) | ((try simp only [LN] at *) <;> omega))); (focus (exact fun _ => rfl))) | ((apply Z.fq_src); (focus (exact rfl)); (focus (first | exact rfl | (simp only [List.length_map, Nat.zero_add]; done) | ((try simp only [LN] at *) <;> omega))); (focus (exact fun _ => rfl))) | (apply Z.fq_ro) | (apply Z.fq_int) | (apply Z.fq_bool) | apply And.intro)); (all_goals (try exact (fun _ => none))); all_goals (first | rfl | (rw [← hfin]; (try simp only [LN]); omega) | (rw [← hfin]; refine frz_oslw (l := acc) (f := cP) (ty := 48) (bx := false) rfl (by simp) ?_ (fun _ => rfl); exact cut_rows)))
        | (exfalso; simp only [LN] at *; omega)
        | (fail)
    obtain ⟨y, hy⟩ := getElem?_some' (xs := A) (i := j) hjl
    obtain ⟨z, hz⟩ := getElem?_some' (xs := A) (i := acc.length) (by omega)
    repeat' ((conv => whnf); first
      | with_reducible first | refine spB_t ?_
      | ((with_reducible apply spB_cong); (focus (simp only [beq_self_eq_true, bne_self_eq_false, Bool.true_bne, Bool.false_bne, Bool.bne_true, Bool.bne_false, Bool.true_beq, Bool.false_beq, Bool.not_true, Bool.not_false, Bool.not_not, Int.reduceBEq, Int.reduceBNe, Int.reduceLE, Int.reduceLT, Int.reduceEq, decide_true, decide_false]; rfl)))
      | with_reducible first | refine spB_yes (by decide) ?_ | refine spB_no (by decide) ?_ | refine spB_f ?_ | refine spB_not ?_ | refine spB_yes (by assumption) ?_ | refine spB_no (by assumption) ?_
      | (with_reducible refine spB_dec ?_ ?_ <;> intro _ <;> (try (exfalso; first | contradiction | omega | (simp only [LN] at *; omega))))
      | (with_reducible refine spB_beq ?_ ?_ <;> intro _ <;> (try (exfalso; first | contradiction | omega | (simp only [LN] at *; omega))))
      | ((with_reducible refine rowN_mk (cP y) ?_ ?_); (focus (exact mid_get (by omega) hy)))
      | ((with_reducible refine rowN_mk (cP z) ?_ ?_); (focus (exact mid_get (Nat.le_refl _) hz)))
      | ((with_reducible apply ixN_litp); (focus (exact rfl)); (focus ((try simp only [LN] at *) <;> omega)))
      | with_reducible refine wr_i64 (by first | omega | (simp only [LN] at *; omega)) ?_
      | with_reducible first | refine apN_mk (by kernel_rfl) ?_ | refine Z.callZ_in tabOk 44 Try.f40 _ Try.func40 (by kernel_rfl) rfl rfl rfl ?_ | refine Z.callZ_in tabOk 27 Try.f44 _ Try.func44 (by kernel_rfl) rfl rfl rfl ?_ | refine Z.callZ_in tabOk 9 Try.f42 _ Try.func42 (by kernel_rfl) rfl rfl rfl ?_ | refine Z.callZ_in tabOk 42 Try.f45 _ Try.func45 (by kernel_rfl) rfl rfl rfl ?_ | refine Z.callZ_in tabOk 14 Try.f46 _ Try.func46 (by kernel_rfl) rfl rfl rfl ?_ | refine Z.callZ_in tabOk 19 Try.f22 _ Try.func22 (by kernel_rfl) rfl rfl rfl ?_
      | ((with_reducible apply ex_and); exact rfl))
    all_goals (try (conv => whnf))
    all_goals first
      | ((refine Z.rnd_rw 6 (((acc ++ [y]) ++ A.drop (acc.length + 1)).map cP) rfl rfl ?_ ?_); (focus (exact mid_set (by omega))); ((refine Z.rndK ((j + 1, acc.length + 1, acc ++ [y])) (fun s => [0, 1, 2, 3, 4, 5, 6, 7]) rfl rfl rfl rfl ?_ ?_ ?_ ?_); (focus (repeat' (first | exact trivial | exact rfl | (rw [List.map_append]; exact rfl) | apply And.intro))); (focus (repeat' (first | exact trivial | (intro b hb; cases hb; rfl) | (intro b hb; cases hb; subst hlb; rfl) | (intro b hb; cases hb; rw [List.map_append]; rfl) | (intro b hb; cases hb; done) | exact Z.blk_sub rfl rfl (ren_map fun _ => rfl) | exact Z.blk_sub rfl rfl (Z.ren_app (ren_map fun _ => rfl) (ren_map fun _ => rfl)) | exact Z.blk_sub rfl (by first | (rw [List.map_append]; rfl) | (rw [List.map_set]; rfl) | simp only [List.map_append, List.map_cons, List.map_nil, List.map_set]) (ren_map fun _ => rfl) | exact Z.gB_sub rfl rfl (ren_map fun _ => rfl) | exact Z.gB_sub' rfl (by first | rfl | (rw [List.map_append]; rfl) | simp only [List.map_append, List.map_cons, List.map_nil]) (ren_map fun _ => rfl) | apply And.intro))); (focus (refine ⟨by (try dsimp only); omega, by (try dsimp only); omega, by simp, ?_⟩; (try dsimp only); rw [keep_yes hy (by assumption) (by assumption), ← HC])); ((try dsimp only); omega)))
      | ((refine Z.rndK ((j + 1, acc.length, acc)) (fun s => [0, 1, 2, 3, 4, 5, 6, 7]) rfl rfl rfl rfl ?_ ?_ ?_ ?_); (focus (repeat' (first | exact trivial | exact rfl | (rw [List.map_append]; exact rfl) | apply And.intro))); (focus (repeat' (first | exact trivial | (intro b hb; cases hb; rfl) | (intro b hb; cases hb; subst hlb; rfl) | (intro b hb; cases hb; rw [List.map_append]; rfl) | (intro b hb; cases hb; done) | exact Z.blk_sub rfl rfl (ren_map fun _ => rfl) | exact Z.blk_sub rfl rfl (Z.ren_app (ren_map fun _ => rfl) (ren_map fun _ => rfl)) | exact Z.blk_sub rfl (by first | (rw [List.map_append]; rfl) | (rw [List.map_set]; rfl) | simp only [List.map_append, List.map_cons, List.map_nil, List.map_set]) (ren_map fun _ => rfl) | exact Z.gB_sub rfl rfl (ren_map fun _ => rfl) | exact Z.gB_sub' rfl (by first | rfl | (rw [List.map_append]; rfl) | simp only [List.map_append, List.map_cons, List.map_nil]) (ren_map fun _ => rfl) | apply And.intro))); (focus (refine ⟨by (try dsimp only); omega, by (try dsimp only); omega, rfl, ?_⟩; (try dsimp only); rw [keep_no hy (by first | exact .inl (by assumption) | exact .inr (by assumption)), ← HC])); ((try dsimp only); omega))
      | (exfalso; simp only [LN] at *; omega)
      | (fail)
  | cons y B =>
    have hby : y.bs.length ≤ 30001 := hb y (by rw [← HAB]; simp)
    repeat' ((conv => whnf); first
      | (with_reducible refine spB_dec ?_ ?_ <;> intro _ <;> (try (exfalso; first | contradiction | omega | (simp only [LN] at *; omega))))
      | ((with_reducible refine rowN_mk (cP0 y) ?_ ?_); (focus (show (List.map cP A ++ List.map cP0 (y :: B))[0 + i]? = some (cP0 y); rw [Nat.zero_add, List.map_cons]; exact Z.get_mid (by rw [List.length_map]; exact HI))))
      | ((with_reducible apply ixN_litp); (focus (exact rfl)); (focus ((try simp only [LN] at *) <;> omega)))
      | with_reducible refine wr_i64 (by first | omega | (simp only [LN] at *; omega)) ?_
      | ((first | (with_reducible apply Z.conZ_mz ?_ (own_con _ ?_) ?_) | (with_reducible apply Z.callZ_mk ?_ (own_con _ ?_) ?_)); (rotate_left 1); (focus ((repeat' (first | exact trivial | exact rfl | exact Z.low_nil | exact Z.low_nil2 | exact low_osl (fun _ => rfl) | (refine Z.low_osln ?_ (fun _ => rfl); (simp only [List.length_map]; done)) | exact low_oslr (fun _ => rfl) | exact Z.low_gslm (by first | rfl | exact Z.kb_some rfl) (fun _ => rfl) | exact .inl rfl | exact .inr ⟨_, rfl⟩ | apply And.intro)); done)); (iterate 1 (focus (first | assumption | omega | ((try simp only [LN] at *); omega))))))
    all_goals (try (conv => whnf))
    all_goals first
      | ((refine Z.rnd_rw 6 ((A ++ [y]).map cP ++ B.map cP0) rfl rfl ?_ ?_); (focus (rw [List.map_cons]; refine (Z.set_mid (by rw [List.length_map]; omega)).trans ?_; rw [List.map_append]; rfl)); ((refine Z.rndK ((i + 1, A ++ [y], B)) (fun s => [0, 1, 2, 3, 4, 5, 6]) rfl rfl rfl rfl ?_ ?_ ?_ ?_); (focus (repeat' (first | exact trivial | exact rfl | (rw [List.map_append]; exact rfl) | apply And.intro))); (focus (repeat' (first | exact trivial | (intro b hb; cases hb; rfl) | (intro b hb; cases hb; subst hlb; rfl) | (intro b hb; cases hb; rw [List.map_append]; rfl) | (intro b hb; cases hb; done) | exact Z.blk_sub rfl rfl (ren_map fun _ => rfl) | exact Z.blk_sub rfl rfl (Z.ren_app (ren_map fun _ => rfl) (ren_map fun _ => rfl)) | exact Z.blk_sub rfl (by first | (rw [List.map_append]; rfl) | (rw [List.map_set]; rfl) | simp only [List.map_append, List.map_cons, List.map_nil, List.map_set]) (ren_map fun _ => rfl) | exact Z.gB_sub rfl rfl (ren_map fun _ => rfl) | exact Z.gB_sub' rfl (by first | rfl | (rw [List.map_append]; rfl) | simp only [List.map_append, List.map_cons, List.map_nil]) (ren_map fun _ => rfl) | apply And.intro))); (focus (exact ⟨by dsimp only; rw [List.length_append, HI]; rfl, by dsimp only; rw [← HAB]; simp⟩)); (dsimp only; simp)))
      | (fail)

end Go.Proofs.Ytaafippakgofiaa
