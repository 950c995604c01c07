import Derived.Test.YtakfkbciijahgaaOwn6
import Derived.Test.YtakfkbciijahgaaRows
namespace Go.Proofs.Ytakfkbciijahgaa
open Go Go.RowKit Wx
set_option linter.unusedVariables false
set_option linter.unusedSimpArgs false
set_option maxHeartbeats 4000000
theorem take_end_s1 (qs : List Qu) (n d : Int) (k : Nat) (x : Qu) (e : El) (r : List El) (hq : qs.length ≤ 9223372036854775807) (hlq : ∀ q ∈ qs, q.es.length ≤ 9223372036854775807) (huq : ∀ q ∈ qs, ∀ e ∈ q.es, 0 ≤ e.num) (hk : okG qs n d = true) (hx : qs[k]? = some x) (hrd : rdQ x = true) (hes : x.es = e :: r) (hk1 : e.kd = 3) (hn : 0 < n) (hD : allD (qs.set k (endQ (dropQ x))) = true) : Con Try.prog 18 [.agg [.ro false 4 (qs.map eQ), .v (.int .u64 n), .v (.int .u64 d)], .one (.v (.int .i64 (k : Int)))] (fun rx rK rt => rx = .tup [.agg [.ro true 4 (((qs.set k (endQ (dropQ x))).map relQ).map eQ), .v (.int .u64 0), .v (.int .u64 n)], .agg [.v (.int .i64 2), .v (.int .i64 0), .v (.int .i64 0), .v (.int .i64 0), .v (.int .u64 n)], .one (.v (.bool true)), .one (.v (.int .i64 0))] ∧ rK = [] ∧ rt = 0) := by
  refine Z.con_ofF tabOk 80 Try.f18 _ Try.func18 (by kernel_rfl) rfl rfl rfl rfl ?_
  have ck := check_con qs n d hq hlq huq
  rw [hk] at ck
  simp only [cond_true] at ck
  obtain ⟨hn1, hn4⟩ := okG_all hk
  have ch := has_con qs n d (k : Int)
  rw [decide_eq_true (p := (0 : Int) ≤ (k : Int) ∧ (k : Int) < (qs.length : Int)) (by have := (List.getElem?_eq_some_iff.1 hx).1; omega)] at ch
  have hkl := (List.getElem?_eq_some_iff.1 hx).1
  have cr := readable_con x
  rw [hrd] at cr
  have hx4 := hn4 x (List.mem_of_getElem? hx)
  have he0 : x.es[0]? = some e := by rw [hes]; rfl
  have hel : 0 < x.es.length := by rw [hes]; simp
  have cd := allD_con (qs.set k (endQ (dropQ x))) (by simp only [List.length_set, List.length_map]; exact hq)
  have cl := allE_con (qs.set k (endQ (dropQ x))) (by simp only [List.length_set, List.length_map]; exact hq)
  rw [show (List.all (qs.set k (endQ (dropQ x))) fun q => q.held || q.ended) = true from hD] at cd
  repeat' ((conv => whnf); first
    | ((with_reducible apply spB_cong); (focus (simp only [beq_self_eq_true, bne_self_eq_false, Bool.true_bne, Bool.false_bne, Bool.bne_true, Bool.bne_false, Bool.true_beq, Bool.false_beq, Bool.not_true, Bool.not_false, Bool.not_not, Int.reduceBEq, Int.reduceBNe, Int.reduceLE, Int.reduceLT, Int.reduceEq, decide_true, decide_false]; rfl)))
    | with_reducible first | refine spB_no (by decide) ?_
    | ((with_reducible refine ixN_mk (k) ?_ ?_ ?_); (focus (first | rfl)); (focus ((try simp only [LN] at *) <;> omega)))
    | with_reducible first | refine Z.rowN_known hx ?_
    | ((with_reducible refine cpyN.mk ?_ ?_ ?_ ?_); (focus (first | (simp; done))); (focus (first | exact one_map2 (fun _ => rfl))); (focus ((try simp only [LN] at *) <;> omega)))
    | with_reducible first | refine Z.callZ_in tabOk 41 Try.f30 _ Try.func30 (by kernel_rfl) rfl rfl rfl ?_
    | ((first | (with_reducible refine Z.callZ_mk ?_ (ck) ?_) | (with_reducible refine Z.callZ_mk ?_ (ch) ?_) | (with_reducible refine Z.callZ_mk ?_ (cr) ?_)); (focus ((repeat' (first | exact trivial | exact rfl | apply And.intro)); done)))
    | ((with_reducible refine Z.mkN_nat ?_ ?_ ?_ ?_); (focus ((try simp only [LN] at *) <;> omega)); (focus ((try simp only [LN] at *) <;> omega)); (focus ((try simp only [LN] at *) <;> omega))))
  all_goals (try (conv => whnf))
  all_goals try (show Nat.ble _ _ = true; rfl)
  all_goals try (exfalso; rename_i hz; cases hz; done)
  all_goals try (exfalso; (try simp only [LN] at *) <;> omega)
  refine Z.loopK tabOk (fun zq : Nat => [(16, .val (.int .i64 (zq : Int)))]) (fun zq : Nat => ([(5, some (Z.Ob.b ⟨(qs.take zq).map cQ ++ (qs.drop zq).map cQf, 4, 39, false⟩))] : Z.Kr)) (fun zq => zq ≤ qs.length) (fun zq => qs.length - zq) 0 6 [(1, _), (2, _), (3, _), (14, _), (15, _)] ⟨rfl, rfl, rfl, rfl, rfl, trivial⟩ [(0, some _), (1, some _), (2, some _), (3, some _), (4, some _)] ⟨rfl, rfl, rfl, rfl, rfl, trivial⟩ ?_ ?_ rfl rfl (Nat.zero_le _) ?_
  · repeat' (first | exact trivial | apply And.intro | exact ⟨_, rfl, Z.Imp.refl _⟩)
  · repeat' (first | exact trivial | (intro b hb; cases hb; refine ⟨_, rfl, ⟨rfl, rfl, rfl⟩, Z.imp_eq ?_⟩; first | rfl | exact Z.lay_copy (by simp) (Nat.le_min.2 ⟨by simp, by simp⟩) (fun _ => rfl); done) | apply And.intro)
  rintro i HINV
  dsimp only at HINV ⊢
  by_cases hi : i < qs.length
  · obtain ⟨y, hy⟩ := getElem?_some' (xs := qs) (i := i) hi
    have hy4 := hn4 y (List.mem_of_getElem? hy)
    repeat' ((conv => whnf); first
      | (with_reducible refine spB_dec ?_ ?_ <;> intro _ <;> (try (exfalso; first | contradiction | omega | (rename_i hz; refine hz ?_; simp; done) | (rename_i hz; simp at hz; done) | (simp only [LN] at *; omega))))
      | ((with_reducible refine rowN_mk (cQf y) ?_ ?_); (focus (exact rows_at hy)))
      | ((with_reducible apply rowN_mk); (focus (exact rows_set (by simp only [List.length_append, List.length_map, List.length_take, List.length_drop]; omega))))
      | ((with_reducible apply ixN_litp); (focus (exact rfl)); (focus ((try simp only [LN] at *) <;> omega)))
      | ((with_reducible refine cpyN.mk ?_ ?_ ?_ ?_); (focus (first | (simp; done))); (focus (first | exact one_map2 (fun _ => rfl))); (focus ((try simp only [LN] at *) <;> omega)))
      | with_reducible refine wr_i64 (by first | omega | (simp only [LN] at *; omega)) ?_
      | ((with_reducible refine Z.mkN_nat ?_ ?_ ?_ ?_); (focus ((try simp only [LN] at *) <;> omega)); (focus ((try simp only [LN] at *) <;> omega)); (focus ((try simp only [LN] at *) <;> omega)))
      | with_reducible first | refine Z.drawZ_rule tabOk mixOk ?_ | refine Z.apZ_mk (by kernel_rfl) ?_)
    all_goals (try (conv => whnf))
    all_goals try (show Nat.ble _ _ = true; rfl)
    all_goals first
      | ((refine Z.rnd_rw 7 (y.es.map cE) rfl rfl ?_ ?_); (focus (exact Z.lay_copy (by simp) (Nat.le_min.2 ⟨by simp, by simp⟩) (fun _ => rfl))); ((refine rnd_fzr 26 5 ((qs.take (i + 1)).map cQ ++ (qs.drop (i + 1)).map cQf) rfl rfl rfl (rows_mid hy ⟨?_, ?_, ?_, ?_, trivial⟩) ?_); (focus (first | exact Z.fzC.ogsl rfl (by simp only [List.length_map, Nat.zero_add]) (fun _ => rfl))); (focus (first | exact Z.fzC.refl _)); (focus (first | exact Z.fzC.refl _)); (focus (first | exact Z.fzC.refl _)); ((refine Z.rndK ((i + 1)) (fun s => [0, 1, 2, 3, 4, 5]) rfl rfl rfl rfl ?_ ?_ ?_ ?_); (focus (repeat' (first | exact trivial | exact rfl | apply And.intro))); (focus (repeat' (first | exact trivial | (intro b hb; cases hb; rfl) | exact Z.blk_sub rfl rfl (Z.ren_app (ren_map fun _ => rfl) (ren_map fun _ => rfl)) | apply And.intro))); (focus (((try dsimp only); omega))); ((try dsimp only); omega))))
  have hiq : i = qs.length := by omega
  subst hiq
  repeat' ((conv => whnf); first
    | with_reducible first | refine spB_t ?_
    | (with_reducible refine spB_dec ?_ ?_ <;> intro _ <;> (try (exfalso; first | contradiction | omega | (rename_i hz; refine hz ?_; simp; done) | (rename_i hz; simp at hz; done) | (simp only [LN] at *; omega))))
    | (with_reducible refine spB_beq ?_ ?_ <;> intro _ <;> (try (exfalso; first | contradiction | omega | (rename_i hz; refine hz ?_; simp; done) | (rename_i hz; simp at hz; done) | (simp only [LN] at *; omega))))
    | ((with_reducible refine ixN_mk (k) ?_ ?_ ?_); (focus (first | rfl)); (focus ((try simp only [LN] at *) <;> omega)))
    | ((with_reducible refine ixN_mk (0) ?_ ?_ ?_); (focus (first | rfl)); (focus ((try simp only [LN] at *) <;> omega)))
    | ((with_reducible refine rowN_mk (cQ x) ?_ ?_); (focus (exact rows_done hx)))
    | ((with_reducible apply rowN_mk); (focus (exact rows_set (by rw [rwB_len]; exact hkl))))
    | with_reducible first | refine Z.rowN_known he0 ?_
    | ((with_reducible refine Z.slN_lo 1 ?_ ?_ ?_); (focus rfl); (focus ((try simp only [LN] at *) <;> omega)))
    | with_reducible first | refine Z.callZ_in tabOk 44 Try.f39 _ Try.func39 (by kernel_rfl) rfl rfl rfl ?_ | refine Z.callZ_in tabOk 19 Try.f52 _ Try.func52 (by kernel_rfl) rfl rfl rfl ?_
    | ((first | (with_reducible refine Z.callZ_mk ?_ (cd) ?_)); (focus ((repeat' (first | exact trivial | (refine low_rows (rowsT2 (q := endQ (dropQ x)) drop_rowE) ?_; (simp only [List.length_set, List.length_map]; done)) | exact rfl | apply And.intro)); done)))
    | ((with_reducible apply ex_and); exact rfl))
  all_goals (try (conv => whnf))
  all_goals try (show Nat.ble _ _ = true; rfl)
  all_goals try (exfalso; rename_i hz; cases hz; done)
  all_goals try (exfalso; (try simp only [LN] at *) <;> omega)
  refine Z.loopK tabOk (fun zq : Nat => [(8, .val (.int .i64 (zq : Int)))]) (fun zq : Nat => ([(5, some (Z.Ob.b ⟨(relI (qs.set k (endQ (dropQ x))) zq).map cQ, 4, 39, false⟩))] : Z.Kr)) (fun zq => zq ≤ qs.length) (fun zq => qs.length - zq) 0 10 [(0, _), (7, _)] ⟨rfl, rfl, trivial⟩ [(0, some _), (1, some _), (2, some _), (3, some _), (4, some _), (6, some _), (7, some _), (8, some _), (9, some _)] ⟨rfl, rfl, rfl, rfl, rfl, rfl, rfl, rfl, rfl, trivial⟩ ?_ ?_ rfl rfl (Nat.zero_le _) ?_
  · repeat' (first | exact trivial | apply And.intro | exact ⟨_, rfl, Z.Imp.refl _⟩)
  · repeat' (first | exact trivial | (intro b hb; cases hb; refine ⟨_, rfl, ⟨rfl, rfl, rfl⟩, Z.imp_eq ?_⟩; first | exact (rowsT2 (q := endQ (dropQ x)) drop_rowE).trans (by rw [relI_0]) | exact ((rowsT2 (q := endQ (dropQ x)) drop_rowE).trans (by rw [relI_0])).symm; done) | apply And.intro)
  rintro i HINV
  dsimp only at HINV ⊢
  by_cases hi : i < qs.length
  · obtain ⟨y, hy⟩ := getElem?_some' (xs := (qs.set k (endQ (dropQ x)))) (i := i) (by simp only [List.length_set, List.length_map]; exact hi)
    repeat' ((conv => whnf); first
      | (with_reducible refine spB_dec ?_ ?_ <;> intro _ <;> (try (exfalso; first | contradiction | omega | (rename_i hz; refine hz ?_; simp; done) | (rename_i hz; simp at hz; done) | (simp only [LN] at *; omega))))
      | ((with_reducible refine rowN_mk (cQ y) ?_ ?_); (focus (exact relI_row hy)))
      | ((with_reducible apply ixN_litp); (focus (exact rfl)); (focus ((try simp only [LN] at *) <;> omega)))
      | with_reducible refine wr_i64 (by first | omega | (simp only [LN] at *; omega)) ?_)
    all_goals (try (conv => whnf))
    all_goals try (show Nat.ble _ _ = true; rfl)
    all_goals first
      | ((refine Z.rndK ((i + 1)) (fun s => [0, 1, 2, 3, 4, 5, 6, 7, 8, 9]) rfl rfl rfl rfl ?_ ?_ ?_ ?_); (focus (repeat' (first | exact trivial | exact rfl | apply And.intro))); (focus (repeat' (first | exact trivial | exact relI_blk rfl hy rfl | (intro b hb; cases hb; rfl) | apply And.intro))); (focus (((try dsimp only); omega))); ((try dsimp only); omega))
  have hiq : i = qs.length := by omega
  subst hiq
  repeat' ((conv => whnf); first
    | (with_reducible refine spB_dec ?_ ?_ <;> intro _ <;> (try (exfalso; first | contradiction | omega | (rename_i hz; refine hz ?_; simp; done) | (rename_i hz; simp at hz; done) | (simp only [LN] at *; omega))))
    | ((with_reducible apply ex_and); exact rfl)
    | with_reducible first | refine Z.drawZ_rule tabOk mixOk ?_ | refine Z.apZ_mk (by kernel_rfl) ?_)
  all_goals (try (conv => whnf))
  all_goals try (show Nat.ble _ _ = true; rfl)
  all_goals first
    | (refine Z.retF2 [.agg [.osl 5 0 (qs.map eQ).length (some (qs.map eQ).length), .v (.int .u64 0), .v (.int .u64 n)], .agg [.v (.int .i64 2), .v (.int .i64 0), .v (.int .i64 0), .v (.int .i64 0), .v (.int .u64 n)], .one (.v (.bool true)), .one (.v (.int .i64 0))] (by rfl) ⟨⟨Z.frz_osl (l := ((qs.set k (endQ (dropQ x))).map relQ)) (f := cQ) (ty := 39) (bx := false) (congrArg (fun r => some (Blk.mk r 4 39 false)) (by exact relI_end (by simp))) (by simp) (fun _ => rfl), rfl, rfl, trivial⟩, ⟨rfl, rfl, rfl, rfl, rfl, trivial⟩, rfl, rfl, trivial⟩)

theorem take_end_s2 (qs : List Qu) (n d : Int) (k : Nat) (x : Qu) (e : El) (r : List El) (hq : qs.length ≤ 9223372036854775807) (hlq : ∀ q ∈ qs, q.es.length ≤ 9223372036854775807) (huq : ∀ q ∈ qs, ∀ e ∈ q.es, 0 ≤ e.num) (hk : okG qs n d = true) (hx : qs[k]? = some x) (hrd : rdQ x = true) (hes : x.es = e :: r) (hk1 : e.kd = 3) (hn : 0 < n) (hD : allD (qs.set k (endQ (dropQ x))) = false) (hE : allE (qs.set k (endQ (dropQ x))) = true) : Con Try.prog 18 [.agg [.ro false 4 (qs.map eQ), .v (.int .u64 n), .v (.int .u64 d)], .one (.v (.int .i64 (k : Int)))] (fun rx rK rt => rx = .tup [.agg [.ro true 4 ((qs.set k (endQ (dropQ x))).map eQ), .v (.int .u64 n), .v (.int .u64 d)], .agg [.v (.int .i64 3), .v (.int .i64 0), .v (.int .i64 0), .v (.int .i64 0), .v (.int .u64 0)], .one (.v (.bool true)), .one (.v (.int .i64 0))] ∧ rK = [] ∧ rt = 0) := by
  refine Z.con_ofF tabOk 80 Try.f18 _ Try.func18 (by kernel_rfl) rfl rfl rfl rfl ?_
  have ck := check_con qs n d hq hlq huq
  rw [hk] at ck
  simp only [cond_true] at ck
  obtain ⟨hn1, hn4⟩ := okG_all hk
  have ch := has_con qs n d (k : Int)
  rw [decide_eq_true (p := (0 : Int) ≤ (k : Int) ∧ (k : Int) < (qs.length : Int)) (by have := (List.getElem?_eq_some_iff.1 hx).1; omega)] at ch
  have hkl := (List.getElem?_eq_some_iff.1 hx).1
  have cr := readable_con x
  rw [hrd] at cr
  have hx4 := hn4 x (List.mem_of_getElem? hx)
  have he0 : x.es[0]? = some e := by rw [hes]; rfl
  have hel : 0 < x.es.length := by rw [hes]; simp
  have cd := allD_con (qs.set k (endQ (dropQ x))) (by simp only [List.length_set, List.length_map]; exact hq)
  have cl := allE_con (qs.set k (endQ (dropQ x))) (by simp only [List.length_set, List.length_map]; exact hq)
  rw [show (List.all (qs.set k (endQ (dropQ x))) fun q => q.held || q.ended) = false from hD] at cd
  rw [show (List.all (qs.set k (endQ (dropQ x))) fun q => q.ended) = true from hE] at cl
  repeat' ((conv => whnf); first
    | ((with_reducible apply spB_cong); (focus (simp only [beq_self_eq_true, bne_self_eq_false, Bool.true_bne, Bool.false_bne, Bool.bne_true, Bool.bne_false, Bool.true_beq, Bool.false_beq, Bool.not_true, Bool.not_false, Bool.not_not, Int.reduceBEq, Int.reduceBNe, Int.reduceLE, Int.reduceLT, Int.reduceEq, decide_true, decide_false]; rfl)))
    | with_reducible first | refine spB_no (by decide) ?_
    | ((with_reducible refine ixN_mk (k) ?_ ?_ ?_); (focus (first | rfl)); (focus ((try simp only [LN] at *) <;> omega)))
    | with_reducible first | refine Z.rowN_known hx ?_
    | ((with_reducible refine cpyN.mk ?_ ?_ ?_ ?_); (focus (first | (simp; done))); (focus (first | exact one_map2 (fun _ => rfl))); (focus ((try simp only [LN] at *) <;> omega)))
    | with_reducible first | refine Z.callZ_in tabOk 41 Try.f30 _ Try.func30 (by kernel_rfl) rfl rfl rfl ?_
    | ((first | (with_reducible refine Z.callZ_mk ?_ (ck) ?_) | (with_reducible refine Z.callZ_mk ?_ (ch) ?_) | (with_reducible refine Z.callZ_mk ?_ (cr) ?_)); (focus ((repeat' (first | exact trivial | exact rfl | apply And.intro)); done)))
    | ((with_reducible refine Z.mkN_nat ?_ ?_ ?_ ?_); (focus ((try simp only [LN] at *) <;> omega)); (focus ((try simp only [LN] at *) <;> omega)); (focus ((try simp only [LN] at *) <;> omega))))
  all_goals (try (conv => whnf))
  all_goals try (show Nat.ble _ _ = true; rfl)
  all_goals try (exfalso; rename_i hz; cases hz; done)
  all_goals try (exfalso; (try simp only [LN] at *) <;> omega)
  refine Z.loopK tabOk (fun zq : Nat => [(16, .val (.int .i64 (zq : Int)))]) (fun zq : Nat => ([(5, some (Z.Ob.b ⟨(qs.take zq).map cQ ++ (qs.drop zq).map cQf, 4, 39, false⟩))] : Z.Kr)) (fun zq => zq ≤ qs.length) (fun zq => qs.length - zq) 0 6 [(1, _), (2, _), (3, _), (14, _), (15, _)] ⟨rfl, rfl, rfl, rfl, rfl, trivial⟩ [(0, some _), (1, some _), (2, some _), (3, some _), (4, some _)] ⟨rfl, rfl, rfl, rfl, rfl, trivial⟩ ?_ ?_ rfl rfl (Nat.zero_le _) ?_
  · repeat' (first | exact trivial | apply And.intro | exact ⟨_, rfl, Z.Imp.refl _⟩)
  · repeat' (first | exact trivial | (intro b hb; cases hb; refine ⟨_, rfl, ⟨rfl, rfl, rfl⟩, Z.imp_eq ?_⟩; first | rfl | exact Z.lay_copy (by simp) (Nat.le_min.2 ⟨by simp, by simp⟩) (fun _ => rfl); done) | apply And.intro)
  rintro i HINV
  dsimp only at HINV ⊢
  by_cases hi : i < qs.length
  · obtain ⟨y, hy⟩ := getElem?_some' (xs := qs) (i := i) hi
    have hy4 := hn4 y (List.mem_of_getElem? hy)
    repeat' ((conv => whnf); first
      | (with_reducible refine spB_dec ?_ ?_ <;> intro _ <;> (try (exfalso; first | contradiction | omega | (rename_i hz; refine hz ?_; simp; done) | (rename_i hz; simp at hz; done) | (simp only [LN] at *; omega))))
      | ((with_reducible refine rowN_mk (cQf y) ?_ ?_); (focus (exact rows_at hy)))
      | ((with_reducible apply rowN_mk); (focus (exact rows_set (by simp only [List.length_append, List.length_map, List.length_take, List.length_drop]; omega))))
      | ((with_reducible apply ixN_litp); (focus (exact rfl)); (focus ((try simp only [LN] at *) <;> omega)))
      | ((with_reducible refine cpyN.mk ?_ ?_ ?_ ?_); (focus (first | (simp; done))); (focus (first | exact one_map2 (fun _ => rfl))); (focus ((try simp only [LN] at *) <;> omega)))
      | with_reducible refine wr_i64 (by first | omega | (simp only [LN] at *; omega)) ?_
      | ((with_reducible refine Z.mkN_nat ?_ ?_ ?_ ?_); (focus ((try simp only [LN] at *) <;> omega)); (focus ((try simp only [LN] at *) <;> omega)); (focus ((try simp only [LN] at *) <;> omega)))
      | with_reducible first | refine Z.drawZ_rule tabOk mixOk ?_ | refine Z.apZ_mk (by kernel_rfl) ?_)
    all_goals (try (conv => whnf))
    all_goals try (show Nat.ble _ _ = true; rfl)
    all_goals first
      | ((refine Z.rnd_rw 7 (y.es.map cE) rfl rfl ?_ ?_); (focus (exact Z.lay_copy (by simp) (Nat.le_min.2 ⟨by simp, by simp⟩) (fun _ => rfl))); ((refine rnd_fzr 26 5 ((qs.take (i + 1)).map cQ ++ (qs.drop (i + 1)).map cQf) rfl rfl rfl (rows_mid hy ⟨?_, ?_, ?_, ?_, trivial⟩) ?_); (focus (first | exact Z.fzC.ogsl rfl (by simp only [List.length_map, Nat.zero_add]) (fun _ => rfl))); (focus (first | exact Z.fzC.refl _)); (focus (first | exact Z.fzC.refl _)); (focus (first | exact Z.fzC.refl _)); ((refine Z.rndK ((i + 1)) (fun s => [0, 1, 2, 3, 4, 5]) rfl rfl rfl rfl ?_ ?_ ?_ ?_); (focus (repeat' (first | exact trivial | exact rfl | apply And.intro))); (focus (repeat' (first | exact trivial | (intro b hb; cases hb; rfl) | exact Z.blk_sub rfl rfl (Z.ren_app (ren_map fun _ => rfl) (ren_map fun _ => rfl)) | apply And.intro))); (focus (((try dsimp only); omega))); ((try dsimp only); omega))))
  have hiq : i = qs.length := by omega
  subst hiq
  repeat' ((conv => whnf); first
    | with_reducible first | refine spB_t ?_
    | with_reducible first | refine spB_no (by decide) ?_
    | (with_reducible refine spB_dec ?_ ?_ <;> intro _ <;> (try (exfalso; first | contradiction | omega | (rename_i hz; refine hz ?_; simp; done) | (rename_i hz; simp at hz; done) | (simp only [LN] at *; omega))))
    | (with_reducible refine spB_beq ?_ ?_ <;> intro _ <;> (try (exfalso; first | contradiction | omega | (rename_i hz; refine hz ?_; simp; done) | (rename_i hz; simp at hz; done) | (simp only [LN] at *; omega))))
    | ((with_reducible refine ixN_mk (k) ?_ ?_ ?_); (focus (first | rfl)); (focus ((try simp only [LN] at *) <;> omega)))
    | ((with_reducible refine ixN_mk (0) ?_ ?_ ?_); (focus (first | rfl)); (focus ((try simp only [LN] at *) <;> omega)))
    | ((with_reducible refine rowN_mk (cQ x) ?_ ?_); (focus (exact rows_done hx)))
    | ((with_reducible apply rowN_mk); (focus (exact rows_set (by rw [rwB_len]; exact hkl))))
    | with_reducible first | refine Z.rowN_known he0 ?_
    | ((with_reducible refine Z.slN_lo 1 ?_ ?_ ?_); (focus rfl); (focus ((try simp only [LN] at *) <;> omega)))
    | with_reducible first | refine Z.callZ_in tabOk 44 Try.f39 _ Try.func39 (by kernel_rfl) rfl rfl rfl ?_
    | ((first | (with_reducible refine Z.callZ_mk ?_ (cd) ?_)); (focus ((repeat' (first | exact trivial | (refine low_rows (rowsT2 (q := endQ (dropQ x)) drop_rowE) ?_; (simp only [List.length_set, List.length_map]; done)) | exact rfl | apply And.intro)); done)))
    | ((first | (with_reducible refine Z.callZ_mk ?_ (cl) ?_)); (focus ((repeat' (first | exact trivial | (refine low_rows (rowsT2 (q := endQ (dropQ x)) drop_rowE) ?_; (simp only [List.length_set, List.length_map]; done)) | exact rfl | apply And.intro)); done)))
    | ((with_reducible apply ex_and); exact rfl)
    | with_reducible first | refine Z.drawZ_rule tabOk mixOk ?_ | refine Z.apZ_mk (by kernel_rfl) ?_)
  all_goals (try (conv => whnf))
  all_goals try (show Nat.ble _ _ = true; rfl)
  all_goals try (exfalso; rename_i hz; cases hz; done)
  all_goals try (exfalso; (try simp only [LN] at *) <;> omega)
  all_goals first
    | (refine Z.retF2 [.agg [.osl 5 0 (qs.map eQ).length (some (qs.map eQ).length), .v (.int .u64 n), .v (.int .u64 d)], .agg [.v (.int .i64 3), .v (.int .i64 0), .v (.int .i64 0), .v (.int .i64 0), .v (.int .u64 0)], .one (.v (.bool true)), .one (.v (.int .i64 0))] (by rfl) ⟨⟨Z.frz_osl (l := (qs.set k (endQ (dropQ x)))) (f := cQ) (ty := 39) (bx := false) (congrArg (fun r => some (Blk.mk r 4 39 false)) (by exact rowsT2 (q := endQ (dropQ x)) drop_rowE)) (by simp) (fun _ => rfl), rfl, rfl, trivial⟩, ⟨rfl, rfl, rfl, rfl, rfl, trivial⟩, rfl, rfl, trivial⟩)

theorem take_end_s3 (qs : List Qu) (n d : Int) (k : Nat) (x : Qu) (e : El) (r : List El) (hq : qs.length ≤ 9223372036854775807) (hlq : ∀ q ∈ qs, q.es.length ≤ 9223372036854775807) (huq : ∀ q ∈ qs, ∀ e ∈ q.es, 0 ≤ e.num) (hk : okG qs n d = true) (hx : qs[k]? = some x) (hrd : rdQ x = true) (hes : x.es = e :: r) (hk1 : e.kd = 3) (hn : 0 < n) (hD : allD (qs.set k (endQ (dropQ x))) = false) (hE : allE (qs.set k (endQ (dropQ x))) = false) : Con Try.prog 18 [.agg [.ro false 4 (qs.map eQ), .v (.int .u64 n), .v (.int .u64 d)], .one (.v (.int .i64 (k : Int)))] (fun rx rK rt => rx = .tup [.agg [.ro true 4 ((qs.set k (endQ (dropQ x))).map eQ), .v (.int .u64 n), .v (.int .u64 d)], .agg [.v (.int .i64 0), .v (.int .i64 0), .v (.int .i64 0), .v (.int .i64 0), .v (.int .u64 0)], .one (.v (.bool false)), .one (.v (.int .i64 0))] ∧ rK = [] ∧ rt = 0) := by
  refine Z.con_ofF tabOk 80 Try.f18 _ Try.func18 (by kernel_rfl) rfl rfl rfl rfl ?_
  have ck := check_con qs n d hq hlq huq
  rw [hk] at ck
  simp only [cond_true] at ck
  obtain ⟨hn1, hn4⟩ := okG_all hk
  have ch := has_con qs n d (k : Int)
  rw [decide_eq_true (p := (0 : Int) ≤ (k : Int) ∧ (k : Int) < (qs.length : Int)) (by have := (List.getElem?_eq_some_iff.1 hx).1; omega)] at ch
  have hkl := (List.getElem?_eq_some_iff.1 hx).1
  have cr := readable_con x
  rw [hrd] at cr
  have hx4 := hn4 x (List.mem_of_getElem? hx)
  have he0 : x.es[0]? = some e := by rw [hes]; rfl
  have hel : 0 < x.es.length := by rw [hes]; simp
  have cd := allD_con (qs.set k (endQ (dropQ x))) (by simp only [List.length_set, List.length_map]; exact hq)
  have cl := allE_con (qs.set k (endQ (dropQ x))) (by simp only [List.length_set, List.length_map]; exact hq)
  rw [show (List.all (qs.set k (endQ (dropQ x))) fun q => q.held || q.ended) = false from hD] at cd
  rw [show (List.all (qs.set k (endQ (dropQ x))) fun q => q.ended) = false from hE] at cl
  repeat' ((conv => whnf); first
    | ((with_reducible apply spB_cong); (focus (simp only [beq_self_eq_true, bne_self_eq_false, Bool.true_bne, Bool.false_bne, Bool.bne_true, Bool.bne_false, Bool.true_beq, Bool.false_beq, Bool.not_true, Bool.not_false, Bool.not_not, Int.reduceBEq, Int.reduceBNe, Int.reduceLE, Int.reduceLT, Int.reduceEq, decide_true, decide_false]; rfl)))
    | with_reducible first | refine spB_no (by decide) ?_
    | ((with_reducible refine ixN_mk (k) ?_ ?_ ?_); (focus (first | rfl)); (focus ((try simp only [LN] at *) <;> omega)))
    | with_reducible first | refine Z.rowN_known hx ?_
    | ((with_reducible refine cpyN.mk ?_ ?_ ?_ ?_); (focus (first | (simp; done))); (focus (first | exact one_map2 (fun _ => rfl))); (focus ((try simp only [LN] at *) <;> omega)))
    | with_reducible first | refine Z.callZ_in tabOk 41 Try.f30 _ Try.func30 (by kernel_rfl) rfl rfl rfl ?_
    | ((first | (with_reducible refine Z.callZ_mk ?_ (ck) ?_) | (with_reducible refine Z.callZ_mk ?_ (ch) ?_) | (with_reducible refine Z.callZ_mk ?_ (cr) ?_)); (focus ((repeat' (first | exact trivial | exact rfl | apply And.intro)); done)))
    | ((with_reducible refine Z.mkN_nat ?_ ?_ ?_ ?_); (focus ((try simp only [LN] at *) <;> omega)); (focus ((try simp only [LN] at *) <;> omega)); (focus ((try simp only [LN] at *) <;> omega))))
  all_goals (try (conv => whnf))
  all_goals try (show Nat.ble _ _ = true; rfl)
  all_goals try (exfalso; rename_i hz; cases hz; done)
  all_goals try (exfalso; (try simp only [LN] at *) <;> omega)
  refine Z.loopK tabOk (fun zq : Nat => [(16, .val (.int .i64 (zq : Int)))]) (fun zq : Nat => ([(5, some (Z.Ob.b ⟨(qs.take zq).map cQ ++ (qs.drop zq).map cQf, 4, 39, false⟩))] : Z.Kr)) (fun zq => zq ≤ qs.length) (fun zq => qs.length - zq) 0 6 [(1, _), (2, _), (3, _), (14, _), (15, _)] ⟨rfl, rfl, rfl, rfl, rfl, trivial⟩ [(0, some _), (1, some _), (2, some _), (3, some _), (4, some _)] ⟨rfl, rfl, rfl, rfl, rfl, trivial⟩ ?_ ?_ rfl rfl (Nat.zero_le _) ?_
  · repeat' (first | exact trivial | apply And.intro | exact ⟨_, rfl, Z.Imp.refl _⟩)
  · repeat' (first | exact trivial | (intro b hb; cases hb; refine ⟨_, rfl, ⟨rfl, rfl, rfl⟩, Z.imp_eq ?_⟩; first | rfl | exact Z.lay_copy (by simp) (Nat.le_min.2 ⟨by simp, by simp⟩) (fun _ => rfl); done) | apply And.intro)
  rintro i HINV
  dsimp only at HINV ⊢
  by_cases hi : i < qs.length
  · obtain ⟨y, hy⟩ := getElem?_some' (xs := qs) (i := i) hi
    have hy4 := hn4 y (List.mem_of_getElem? hy)
    repeat' ((conv => whnf); first
      | (with_reducible refine spB_dec ?_ ?_ <;> intro _ <;> (try (exfalso; first | contradiction | omega | (rename_i hz; refine hz ?_; simp; done) | (rename_i hz; simp at hz; done) | (simp only [LN] at *; omega))))
      | ((with_reducible refine rowN_mk (cQf y) ?_ ?_); (focus (exact rows_at hy)))
      | ((with_reducible apply rowN_mk); (focus (exact rows_set (by simp only [List.length_append, List.length_map, List.length_take, List.length_drop]; omega))))
      | ((with_reducible apply ixN_litp); (focus (exact rfl)); (focus ((try simp only [LN] at *) <;> omega)))
      | ((with_reducible refine cpyN.mk ?_ ?_ ?_ ?_); (focus (first | (simp; done))); (focus (first | exact one_map2 (fun _ => rfl))); (focus ((try simp only [LN] at *) <;> omega)))
      | with_reducible refine wr_i64 (by first | omega | (simp only [LN] at *; omega)) ?_
      | ((with_reducible refine Z.mkN_nat ?_ ?_ ?_ ?_); (focus ((try simp only [LN] at *) <;> omega)); (focus ((try simp only [LN] at *) <;> omega)); (focus ((try simp only [LN] at *) <;> omega)))
      | with_reducible first | refine Z.drawZ_rule tabOk mixOk ?_ | refine Z.apZ_mk (by kernel_rfl) ?_)
    all_goals (try (conv => whnf))
    all_goals try (show Nat.ble _ _ = true; rfl)
    all_goals first
      | ((refine Z.rnd_rw 7 (y.es.map cE) rfl rfl ?_ ?_); (focus (exact Z.lay_copy (by simp) (Nat.le_min.2 ⟨by simp, by simp⟩) (fun _ => rfl))); ((refine rnd_fzr 26 5 ((qs.take (i + 1)).map cQ ++ (qs.drop (i + 1)).map cQf) rfl rfl rfl (rows_mid hy ⟨?_, ?_, ?_, ?_, trivial⟩) ?_); (focus (first | exact Z.fzC.ogsl rfl (by simp only [List.length_map, Nat.zero_add]) (fun _ => rfl))); (focus (first | exact Z.fzC.refl _)); (focus (first | exact Z.fzC.refl _)); (focus (first | exact Z.fzC.refl _)); ((refine Z.rndK ((i + 1)) (fun s => [0, 1, 2, 3, 4, 5]) rfl rfl rfl rfl ?_ ?_ ?_ ?_); (focus (repeat' (first | exact trivial | exact rfl | apply And.intro))); (focus (repeat' (first | exact trivial | (intro b hb; cases hb; rfl) | exact Z.blk_sub rfl rfl (Z.ren_app (ren_map fun _ => rfl) (ren_map fun _ => rfl)) | apply And.intro))); (focus (((try dsimp only); omega))); ((try dsimp only); omega))))
  have hiq : i = qs.length := by omega
  subst hiq
  repeat' ((conv => whnf); first
    | with_reducible first | refine spB_t ?_
    | with_reducible first | refine spB_no (by decide) ?_
    | (with_reducible refine spB_dec ?_ ?_ <;> intro _ <;> (try (exfalso; first | contradiction | omega | (rename_i hz; refine hz ?_; simp; done) | (rename_i hz; simp at hz; done) | (simp only [LN] at *; omega))))
    | (with_reducible refine spB_beq ?_ ?_ <;> intro _ <;> (try (exfalso; first | contradiction | omega | (rename_i hz; refine hz ?_; simp; done) | (rename_i hz; simp at hz; done) | (simp only [LN] at *; omega))))
    | ((with_reducible refine ixN_mk (k) ?_ ?_ ?_); (focus (first | rfl)); (focus ((try simp only [LN] at *) <;> omega)))
    | ((with_reducible refine ixN_mk (0) ?_ ?_ ?_); (focus (first | rfl)); (focus ((try simp only [LN] at *) <;> omega)))
    | ((with_reducible refine rowN_mk (cQ x) ?_ ?_); (focus (exact rows_done hx)))
    | ((with_reducible apply rowN_mk); (focus (exact rows_set (by rw [rwB_len]; exact hkl))))
    | with_reducible first | refine Z.rowN_known he0 ?_
    | ((with_reducible refine Z.slN_lo 1 ?_ ?_ ?_); (focus rfl); (focus ((try simp only [LN] at *) <;> omega)))
    | with_reducible first | refine Z.callZ_in tabOk 44 Try.f39 _ Try.func39 (by kernel_rfl) rfl rfl rfl ?_
    | ((first | (with_reducible refine Z.callZ_mk ?_ (cd) ?_)); (focus ((repeat' (first | exact trivial | (refine low_rows (rowsT2 (q := endQ (dropQ x)) drop_rowE) ?_; (simp only [List.length_set, List.length_map]; done)) | exact rfl | apply And.intro)); done)))
    | ((first | (with_reducible refine Z.callZ_mk ?_ (cl) ?_)); (focus ((repeat' (first | exact trivial | (refine low_rows (rowsT2 (q := endQ (dropQ x)) drop_rowE) ?_; (simp only [List.length_set, List.length_map]; done)) | exact rfl | apply And.intro)); done)))
    | ((with_reducible apply ex_and); exact rfl)
    | with_reducible first | refine Z.drawZ_rule tabOk mixOk ?_ | refine Z.apZ_mk (by kernel_rfl) ?_)
  all_goals (try (conv => whnf))
  all_goals try (show Nat.ble _ _ = true; rfl)
  all_goals try (exfalso; rename_i hz; cases hz; done)
  all_goals try (exfalso; (try simp only [LN] at *) <;> omega)
  all_goals first
    | (refine Z.retF2 [.agg [.osl 5 0 (qs.map eQ).length (some (qs.map eQ).length), .v (.int .u64 n), .v (.int .u64 d)], .agg [.v (.int .i64 0), .v (.int .i64 0), .v (.int .i64 0), .v (.int .i64 0), .v (.int .u64 0)], .one (.v (.bool false)), .one (.v (.int .i64 0))] (by rfl) ⟨⟨Z.frz_osl (l := (qs.set k (endQ (dropQ x)))) (f := cQ) (ty := 39) (bx := false) (congrArg (fun r => some (Blk.mk r 4 39 false)) (by exact rowsT2 (q := endQ (dropQ x)) drop_rowE)) (by simp) (fun _ => rfl), rfl, rfl, trivial⟩, ⟨rfl, rfl, rfl, rfl, rfl, trivial⟩, rfl, rfl, trivial⟩)

theorem take_end_s4 (qs : List Qu) (n d : Int) (k : Nat) (x : Qu) (e : El) (r : List El) (hq : qs.length ≤ 9223372036854775807) (hlq : ∀ q ∈ qs, q.es.length ≤ 9223372036854775807) (huq : ∀ q ∈ qs, ∀ e ∈ q.es, 0 ≤ e.num) (hk : okG qs n d = true) (hx : qs[k]? = some x) (hrd : rdQ x = true) (hes : x.es = e :: r) (hk1 : e.kd = 3) (hn : ¬ 0 < n) (hE : allE (qs.set k (endQ (dropQ x))) = true) : Con Try.prog 18 [.agg [.ro false 4 (qs.map eQ), .v (.int .u64 n), .v (.int .u64 d)], .one (.v (.int .i64 (k : Int)))] (fun rx rK rt => rx = .tup [.agg [.ro true 4 ((qs.set k (endQ (dropQ x))).map eQ), .v (.int .u64 n), .v (.int .u64 d)], .agg [.v (.int .i64 3), .v (.int .i64 0), .v (.int .i64 0), .v (.int .i64 0), .v (.int .u64 0)], .one (.v (.bool true)), .one (.v (.int .i64 0))] ∧ rK = [] ∧ rt = 0) := by
  refine Z.con_ofF tabOk 80 Try.f18 _ Try.func18 (by kernel_rfl) rfl rfl rfl rfl ?_
  have ck := check_con qs n d hq hlq huq
  rw [hk] at ck
  simp only [cond_true] at ck
  obtain ⟨hn1, hn4⟩ := okG_all hk
  have ch := has_con qs n d (k : Int)
  rw [decide_eq_true (p := (0 : Int) ≤ (k : Int) ∧ (k : Int) < (qs.length : Int)) (by have := (List.getElem?_eq_some_iff.1 hx).1; omega)] at ch
  have hkl := (List.getElem?_eq_some_iff.1 hx).1
  have cr := readable_con x
  rw [hrd] at cr
  have hx4 := hn4 x (List.mem_of_getElem? hx)
  have he0 : x.es[0]? = some e := by rw [hes]; rfl
  have hel : 0 < x.es.length := by rw [hes]; simp
  have cd := allD_con (qs.set k (endQ (dropQ x))) (by simp only [List.length_set, List.length_map]; exact hq)
  have cl := allE_con (qs.set k (endQ (dropQ x))) (by simp only [List.length_set, List.length_map]; exact hq)
  rw [show (List.all (qs.set k (endQ (dropQ x))) fun q => q.ended) = true from hE] at cl
  repeat' ((conv => whnf); first
    | ((with_reducible apply spB_cong); (focus (simp only [beq_self_eq_true, bne_self_eq_false, Bool.true_bne, Bool.false_bne, Bool.bne_true, Bool.bne_false, Bool.true_beq, Bool.false_beq, Bool.not_true, Bool.not_false, Bool.not_not, Int.reduceBEq, Int.reduceBNe, Int.reduceLE, Int.reduceLT, Int.reduceEq, decide_true, decide_false]; rfl)))
    | with_reducible first | refine spB_no (by decide) ?_
    | ((with_reducible refine ixN_mk (k) ?_ ?_ ?_); (focus (first | rfl)); (focus ((try simp only [LN] at *) <;> omega)))
    | with_reducible first | refine Z.rowN_known hx ?_
    | ((with_reducible refine cpyN.mk ?_ ?_ ?_ ?_); (focus (first | (simp; done))); (focus (first | exact one_map2 (fun _ => rfl))); (focus ((try simp only [LN] at *) <;> omega)))
    | with_reducible first | refine Z.callZ_in tabOk 41 Try.f30 _ Try.func30 (by kernel_rfl) rfl rfl rfl ?_
    | ((first | (with_reducible refine Z.callZ_mk ?_ (ck) ?_) | (with_reducible refine Z.callZ_mk ?_ (ch) ?_) | (with_reducible refine Z.callZ_mk ?_ (cr) ?_)); (focus ((repeat' (first | exact trivial | exact rfl | apply And.intro)); done)))
    | ((with_reducible refine Z.mkN_nat ?_ ?_ ?_ ?_); (focus ((try simp only [LN] at *) <;> omega)); (focus ((try simp only [LN] at *) <;> omega)); (focus ((try simp only [LN] at *) <;> omega))))
  all_goals (try (conv => whnf))
  all_goals try (show Nat.ble _ _ = true; rfl)
  all_goals try (exfalso; rename_i hz; cases hz; done)
  all_goals try (exfalso; (try simp only [LN] at *) <;> omega)
  refine Z.loopK tabOk (fun zq : Nat => [(16, .val (.int .i64 (zq : Int)))]) (fun zq : Nat => ([(5, some (Z.Ob.b ⟨(qs.take zq).map cQ ++ (qs.drop zq).map cQf, 4, 39, false⟩))] : Z.Kr)) (fun zq => zq ≤ qs.length) (fun zq => qs.length - zq) 0 6 [(1, _), (2, _), (3, _), (14, _), (15, _)] ⟨rfl, rfl, rfl, rfl, rfl, trivial⟩ [(0, some _), (1, some _), (2, some _), (3, some _), (4, some _)] ⟨rfl, rfl, rfl, rfl, rfl, trivial⟩ ?_ ?_ rfl rfl (Nat.zero_le _) ?_
  · repeat' (first | exact trivial | apply And.intro | exact ⟨_, rfl, Z.Imp.refl _⟩)
  · repeat' (first | exact trivial | (intro b hb; cases hb; refine ⟨_, rfl, ⟨rfl, rfl, rfl⟩, Z.imp_eq ?_⟩; first | rfl | exact Z.lay_copy (by simp) (Nat.le_min.2 ⟨by simp, by simp⟩) (fun _ => rfl); done) | apply And.intro)
  rintro i HINV
  dsimp only at HINV ⊢
  by_cases hi : i < qs.length
  · obtain ⟨y, hy⟩ := getElem?_some' (xs := qs) (i := i) hi
    have hy4 := hn4 y (List.mem_of_getElem? hy)
    repeat' ((conv => whnf); first
      | (with_reducible refine spB_dec ?_ ?_ <;> intro _ <;> (try (exfalso; first | contradiction | omega | (rename_i hz; refine hz ?_; simp; done) | (rename_i hz; simp at hz; done) | (simp only [LN] at *; omega))))
      | ((with_reducible refine rowN_mk (cQf y) ?_ ?_); (focus (exact rows_at hy)))
      | ((with_reducible apply rowN_mk); (focus (exact rows_set (by simp only [List.length_append, List.length_map, List.length_take, List.length_drop]; omega))))
      | ((with_reducible apply ixN_litp); (focus (exact rfl)); (focus ((try simp only [LN] at *) <;> omega)))
      | ((with_reducible refine cpyN.mk ?_ ?_ ?_ ?_); (focus (first | (simp; done))); (focus (first | exact one_map2 (fun _ => rfl))); (focus ((try simp only [LN] at *) <;> omega)))
      | with_reducible refine wr_i64 (by first | omega | (simp only [LN] at *; omega)) ?_
      | ((with_reducible refine Z.mkN_nat ?_ ?_ ?_ ?_); (focus ((try simp only [LN] at *) <;> omega)); (focus ((try simp only [LN] at *) <;> omega)); (focus ((try simp only [LN] at *) <;> omega)))
      | with_reducible first | refine Z.drawZ_rule tabOk mixOk ?_ | refine Z.apZ_mk (by kernel_rfl) ?_)
    all_goals (try (conv => whnf))
    all_goals try (show Nat.ble _ _ = true; rfl)
    all_goals first
      | ((refine Z.rnd_rw 7 (y.es.map cE) rfl rfl ?_ ?_); (focus (exact Z.lay_copy (by simp) (Nat.le_min.2 ⟨by simp, by simp⟩) (fun _ => rfl))); ((refine rnd_fzr 26 5 ((qs.take (i + 1)).map cQ ++ (qs.drop (i + 1)).map cQf) rfl rfl rfl (rows_mid hy ⟨?_, ?_, ?_, ?_, trivial⟩) ?_); (focus (first | exact Z.fzC.ogsl rfl (by simp only [List.length_map, Nat.zero_add]) (fun _ => rfl))); (focus (first | exact Z.fzC.refl _)); (focus (first | exact Z.fzC.refl _)); (focus (first | exact Z.fzC.refl _)); ((refine Z.rndK ((i + 1)) (fun s => [0, 1, 2, 3, 4, 5]) rfl rfl rfl rfl ?_ ?_ ?_ ?_); (focus (repeat' (first | exact trivial | exact rfl | apply And.intro))); (focus (repeat' (first | exact trivial | (intro b hb; cases hb; rfl) | exact Z.blk_sub rfl rfl (Z.ren_app (ren_map fun _ => rfl) (ren_map fun _ => rfl)) | apply And.intro))); (focus (((try dsimp only); omega))); ((try dsimp only); omega))))
  have hiq : i = qs.length := by omega
  subst hiq
  repeat' ((conv => whnf); first
    | with_reducible first | refine spB_t ?_
    | with_reducible first | refine spB_no (by decide) ?_
    | (with_reducible refine spB_dec ?_ ?_ <;> intro _ <;> (try (exfalso; first | contradiction | omega | (rename_i hz; refine hz ?_; simp; done) | (rename_i hz; simp at hz; done) | (simp only [LN] at *; omega))))
    | (with_reducible refine spB_beq ?_ ?_ <;> intro _ <;> (try (exfalso; first | contradiction | omega | (rename_i hz; refine hz ?_; simp; done) | (rename_i hz; simp at hz; done) | (simp only [LN] at *; omega))))
    | ((with_reducible refine ixN_mk (k) ?_ ?_ ?_); (focus (first | rfl)); (focus ((try simp only [LN] at *) <;> omega)))
    | ((with_reducible refine ixN_mk (0) ?_ ?_ ?_); (focus (first | rfl)); (focus ((try simp only [LN] at *) <;> omega)))
    | ((with_reducible refine rowN_mk (cQ x) ?_ ?_); (focus (exact rows_done hx)))
    | ((with_reducible apply rowN_mk); (focus (exact rows_set (by rw [rwB_len]; exact hkl))))
    | with_reducible first | refine Z.rowN_known he0 ?_
    | ((with_reducible refine Z.slN_lo 1 ?_ ?_ ?_); (focus rfl); (focus ((try simp only [LN] at *) <;> omega)))
    | with_reducible first | refine Z.callZ_in tabOk 44 Try.f39 _ Try.func39 (by kernel_rfl) rfl rfl rfl ?_
    | ((first | (with_reducible refine Z.callZ_mk ?_ (cl) ?_)); (focus ((repeat' (first | exact trivial | (refine low_rows (rowsT2 (q := endQ (dropQ x)) drop_rowE) ?_; (simp only [List.length_set, List.length_map]; done)) | exact rfl | apply And.intro)); done)))
    | ((with_reducible apply ex_and); exact rfl)
    | with_reducible first | refine Z.drawZ_rule tabOk mixOk ?_ | refine Z.apZ_mk (by kernel_rfl) ?_)
  all_goals (try (conv => whnf))
  all_goals try (show Nat.ble _ _ = true; rfl)
  all_goals try (exfalso; rename_i hz; cases hz; done)
  all_goals try (exfalso; (try simp only [LN] at *) <;> omega)
  all_goals first
    | (refine Z.retF2 [.agg [.osl 5 0 (qs.map eQ).length (some (qs.map eQ).length), .v (.int .u64 n), .v (.int .u64 d)], .agg [.v (.int .i64 3), .v (.int .i64 0), .v (.int .i64 0), .v (.int .i64 0), .v (.int .u64 0)], .one (.v (.bool true)), .one (.v (.int .i64 0))] (by rfl) ⟨⟨Z.frz_osl (l := (qs.set k (endQ (dropQ x)))) (f := cQ) (ty := 39) (bx := false) (congrArg (fun r => some (Blk.mk r 4 39 false)) (by exact rowsT2 (q := endQ (dropQ x)) drop_rowE)) (by simp) (fun _ => rfl), rfl, rfl, trivial⟩, ⟨rfl, rfl, rfl, rfl, rfl, trivial⟩, rfl, rfl, trivial⟩)

theorem take_end_s5 (qs : List Qu) (n d : Int) (k : Nat) (x : Qu) (e : El) (r : List El) (hq : qs.length ≤ 9223372036854775807) (hlq : ∀ q ∈ qs, q.es.length ≤ 9223372036854775807) (huq : ∀ q ∈ qs, ∀ e ∈ q.es, 0 ≤ e.num) (hk : okG qs n d = true) (hx : qs[k]? = some x) (hrd : rdQ x = true) (hes : x.es = e :: r) (hk1 : e.kd = 3) (hn : ¬ 0 < n) (hE : allE (qs.set k (endQ (dropQ x))) = false) : Con Try.prog 18 [.agg [.ro false 4 (qs.map eQ), .v (.int .u64 n), .v (.int .u64 d)], .one (.v (.int .i64 (k : Int)))] (fun rx rK rt => rx = .tup [.agg [.ro true 4 ((qs.set k (endQ (dropQ x))).map eQ), .v (.int .u64 n), .v (.int .u64 d)], .agg [.v (.int .i64 0), .v (.int .i64 0), .v (.int .i64 0), .v (.int .i64 0), .v (.int .u64 0)], .one (.v (.bool false)), .one (.v (.int .i64 0))] ∧ rK = [] ∧ rt = 0) := by
  refine Z.con_ofF tabOk 80 Try.f18 _ Try.func18 (by kernel_rfl) rfl rfl rfl rfl ?_
  have ck := check_con qs n d hq hlq huq
  rw [hk] at ck
  simp only [cond_true] at ck
  obtain ⟨hn1, hn4⟩ := okG_all hk
  have ch := has_con qs n d (k : Int)
  rw [decide_eq_true (p := (0 : Int) ≤ (k : Int) ∧ (k : Int) < (qs.length : Int)) (by have := (List.getElem?_eq_some_iff.1 hx).1; omega)] at ch
  have hkl := (List.getElem?_eq_some_iff.1 hx).1
  have cr := readable_con x
  rw [hrd] at cr
  have hx4 := hn4 x (List.mem_of_getElem? hx)
  have he0 : x.es[0]? = some e := by rw [hes]; rfl
  have hel : 0 < x.es.length := by rw [hes]; simp
  have cd := allD_con (qs.set k (endQ (dropQ x))) (by simp only [List.length_set, List.length_map]; exact hq)
  have cl := allE_con (qs.set k (endQ (dropQ x))) (by simp only [List.length_set, List.length_map]; exact hq)
  rw [show (List.all (qs.set k (endQ (dropQ x))) fun q => q.ended) = false from hE] at cl
  repeat' ((conv => whnf); first
    | ((with_reducible apply spB_cong); (focus (simp only [beq_self_eq_true, bne_self_eq_false, Bool.true_bne, Bool.false_bne, Bool.bne_true, Bool.bne_false, Bool.true_beq, Bool.false_beq, Bool.not_true, Bool.not_false, Bool.not_not, Int.reduceBEq, Int.reduceBNe, Int.reduceLE, Int.reduceLT, Int.reduceEq, decide_true, decide_false]; rfl)))
    | with_reducible first | refine spB_no (by decide) ?_
    | ((with_reducible refine ixN_mk (k) ?_ ?_ ?_); (focus (first | rfl)); (focus ((try simp only [LN] at *) <;> omega)))
    | with_reducible first | refine Z.rowN_known hx ?_
    | ((with_reducible refine cpyN.mk ?_ ?_ ?_ ?_); (focus (first | (simp; done))); (focus (first | exact one_map2 (fun _ => rfl))); (focus ((try simp only [LN] at *) <;> omega)))
    | with_reducible first | refine Z.callZ_in tabOk 41 Try.f30 _ Try.func30 (by kernel_rfl) rfl rfl rfl ?_
    | ((first | (with_reducible refine Z.callZ_mk ?_ (ck) ?_) | (with_reducible refine Z.callZ_mk ?_ (ch) ?_) | (with_reducible refine Z.callZ_mk ?_ (cr) ?_)); (focus ((repeat' (first | exact trivial | exact rfl | apply And.intro)); done)))
    | ((with_reducible refine Z.mkN_nat ?_ ?_ ?_ ?_); (focus ((try simp only [LN] at *) <;> omega)); (focus ((try simp only [LN] at *) <;> omega)); (focus ((try simp only [LN] at *) <;> omega))))
  all_goals (try (conv => whnf))
  all_goals try (show Nat.ble _ _ = true; rfl)
  all_goals try (exfalso; rename_i hz; cases hz; done)
  all_goals try (exfalso; (try simp only [LN] at *) <;> omega)
  refine Z.loopK tabOk (fun zq : Nat => [(16, .val (.int .i64 (zq : Int)))]) (fun zq : Nat => ([(5, some (Z.Ob.b ⟨(qs.take zq).map cQ ++ (qs.drop zq).map cQf, 4, 39, false⟩))] : Z.Kr)) (fun zq => zq ≤ qs.length) (fun zq => qs.length - zq) 0 6 [(1, _), (2, _), (3, _), (14, _), (15, _)] ⟨rfl, rfl, rfl, rfl, rfl, trivial⟩ [(0, some _), (1, some _), (2, some _), (3, some _), (4, some _)] ⟨rfl, rfl, rfl, rfl, rfl, trivial⟩ ?_ ?_ rfl rfl (Nat.zero_le _) ?_
  · repeat' (first | exact trivial | apply And.intro | exact ⟨_, rfl, Z.Imp.refl _⟩)
  · repeat' (first | exact trivial | (intro b hb; cases hb; refine ⟨_, rfl, ⟨rfl, rfl, rfl⟩, Z.imp_eq ?_⟩; first | rfl | exact Z.lay_copy (by simp) (Nat.le_min.2 ⟨by simp, by simp⟩) (fun _ => rfl); done) | apply And.intro)
  rintro i HINV
  dsimp only at HINV ⊢
  by_cases hi : i < qs.length
  · obtain ⟨y, hy⟩ := getElem?_some' (xs := qs) (i := i) hi
    have hy4 := hn4 y (List.mem_of_getElem? hy)
    repeat' ((conv => whnf); first
      | (with_reducible refine spB_dec ?_ ?_ <;> intro _ <;> (try (exfalso; first | contradiction | omega | (rename_i hz; refine hz ?_; simp; done) | (rename_i hz; simp at hz; done) | (simp only [LN] at *; omega))))
      | ((with_reducible refine rowN_mk (cQf y) ?_ ?_); (focus (exact rows_at hy)))
      | ((with_reducible apply rowN_mk); (focus (exact rows_set (by simp only [List.length_append, List.length_map, List.length_take, List.length_drop]; omega))))
      | ((with_reducible apply ixN_litp); (focus (exact rfl)); (focus ((try simp only [LN] at *) <;> omega)))
      | ((with_reducible refine cpyN.mk ?_ ?_ ?_ ?_); (focus (first | (simp; done))); (focus (first | exact one_map2 (fun _ => rfl))); (focus ((try simp only [LN] at *) <;> omega)))
      | with_reducible refine wr_i64 (by first | omega | (simp only [LN] at *; omega)) ?_
      | ((with_reducible refine Z.mkN_nat ?_ ?_ ?_ ?_); (focus ((try simp only [LN] at *) <;> omega)); (focus ((try simp only [LN] at *) <;> omega)); (focus ((try simp only [LN] at *) <;> omega)))
      | with_reducible first | refine Z.drawZ_rule tabOk mixOk ?_ | refine Z.apZ_mk (by kernel_rfl) ?_)
    all_goals (try (conv => whnf))
    all_goals try (show Nat.ble _ _ = true; rfl)
    all_goals first
      | ((refine Z.rnd_rw 7 (y.es.map cE) rfl rfl ?_ ?_); (focus (exact Z.lay_copy (by simp) (Nat.le_min.2 ⟨by simp, by simp⟩) (fun _ => rfl))); ((refine rnd_fzr 26 5 ((qs.take (i + 1)).map cQ ++ (qs.drop (i + 1)).map cQf) rfl rfl rfl (rows_mid hy ⟨?_, ?_, ?_, ?_, trivial⟩) ?_); (focus (first | exact Z.fzC.ogsl rfl (by simp only [List.length_map, Nat.zero_add]) (fun _ => rfl))); (focus (first | exact Z.fzC.refl _)); (focus (first | exact Z.fzC.refl _)); (focus (first | exact Z.fzC.refl _)); ((refine Z.rndK ((i + 1)) (fun s => [0, 1, 2, 3, 4, 5]) rfl rfl rfl rfl ?_ ?_ ?_ ?_); (focus (repeat' (first | exact trivial | exact rfl | apply And.intro))); (focus (repeat' (first | exact trivial | (intro b hb; cases hb; rfl) | exact Z.blk_sub rfl rfl (Z.ren_app (ren_map fun _ => rfl) (ren_map fun _ => rfl)) | apply And.intro))); (focus (((try dsimp only); omega))); ((try dsimp only); omega))))
  have hiq : i = qs.length := by omega
  subst hiq
  repeat' ((conv => whnf); first
    | with_reducible first | refine spB_no (by decide) ?_
    | (with_reducible refine spB_dec ?_ ?_ <;> intro _ <;> (try (exfalso; first | contradiction | omega | (rename_i hz; refine hz ?_; simp; done) | (rename_i hz; simp at hz; done) | (simp only [LN] at *; omega))))
    | (with_reducible refine spB_beq ?_ ?_ <;> intro _ <;> (try (exfalso; first | contradiction | omega | (rename_i hz; refine hz ?_; simp; done) | (rename_i hz; simp at hz; done) | (simp only [LN] at *; omega))))
    | ((with_reducible refine ixN_mk (k) ?_ ?_ ?_); (focus (first | rfl)); (focus ((try simp only [LN] at *) <;> omega)))
    | ((with_reducible refine ixN_mk (0) ?_ ?_ ?_); (focus (first | rfl)); (focus ((try simp only [LN] at *) <;> omega)))
    | ((with_reducible refine rowN_mk (cQ x) ?_ ?_); (focus (exact rows_done hx)))
    | ((with_reducible apply rowN_mk); (focus (exact rows_set (by rw [rwB_len]; exact hkl))))
    | with_reducible first | refine Z.rowN_known he0 ?_
    | ((with_reducible refine Z.slN_lo 1 ?_ ?_ ?_); (focus rfl); (focus ((try simp only [LN] at *) <;> omega)))
    | with_reducible first | refine Z.callZ_in tabOk 44 Try.f39 _ Try.func39 (by kernel_rfl) rfl rfl rfl ?_
    | ((first | (with_reducible refine Z.callZ_mk ?_ (cl) ?_)); (focus ((repeat' (first | exact trivial | (refine low_rows (rowsT2 (q := endQ (dropQ x)) drop_rowE) ?_; (simp only [List.length_set, List.length_map]; done)) | exact rfl | apply And.intro)); done)))
    | ((with_reducible apply ex_and); exact rfl)
    | with_reducible first | refine Z.drawZ_rule tabOk mixOk ?_ | refine Z.apZ_mk (by kernel_rfl) ?_)
  all_goals (try (conv => whnf))
  all_goals try (show Nat.ble _ _ = true; rfl)
  all_goals try (exfalso; rename_i hz; cases hz; done)
  all_goals try (exfalso; (try simp only [LN] at *) <;> omega)
  all_goals first
    | (refine Z.retF2 [.agg [.osl 5 0 (qs.map eQ).length (some (qs.map eQ).length), .v (.int .u64 n), .v (.int .u64 d)], .agg [.v (.int .i64 0), .v (.int .i64 0), .v (.int .i64 0), .v (.int .i64 0), .v (.int .u64 0)], .one (.v (.bool false)), .one (.v (.int .i64 0))] (by rfl) ⟨⟨Z.frz_osl (l := (qs.set k (endQ (dropQ x)))) (f := cQ) (ty := 39) (bx := false) (congrArg (fun r => some (Blk.mk r 4 39 false)) (by exact rowsT2 (q := endQ (dropQ x)) drop_rowE)) (by simp) (fun _ => rfl), rfl, rfl, trivial⟩, ⟨rfl, rfl, rfl, rfl, rfl, trivial⟩, rfl, rfl, trivial⟩)

end Go.Proofs.Ytakfkbciijahgaa
namespace Go.Proofs.Ytakfkbciijahgaa
open Go Go.RowKit Wx
set_option linter.unusedVariables false
set_option linter.unusedSimpArgs false
set_option maxHeartbeats 4000000
theorem take_late_s3 (qs : List Qu) (n d : Int) (k : Nat) (x : Qu) (e : El) (r : List El) (hq : qs.length ≤ 9223372036854775807) (hlq : ∀ q ∈ qs, q.es.length ≤ 9223372036854775807) (huq : ∀ q ∈ qs, ∀ e ∈ q.es, 0 ≤ e.num) (hk : okG qs n d = true) (hx : qs[k]? = some x) (hrd : rdQ x = true) (hes : x.es = e :: r) (hk1 : e.kd = 2) (hb : e.num ≤ d ∨ e.num < n) (hn : 0 < n) (hD : allD (qs.set k (dropQ x)) = false) (hE : allE (qs.set k (dropQ x)) = false) : Con Try.prog 18 [.agg [.ro false 4 (qs.map eQ), .v (.int .u64 n), .v (.int .u64 d)], .one (.v (.int .i64 (k : Int)))] (fun rx rK rt => rx = .tup [.agg [.ro true 4 ((qs.set k (dropQ x)).map eQ), .v (.int .u64 n), .v (.int .u64 d)], .agg [.v (.int .i64 0), .v (.int .i64 0), .v (.int .i64 0), .v (.int .i64 0), .v (.int .u64 0)], .one (.v (.bool false)), .one (.v (.int .i64 0))] ∧ rK = [] ∧ rt = 0) := by
  refine Z.con_ofF tabOk 80 Try.f18 _ Try.func18 (by kernel_rfl) rfl rfl rfl rfl ?_
  have ck := check_con qs n d hq hlq huq
  rw [hk] at ck
  simp only [cond_true] at ck
  obtain ⟨hn1, hn4⟩ := okG_all hk
  have ch := has_con qs n d (k : Int)
  rw [decide_eq_true (p := (0 : Int) ≤ (k : Int) ∧ (k : Int) < (qs.length : Int)) (by have := (List.getElem?_eq_some_iff.1 hx).1; omega)] at ch
  have hkl := (List.getElem?_eq_some_iff.1 hx).1
  have cr := readable_con x
  rw [hrd] at cr
  have hx4 := hn4 x (List.mem_of_getElem? hx)
  have he0 : x.es[0]? = some e := by rw [hes]; rfl
  have hel : 0 < x.es.length := by rw [hes]; simp
  have cd := allD_con (qs.set k (dropQ x)) (by simp only [List.length_set, List.length_map]; exact hq)
  have cl := allE_con (qs.set k (dropQ x)) (by simp only [List.length_set, List.length_map]; exact hq)
  rw [show (List.all (qs.set k (dropQ x)) fun q => q.held || q.ended) = false from hD] at cd
  rw [show (List.all (qs.set k (dropQ x)) fun q => q.ended) = false from hE] at cl
  repeat' ((conv => whnf); first
    | ((with_reducible apply spB_cong); (focus (simp only [beq_self_eq_true, bne_self_eq_false, Bool.true_bne, Bool.false_bne, Bool.bne_true, Bool.bne_false, Bool.true_beq, Bool.false_beq, Bool.not_true, Bool.not_false, Bool.not_not, Int.reduceBEq, Int.reduceBNe, Int.reduceLE, Int.reduceLT, Int.reduceEq, decide_true, decide_false]; rfl)))
    | with_reducible first | refine spB_no (by decide) ?_
    | ((with_reducible refine ixN_mk (k) ?_ ?_ ?_); (focus (first | rfl)); (focus ((try simp only [LN] at *) <;> omega)))
    | with_reducible first | refine Z.rowN_known hx ?_
    | ((with_reducible refine cpyN.mk ?_ ?_ ?_ ?_); (focus (first | (simp; done))); (focus (first | exact one_map2 (fun _ => rfl))); (focus ((try simp only [LN] at *) <;> omega)))
    | with_reducible first | refine Z.callZ_in tabOk 41 Try.f30 _ Try.func30 (by kernel_rfl) rfl rfl rfl ?_
    | ((first | (with_reducible refine Z.callZ_mk ?_ (ck) ?_) | (with_reducible refine Z.callZ_mk ?_ (ch) ?_) | (with_reducible refine Z.callZ_mk ?_ (cr) ?_)); (focus ((repeat' (first | exact trivial | exact rfl | apply And.intro)); done)))
    | ((with_reducible refine Z.mkN_nat ?_ ?_ ?_ ?_); (focus ((try simp only [LN] at *) <;> omega)); (focus ((try simp only [LN] at *) <;> omega)); (focus ((try simp only [LN] at *) <;> omega))))
  all_goals (try (conv => whnf))
  all_goals try (show Nat.ble _ _ = true; rfl)
  all_goals try (exfalso; rename_i hz; cases hz; done)
  all_goals try (exfalso; (try simp only [LN] at *) <;> omega)
  refine Z.loopK tabOk (fun zq : Nat => [(16, .val (.int .i64 (zq : Int)))]) (fun zq : Nat => ([(5, some (Z.Ob.b ⟨(qs.take zq).map cQ ++ (qs.drop zq).map cQf, 4, 39, false⟩))] : Z.Kr)) (fun zq => zq ≤ qs.length) (fun zq => qs.length - zq) 0 6 [(1, _), (2, _), (3, _), (14, _), (15, _)] ⟨rfl, rfl, rfl, rfl, rfl, trivial⟩ [(0, some _), (1, some _), (2, some _), (3, some _), (4, some _)] ⟨rfl, rfl, rfl, rfl, rfl, trivial⟩ ?_ ?_ rfl rfl (Nat.zero_le _) ?_
  · repeat' (first | exact trivial | apply And.intro | exact ⟨_, rfl, Z.Imp.refl _⟩)
  · repeat' (first | exact trivial | (intro b hb; cases hb; refine ⟨_, rfl, ⟨rfl, rfl, rfl⟩, Z.imp_eq ?_⟩; first | rfl | exact Z.lay_copy (by simp) (Nat.le_min.2 ⟨by simp, by simp⟩) (fun _ => rfl); done) | apply And.intro)
  rintro i HINV
  dsimp only at HINV ⊢
  by_cases hi : i < qs.length
  · obtain ⟨y, hy⟩ := getElem?_some' (xs := qs) (i := i) hi
    have hy4 := hn4 y (List.mem_of_getElem? hy)
    repeat' ((conv => whnf); first
      | (with_reducible refine spB_dec ?_ ?_ <;> intro _ <;> (try (exfalso; first | contradiction | omega | (rename_i hz; refine hz ?_; simp; done) | (rename_i hz; simp at hz; done) | (simp only [LN] at *; omega))))
      | ((with_reducible refine rowN_mk (cQf y) ?_ ?_); (focus (exact rows_at hy)))
      | ((with_reducible apply rowN_mk); (focus (exact rows_set (by simp only [List.length_append, List.length_map, List.length_take, List.length_drop]; omega))))
      | ((with_reducible apply ixN_litp); (focus (exact rfl)); (focus ((try simp only [LN] at *) <;> omega)))
      | ((with_reducible refine cpyN.mk ?_ ?_ ?_ ?_); (focus (first | (simp; done))); (focus (first | exact one_map2 (fun _ => rfl))); (focus ((try simp only [LN] at *) <;> omega)))
      | with_reducible refine wr_i64 (by first | omega | (simp only [LN] at *; omega)) ?_
      | ((with_reducible refine Z.mkN_nat ?_ ?_ ?_ ?_); (focus ((try simp only [LN] at *) <;> omega)); (focus ((try simp only [LN] at *) <;> omega)); (focus ((try simp only [LN] at *) <;> omega)))
      | with_reducible first | refine Z.drawZ_rule tabOk mixOk ?_ | refine Z.apZ_mk (by kernel_rfl) ?_)
    all_goals (try (conv => whnf))
    all_goals try (show Nat.ble _ _ = true; rfl)
    all_goals first
      | ((refine Z.rnd_rw 7 (y.es.map cE) rfl rfl ?_ ?_); (focus (exact Z.lay_copy (by simp) (Nat.le_min.2 ⟨by simp, by simp⟩) (fun _ => rfl))); ((refine rnd_fzr 26 5 ((qs.take (i + 1)).map cQ ++ (qs.drop (i + 1)).map cQf) rfl rfl rfl (rows_mid hy ⟨?_, ?_, ?_, ?_, trivial⟩) ?_); (focus (first | exact Z.fzC.ogsl rfl (by simp only [List.length_map, Nat.zero_add]) (fun _ => rfl))); (focus (first | exact Z.fzC.refl _)); (focus (first | exact Z.fzC.refl _)); (focus (first | exact Z.fzC.refl _)); ((refine Z.rndK ((i + 1)) (fun s => [0, 1, 2, 3, 4, 5]) rfl rfl rfl rfl ?_ ?_ ?_ ?_); (focus (repeat' (first | exact trivial | exact rfl | apply And.intro))); (focus (repeat' (first | exact trivial | (intro b hb; cases hb; rfl) | exact Z.blk_sub rfl rfl (Z.ren_app (ren_map fun _ => rfl) (ren_map fun _ => rfl)) | apply And.intro))); (focus (((try dsimp only); omega))); ((try dsimp only); omega))))
  have hiq : i = qs.length := by omega
  subst hiq
  repeat' ((conv => whnf); first
    | with_reducible first | refine spB_t ?_
    | with_reducible first | refine spB_no (by decide) ?_
    | (with_reducible refine spB_dec ?_ ?_ <;> intro _ <;> (try (exfalso; first | contradiction | omega | (rename_i hz; refine hz ?_; simp; done) | (rename_i hz; simp at hz; done) | (simp only [LN] at *; omega))))
    | (with_reducible refine spB_beq ?_ ?_ <;> intro _ <;> (try (exfalso; first | contradiction | omega | (rename_i hz; refine hz ?_; simp; done) | (rename_i hz; simp at hz; done) | (simp only [LN] at *; omega))))
    | ((with_reducible refine ixN_mk (k) ?_ ?_ ?_); (focus (first | rfl)); (focus ((try simp only [LN] at *) <;> omega)))
    | ((with_reducible refine ixN_mk (0) ?_ ?_ ?_); (focus (first | rfl)); (focus ((try simp only [LN] at *) <;> omega)))
    | ((with_reducible refine rowN_mk (cQ x) ?_ ?_); (focus (exact rows_done hx)))
    | with_reducible first | refine Z.rowN_known he0 ?_
    | ((with_reducible refine Z.slN_lo 1 ?_ ?_ ?_); (focus rfl); (focus ((try simp only [LN] at *) <;> omega)))
    | with_reducible first | refine Z.callZ_in tabOk 39 Try.f38 _ Try.func38 (by kernel_rfl) rfl rfl rfl ?_ | refine Z.callZ_in tabOk 44 Try.f39 _ Try.func39 (by kernel_rfl) rfl rfl rfl ?_
    | ((first | (with_reducible refine Z.callZ_mk ?_ (cd) ?_)); (focus ((repeat' (first | exact trivial | (refine low_rows (rowsT (q := dropQ x) drop_row) ?_; (simp only [List.length_set, List.length_map]; done)) | exact rfl | apply And.intro)); done)))
    | ((first | (with_reducible refine Z.callZ_mk ?_ (cl) ?_)); (focus ((repeat' (first | exact trivial | (refine low_rows (rowsT (q := dropQ x) drop_row) ?_; (simp only [List.length_set, List.length_map]; done)) | exact rfl | apply And.intro)); done)))
    | ((with_reducible apply ex_and); exact rfl)
    | with_reducible first | refine Z.drawZ_rule tabOk mixOk ?_ | refine Z.apZ_mk (by kernel_rfl) ?_)
  all_goals (try (conv => whnf))
  all_goals try (show Nat.ble _ _ = true; rfl)
  all_goals try (exfalso; rename_i hz; cases hz; done)
  all_goals try (exfalso; (try simp only [LN] at *) <;> omega)
  all_goals first
    | (refine Z.retF2 [.agg [.osl 5 0 (qs.map eQ).length (some (qs.map eQ).length), .v (.int .u64 n), .v (.int .u64 d)], .agg [.v (.int .i64 0), .v (.int .i64 0), .v (.int .i64 0), .v (.int .i64 0), .v (.int .u64 0)], .one (.v (.bool false)), .one (.v (.int .i64 0))] (by rfl) ⟨⟨Z.frz_osl (l := (qs.set k (dropQ x))) (f := cQ) (ty := 39) (bx := false) (congrArg (fun r => some (Blk.mk r 4 39 false)) (by exact rowsT (q := dropQ x) drop_row)) (by simp) (fun _ => rfl), rfl, rfl, trivial⟩, ⟨rfl, rfl, rfl, rfl, rfl, trivial⟩, rfl, rfl, trivial⟩)

theorem take_late_s5 (qs : List Qu) (n d : Int) (k : Nat) (x : Qu) (e : El) (r : List El) (hq : qs.length ≤ 9223372036854775807) (hlq : ∀ q ∈ qs, q.es.length ≤ 9223372036854775807) (huq : ∀ q ∈ qs, ∀ e ∈ q.es, 0 ≤ e.num) (hk : okG qs n d = true) (hx : qs[k]? = some x) (hrd : rdQ x = true) (hes : x.es = e :: r) (hk1 : e.kd = 2) (hb : e.num ≤ d ∨ e.num < n) (hn : ¬ 0 < n) (hE : allE (qs.set k (dropQ x)) = false) : Con Try.prog 18 [.agg [.ro false 4 (qs.map eQ), .v (.int .u64 n), .v (.int .u64 d)], .one (.v (.int .i64 (k : Int)))] (fun rx rK rt => rx = .tup [.agg [.ro true 4 ((qs.set k (dropQ x)).map eQ), .v (.int .u64 n), .v (.int .u64 d)], .agg [.v (.int .i64 0), .v (.int .i64 0), .v (.int .i64 0), .v (.int .i64 0), .v (.int .u64 0)], .one (.v (.bool false)), .one (.v (.int .i64 0))] ∧ rK = [] ∧ rt = 0) := by
  refine Z.con_ofF tabOk 80 Try.f18 _ Try.func18 (by kernel_rfl) rfl rfl rfl rfl ?_
  have ck := check_con qs n d hq hlq huq
  rw [hk] at ck
  simp only [cond_true] at ck
  obtain ⟨hn1, hn4⟩ := okG_all hk
  have ch := has_con qs n d (k : Int)
  rw [decide_eq_true (p := (0 : Int) ≤ (k : Int) ∧ (k : Int) < (qs.length : Int)) (by have := (List.getElem?_eq_some_iff.1 hx).1; omega)] at ch
  have hkl := (List.getElem?_eq_some_iff.1 hx).1
  have cr := readable_con x
  rw [hrd] at cr
  have hx4 := hn4 x (List.mem_of_getElem? hx)
  have he0 : x.es[0]? = some e := by rw [hes]; rfl
  have hel : 0 < x.es.length := by rw [hes]; simp
  have cd := allD_con (qs.set k (dropQ x)) (by simp only [List.length_set, List.length_map]; exact hq)
  have cl := allE_con (qs.set k (dropQ x)) (by simp only [List.length_set, List.length_map]; exact hq)
  rw [show (List.all (qs.set k (dropQ x)) fun q => q.ended) = false from hE] at cl
  repeat' ((conv => whnf); first
    | ((with_reducible apply spB_cong); (focus (simp only [beq_self_eq_true, bne_self_eq_false, Bool.true_bne, Bool.false_bne, Bool.bne_true, Bool.bne_false, Bool.true_beq, Bool.false_beq, Bool.not_true, Bool.not_false, Bool.not_not, Int.reduceBEq, Int.reduceBNe, Int.reduceLE, Int.reduceLT, Int.reduceEq, decide_true, decide_false]; rfl)))
    | with_reducible first | refine spB_no (by decide) ?_
    | ((with_reducible refine ixN_mk (k) ?_ ?_ ?_); (focus (first | rfl)); (focus ((try simp only [LN] at *) <;> omega)))
    | with_reducible first | refine Z.rowN_known hx ?_
    | ((with_reducible refine cpyN.mk ?_ ?_ ?_ ?_); (focus (first | (simp; done))); (focus (first | exact one_map2 (fun _ => rfl))); (focus ((try simp only [LN] at *) <;> omega)))
    | with_reducible first | refine Z.callZ_in tabOk 41 Try.f30 _ Try.func30 (by kernel_rfl) rfl rfl rfl ?_
    | ((first | (with_reducible refine Z.callZ_mk ?_ (ck) ?_) | (with_reducible refine Z.callZ_mk ?_ (ch) ?_) | (with_reducible refine Z.callZ_mk ?_ (cr) ?_)); (focus ((repeat' (first | exact trivial | exact rfl | apply And.intro)); done)))
    | ((with_reducible refine Z.mkN_nat ?_ ?_ ?_ ?_); (focus ((try simp only [LN] at *) <;> omega)); (focus ((try simp only [LN] at *) <;> omega)); (focus ((try simp only [LN] at *) <;> omega))))
  all_goals (try (conv => whnf))
  all_goals try (show Nat.ble _ _ = true; rfl)
  all_goals try (exfalso; rename_i hz; cases hz; done)
  all_goals try (exfalso; (try simp only [LN] at *) <;> omega)
  refine Z.loopK tabOk (fun zq : Nat => [(16, .val (.int .i64 (zq : Int)))]) (fun zq : Nat => ([(5, some (Z.Ob.b ⟨(qs.take zq).map cQ ++ (qs.drop zq).map cQf, 4, 39, false⟩))] : Z.Kr)) (fun zq => zq ≤ qs.length) (fun zq => qs.length - zq) 0 6 [(1, _), (2, _), (3, _), (14, _), (15, _)] ⟨rfl, rfl, rfl, rfl, rfl, trivial⟩ [(0, some _), (1, some _), (2, some _), (3, some _), (4, some _)] ⟨rfl, rfl, rfl, rfl, rfl, trivial⟩ ?_ ?_ rfl rfl (Nat.zero_le _) ?_
  · repeat' (first | exact trivial | apply And.intro | exact ⟨_, rfl, Z.Imp.refl _⟩)
  · repeat' (first | exact trivial | (intro b hb; cases hb; refine ⟨_, rfl, ⟨rfl, rfl, rfl⟩, Z.imp_eq ?_⟩; first | rfl | exact Z.lay_copy (by simp) (Nat.le_min.2 ⟨by simp, by simp⟩) (fun _ => rfl); done) | apply And.intro)
  rintro i HINV
  dsimp only at HINV ⊢
  by_cases hi : i < qs.length
  · obtain ⟨y, hy⟩ := getElem?_some' (xs := qs) (i := i) hi
    have hy4 := hn4 y (List.mem_of_getElem? hy)
    repeat' ((conv => whnf); first
      | (with_reducible refine spB_dec ?_ ?_ <;> intro _ <;> (try (exfalso; first | contradiction | omega | (rename_i hz; refine hz ?_; simp; done) | (rename_i hz; simp at hz; done) | (simp only [LN] at *; omega))))
      | ((with_reducible refine rowN_mk (cQf y) ?_ ?_); (focus (exact rows_at hy)))
      | ((with_reducible apply rowN_mk); (focus (exact rows_set (by simp only [List.length_append, List.length_map, List.length_take, List.length_drop]; omega))))
      | ((with_reducible apply ixN_litp); (focus (exact rfl)); (focus ((try simp only [LN] at *) <;> omega)))
      | ((with_reducible refine cpyN.mk ?_ ?_ ?_ ?_); (focus (first | (simp; done))); (focus (first | exact one_map2 (fun _ => rfl))); (focus ((try simp only [LN] at *) <;> omega)))
      | with_reducible refine wr_i64 (by first | omega | (simp only [LN] at *; omega)) ?_
      | ((with_reducible refine Z.mkN_nat ?_ ?_ ?_ ?_); (focus ((try simp only [LN] at *) <;> omega)); (focus ((try simp only [LN] at *) <;> omega)); (focus ((try simp only [LN] at *) <;> omega)))
      | with_reducible first | refine Z.drawZ_rule tabOk mixOk ?_ | refine Z.apZ_mk (by kernel_rfl) ?_)
    all_goals (try (conv => whnf))
    all_goals try (show Nat.ble _ _ = true; rfl)
    all_goals first
      | ((refine Z.rnd_rw 7 (y.es.map cE) rfl rfl ?_ ?_); (focus (exact Z.lay_copy (by simp) (Nat.le_min.2 ⟨by simp, by simp⟩) (fun _ => rfl))); ((refine rnd_fzr 26 5 ((qs.take (i + 1)).map cQ ++ (qs.drop (i + 1)).map cQf) rfl rfl rfl (rows_mid hy ⟨?_, ?_, ?_, ?_, trivial⟩) ?_); (focus (first | exact Z.fzC.ogsl rfl (by simp only [List.length_map, Nat.zero_add]) (fun _ => rfl))); (focus (first | exact Z.fzC.refl _)); (focus (first | exact Z.fzC.refl _)); (focus (first | exact Z.fzC.refl _)); ((refine Z.rndK ((i + 1)) (fun s => [0, 1, 2, 3, 4, 5]) rfl rfl rfl rfl ?_ ?_ ?_ ?_); (focus (repeat' (first | exact trivial | exact rfl | apply And.intro))); (focus (repeat' (first | exact trivial | (intro b hb; cases hb; rfl) | exact Z.blk_sub rfl rfl (Z.ren_app (ren_map fun _ => rfl) (ren_map fun _ => rfl)) | apply And.intro))); (focus (((try dsimp only); omega))); ((try dsimp only); omega))))
  have hiq : i = qs.length := by omega
  subst hiq
  repeat' ((conv => whnf); first
    | with_reducible first | refine spB_t ?_
    | with_reducible first | refine spB_no (by decide) ?_
    | (with_reducible refine spB_dec ?_ ?_ <;> intro _ <;> (try (exfalso; first | contradiction | omega | (rename_i hz; refine hz ?_; simp; done) | (rename_i hz; simp at hz; done) | (simp only [LN] at *; omega))))
    | (with_reducible refine spB_beq ?_ ?_ <;> intro _ <;> (try (exfalso; first | contradiction | omega | (rename_i hz; refine hz ?_; simp; done) | (rename_i hz; simp at hz; done) | (simp only [LN] at *; omega))))
    | ((with_reducible refine ixN_mk (k) ?_ ?_ ?_); (focus (first | rfl)); (focus ((try simp only [LN] at *) <;> omega)))
    | ((with_reducible refine ixN_mk (0) ?_ ?_ ?_); (focus (first | rfl)); (focus ((try simp only [LN] at *) <;> omega)))
    | ((with_reducible refine rowN_mk (cQ x) ?_ ?_); (focus (exact rows_done hx)))
    | with_reducible first | refine Z.rowN_known he0 ?_
    | ((with_reducible refine Z.slN_lo 1 ?_ ?_ ?_); (focus rfl); (focus ((try simp only [LN] at *) <;> omega)))
    | with_reducible first | refine Z.callZ_in tabOk 39 Try.f38 _ Try.func38 (by kernel_rfl) rfl rfl rfl ?_ | refine Z.callZ_in tabOk 44 Try.f39 _ Try.func39 (by kernel_rfl) rfl rfl rfl ?_
    | ((first | (with_reducible refine Z.callZ_mk ?_ (cl) ?_)); (focus ((repeat' (first | exact trivial | (refine low_rows (rowsT (q := dropQ x) drop_row) ?_; (simp only [List.length_set, List.length_map]; done)) | exact rfl | apply And.intro)); done)))
    | ((with_reducible apply ex_and); exact rfl)
    | with_reducible first | refine Z.drawZ_rule tabOk mixOk ?_ | refine Z.apZ_mk (by kernel_rfl) ?_)
  all_goals (try (conv => whnf))
  all_goals try (show Nat.ble _ _ = true; rfl)
  all_goals try (exfalso; rename_i hz; cases hz; done)
  all_goals try (exfalso; (try simp only [LN] at *) <;> omega)
  all_goals first
    | (refine Z.retF2 [.agg [.osl 5 0 (qs.map eQ).length (some (qs.map eQ).length), .v (.int .u64 n), .v (.int .u64 d)], .agg [.v (.int .i64 0), .v (.int .i64 0), .v (.int .i64 0), .v (.int .i64 0), .v (.int .u64 0)], .one (.v (.bool false)), .one (.v (.int .i64 0))] (by rfl) ⟨⟨Z.frz_osl (l := (qs.set k (dropQ x))) (f := cQ) (ty := 39) (bx := false) (congrArg (fun r => some (Blk.mk r 4 39 false)) (by exact rowsT (q := dropQ x) drop_row)) (by simp) (fun _ => rfl), rfl, rfl, trivial⟩, ⟨rfl, rfl, rfl, rfl, rfl, trivial⟩, rfl, rfl, trivial⟩)

end Go.Proofs.Ytakfkbciijahgaa
namespace Go.Proofs.Ytakfkbciijahgaa
open Go Go.RowKit Wx
set_option linter.unusedVariables false
set_option linter.unusedSimpArgs false
set_option maxHeartbeats 4000000
theorem take_same_s1 (qs : List Qu) (n d : Int) (k : Nat) (x : Qu) (e : El) (r : List El) (hq : qs.length ≤ 9223372036854775807) (hlq : ∀ q ∈ qs, q.es.length ≤ 9223372036854775807) (huq : ∀ q ∈ qs, ∀ e ∈ q.es, 0 ≤ e.num) (hk : okG qs n d = true) (hx : qs[k]? = some x) (hrd : rdQ x = true) (hes : x.es = e :: r) (hk1 : e.kd = 2) (hb : ¬ e.num ≤ d) (hc : e.num = n) (hn : 0 < n) (hD : allD (qs.set k (heldQ (dropQ x))) = true) : Con Try.prog 18 [.agg [.ro false 4 (qs.map eQ), .v (.int .u64 n), .v (.int .u64 d)], .one (.v (.int .i64 (k : Int)))] (fun rx rK rt => rx = .tup [.agg [.ro true 4 (((qs.set k (heldQ (dropQ x))).map relQ).map eQ), .v (.int .u64 0), .v (.int .u64 n)], .agg [.v (.int .i64 2), .v (.int .i64 0), .v (.int .i64 0), .v (.int .i64 0), .v (.int .u64 n)], .one (.v (.bool true)), .one (.v (.int .i64 0))] ∧ rK = [] ∧ rt = 0) := by
  refine Z.con_ofF tabOk 80 Try.f18 _ Try.func18 (by kernel_rfl) rfl rfl rfl rfl ?_
  have ck := check_con qs n d hq hlq huq
  rw [hk] at ck
  simp only [cond_true] at ck
  obtain ⟨hn1, hn4⟩ := okG_all hk
  have ch := has_con qs n d (k : Int)
  rw [decide_eq_true (p := (0 : Int) ≤ (k : Int) ∧ (k : Int) < (qs.length : Int)) (by have := (List.getElem?_eq_some_iff.1 hx).1; omega)] at ch
  have hkl := (List.getElem?_eq_some_iff.1 hx).1
  have cr := readable_con x
  rw [hrd] at cr
  have hx4 := hn4 x (List.mem_of_getElem? hx)
  have he0 : x.es[0]? = some e := by rw [hes]; rfl
  have hel : 0 < x.es.length := by rw [hes]; simp
  have cd := allD_con (qs.set k (heldQ (dropQ x))) (by simp only [List.length_set, List.length_map]; exact hq)
  have cl := allE_con (qs.set k (heldQ (dropQ x))) (by simp only [List.length_set, List.length_map]; exact hq)
  rw [show (List.all (qs.set k (heldQ (dropQ x))) fun q => q.held || q.ended) = true from hD] at cd
  repeat' ((conv => whnf); first
    | ((with_reducible apply spB_cong); (focus (simp only [beq_self_eq_true, bne_self_eq_false, Bool.true_bne, Bool.false_bne, Bool.bne_true, Bool.bne_false, Bool.true_beq, Bool.false_beq, Bool.not_true, Bool.not_false, Bool.not_not, Int.reduceBEq, Int.reduceBNe, Int.reduceLE, Int.reduceLT, Int.reduceEq, decide_true, decide_false]; rfl)))
    | with_reducible first | refine spB_no (by decide) ?_
    | ((with_reducible refine ixN_mk (k) ?_ ?_ ?_); (focus (first | rfl)); (focus ((try simp only [LN] at *) <;> omega)))
    | with_reducible first | refine Z.rowN_known hx ?_
    | ((with_reducible refine cpyN.mk ?_ ?_ ?_ ?_); (focus (first | (simp; done))); (focus (first | exact one_map2 (fun _ => rfl))); (focus ((try simp only [LN] at *) <;> omega)))
    | with_reducible first | refine Z.callZ_in tabOk 41 Try.f30 _ Try.func30 (by kernel_rfl) rfl rfl rfl ?_
    | ((first | (with_reducible refine Z.callZ_mk ?_ (ck) ?_) | (with_reducible refine Z.callZ_mk ?_ (ch) ?_) | (with_reducible refine Z.callZ_mk ?_ (cr) ?_)); (focus ((repeat' (first | exact trivial | exact rfl | apply And.intro)); done)))
    | ((with_reducible refine Z.mkN_nat ?_ ?_ ?_ ?_); (focus ((try simp only [LN] at *) <;> omega)); (focus ((try simp only [LN] at *) <;> omega)); (focus ((try simp only [LN] at *) <;> omega))))
  all_goals (try (conv => whnf))
  all_goals try (show Nat.ble _ _ = true; rfl)
  all_goals try (exfalso; rename_i hz; cases hz; done)
  all_goals try (exfalso; (try simp only [LN] at *) <;> omega)
  refine Z.loopK tabOk (fun zq : Nat => [(16, .val (.int .i64 (zq : Int)))]) (fun zq : Nat => ([(5, some (Z.Ob.b ⟨(qs.take zq).map cQ ++ (qs.drop zq).map cQf, 4, 39, false⟩))] : Z.Kr)) (fun zq => zq ≤ qs.length) (fun zq => qs.length - zq) 0 6 [(1, _), (2, _), (3, _), (14, _), (15, _)] ⟨rfl, rfl, rfl, rfl, rfl, trivial⟩ [(0, some _), (1, some _), (2, some _), (3, some _), (4, some _)] ⟨rfl, rfl, rfl, rfl, rfl, trivial⟩ ?_ ?_ rfl rfl (Nat.zero_le _) ?_
  · repeat' (first | exact trivial | apply And.intro | exact ⟨_, rfl, Z.Imp.refl _⟩)
  · repeat' (first | exact trivial | (intro b hb; cases hb; refine ⟨_, rfl, ⟨rfl, rfl, rfl⟩, Z.imp_eq ?_⟩; first | rfl | exact Z.lay_copy (by simp) (Nat.le_min.2 ⟨by simp, by simp⟩) (fun _ => rfl); done) | apply And.intro)
  rintro i HINV
  dsimp only at HINV ⊢
  by_cases hi : i < qs.length
  · obtain ⟨y, hy⟩ := getElem?_some' (xs := qs) (i := i) hi
    have hy4 := hn4 y (List.mem_of_getElem? hy)
    repeat' ((conv => whnf); first
      | (with_reducible refine spB_dec ?_ ?_ <;> intro _ <;> (try (exfalso; first | contradiction | omega | (rename_i hz; refine hz ?_; simp; done) | (rename_i hz; simp at hz; done) | (simp only [LN] at *; omega))))
      | ((with_reducible refine rowN_mk (cQf y) ?_ ?_); (focus (exact rows_at hy)))
      | ((with_reducible apply rowN_mk); (focus (exact rows_set (by simp only [List.length_append, List.length_map, List.length_take, List.length_drop]; omega))))
      | ((with_reducible apply ixN_litp); (focus (exact rfl)); (focus ((try simp only [LN] at *) <;> omega)))
      | ((with_reducible refine cpyN.mk ?_ ?_ ?_ ?_); (focus (first | (simp; done))); (focus (first | exact one_map2 (fun _ => rfl))); (focus ((try simp only [LN] at *) <;> omega)))
      | with_reducible refine wr_i64 (by first | omega | (simp only [LN] at *; omega)) ?_
      | ((with_reducible refine Z.mkN_nat ?_ ?_ ?_ ?_); (focus ((try simp only [LN] at *) <;> omega)); (focus ((try simp only [LN] at *) <;> omega)); (focus ((try simp only [LN] at *) <;> omega)))
      | with_reducible first | refine Z.drawZ_rule tabOk mixOk ?_ | refine Z.apZ_mk (by kernel_rfl) ?_)
    all_goals (try (conv => whnf))
    all_goals try (show Nat.ble _ _ = true; rfl)
    all_goals first
      | ((refine Z.rnd_rw 7 (y.es.map cE) rfl rfl ?_ ?_); (focus (exact Z.lay_copy (by simp) (Nat.le_min.2 ⟨by simp, by simp⟩) (fun _ => rfl))); ((refine rnd_fzr 26 5 ((qs.take (i + 1)).map cQ ++ (qs.drop (i + 1)).map cQf) rfl rfl rfl (rows_mid hy ⟨?_, ?_, ?_, ?_, trivial⟩) ?_); (focus (first | exact Z.fzC.ogsl rfl (by simp only [List.length_map, Nat.zero_add]) (fun _ => rfl))); (focus (first | exact Z.fzC.refl _)); (focus (first | exact Z.fzC.refl _)); (focus (first | exact Z.fzC.refl _)); ((refine Z.rndK ((i + 1)) (fun s => [0, 1, 2, 3, 4, 5]) rfl rfl rfl rfl ?_ ?_ ?_ ?_); (focus (repeat' (first | exact trivial | exact rfl | apply And.intro))); (focus (repeat' (first | exact trivial | (intro b hb; cases hb; rfl) | exact Z.blk_sub rfl rfl (Z.ren_app (ren_map fun _ => rfl) (ren_map fun _ => rfl)) | apply And.intro))); (focus (((try dsimp only); omega))); ((try dsimp only); omega))))
  have hiq : i = qs.length := by omega
  subst hiq
  repeat' ((conv => whnf); first
    | with_reducible first | refine spB_t ?_
    | with_reducible first | refine spB_no (by decide) ?_
    | (with_reducible refine spB_dec ?_ ?_ <;> intro _ <;> (try (exfalso; first | contradiction | omega | (rename_i hz; refine hz ?_; simp; done) | (rename_i hz; simp at hz; done) | (simp only [LN] at *; omega))))
    | (with_reducible refine spB_beq ?_ ?_ <;> intro _ <;> (try (exfalso; first | contradiction | omega | (rename_i hz; refine hz ?_; simp; done) | (rename_i hz; simp at hz; done) | (simp only [LN] at *; omega))))
    | ((with_reducible refine ixN_mk (k) ?_ ?_ ?_); (focus (first | rfl)); (focus ((try simp only [LN] at *) <;> omega)))
    | ((with_reducible refine ixN_mk (0) ?_ ?_ ?_); (focus (first | rfl)); (focus ((try simp only [LN] at *) <;> omega)))
    | ((with_reducible refine rowN_mk (cQ x) ?_ ?_); (focus (exact rows_done hx)))
    | ((with_reducible apply rowN_mk); (focus (exact rows_set (by rw [rwB_len]; exact hkl))))
    | with_reducible first | refine Z.rowN_known he0 ?_
    | ((with_reducible refine Z.slN_lo 1 ?_ ?_ ?_); (focus rfl); (focus ((try simp only [LN] at *) <;> omega)))
    | with_reducible first | refine Z.callZ_in tabOk 39 Try.f38 _ Try.func38 (by kernel_rfl) rfl rfl rfl ?_ | refine Z.callZ_in tabOk 44 Try.f39 _ Try.func39 (by kernel_rfl) rfl rfl rfl ?_ | refine Z.callZ_in tabOk 19 Try.f52 _ Try.func52 (by kernel_rfl) rfl rfl rfl ?_
    | ((first | (with_reducible refine Z.callZ_mk ?_ (cd) ?_)); (focus ((repeat' (first | exact trivial | (refine low_rows (rowsT2 (q := heldQ (dropQ x)) drop_rowH) ?_; (simp only [List.length_set, List.length_map]; done)) | exact rfl | apply And.intro)); done)))
    | ((with_reducible apply ex_and); exact rfl))
  all_goals (try (conv => whnf))
  all_goals try (show Nat.ble _ _ = true; rfl)
  all_goals try (exfalso; rename_i hz; cases hz; done)
  all_goals try (exfalso; (try simp only [LN] at *) <;> omega)
  refine Z.loopK tabOk (fun zq : Nat => [(8, .val (.int .i64 (zq : Int)))]) (fun zq : Nat => ([(5, some (Z.Ob.b ⟨(relI (qs.set k (heldQ (dropQ x))) zq).map cQ, 4, 39, false⟩))] : Z.Kr)) (fun zq => zq ≤ qs.length) (fun zq => qs.length - zq) 0 10 [(0, _), (7, _)] ⟨rfl, rfl, trivial⟩ [(0, some _), (1, some _), (2, some _), (3, some _), (4, some _), (6, some _), (7, some _), (8, some _), (9, some _)] ⟨rfl, rfl, rfl, rfl, rfl, rfl, rfl, rfl, rfl, trivial⟩ ?_ ?_ rfl rfl (Nat.zero_le _) ?_
  · repeat' (first | exact trivial | apply And.intro | exact ⟨_, rfl, Z.Imp.refl _⟩)
  · repeat' (first | exact trivial | (intro b hb; cases hb; refine ⟨_, rfl, ⟨rfl, rfl, rfl⟩, Z.imp_eq ?_⟩; first | exact (rowsT2 (q := heldQ (dropQ x)) drop_rowH).trans (by rw [relI_0]) | exact ((rowsT2 (q := heldQ (dropQ x)) drop_rowH).trans (by rw [relI_0])).symm; done) | apply And.intro)
  rintro i HINV
  dsimp only at HINV ⊢
  by_cases hi : i < qs.length
  · obtain ⟨y, hy⟩ := getElem?_some' (xs := (qs.set k (heldQ (dropQ x)))) (i := i) (by simp only [List.length_set, List.length_map]; exact hi)
    repeat' ((conv => whnf); first
      | (with_reducible refine spB_dec ?_ ?_ <;> intro _ <;> (try (exfalso; first | contradiction | omega | (rename_i hz; refine hz ?_; simp; done) | (rename_i hz; simp at hz; done) | (simp only [LN] at *; omega))))
      | ((with_reducible refine rowN_mk (cQ y) ?_ ?_); (focus (exact relI_row hy)))
      | ((with_reducible apply ixN_litp); (focus (exact rfl)); (focus ((try simp only [LN] at *) <;> omega)))
      | with_reducible refine wr_i64 (by first | omega | (simp only [LN] at *; omega)) ?_)
    all_goals (try (conv => whnf))
    all_goals try (show Nat.ble _ _ = true; rfl)
    all_goals first
      | ((refine Z.rndK ((i + 1)) (fun s => [0, 1, 2, 3, 4, 5, 6, 7, 8, 9]) rfl rfl rfl rfl ?_ ?_ ?_ ?_); (focus (repeat' (first | exact trivial | exact rfl | apply And.intro))); (focus (repeat' (first | exact trivial | exact relI_blk rfl hy rfl | (intro b hb; cases hb; rfl) | apply And.intro))); (focus (((try dsimp only); omega))); ((try dsimp only); omega))
  have hiq : i = qs.length := by omega
  subst hiq
  repeat' ((conv => whnf); first
    | (with_reducible refine spB_dec ?_ ?_ <;> intro _ <;> (try (exfalso; first | contradiction | omega | (rename_i hz; refine hz ?_; simp; done) | (rename_i hz; simp at hz; done) | (simp only [LN] at *; omega))))
    | ((with_reducible apply ex_and); exact rfl)
    | with_reducible first | refine Z.drawZ_rule tabOk mixOk ?_ | refine Z.apZ_mk (by kernel_rfl) ?_)
  all_goals (try (conv => whnf))
  all_goals try (show Nat.ble _ _ = true; rfl)
  all_goals first
    | (refine Z.retF2 [.agg [.osl 5 0 (qs.map eQ).length (some (qs.map eQ).length), .v (.int .u64 0), .v (.int .u64 n)], .agg [.v (.int .i64 2), .v (.int .i64 0), .v (.int .i64 0), .v (.int .i64 0), .v (.int .u64 n)], .one (.v (.bool true)), .one (.v (.int .i64 0))] (by rfl) ⟨⟨Z.frz_osl (l := ((qs.set k (heldQ (dropQ x))).map relQ)) (f := cQ) (ty := 39) (bx := false) (congrArg (fun r => some (Blk.mk r 4 39 false)) (by exact relI_end (by simp))) (by simp) (fun _ => rfl), rfl, rfl, trivial⟩, ⟨rfl, rfl, rfl, rfl, rfl, trivial⟩, rfl, rfl, trivial⟩)

theorem take_same_s3 (qs : List Qu) (n d : Int) (k : Nat) (x : Qu) (e : El) (r : List El) (hq : qs.length ≤ 9223372036854775807) (hlq : ∀ q ∈ qs, q.es.length ≤ 9223372036854775807) (huq : ∀ q ∈ qs, ∀ e ∈ q.es, 0 ≤ e.num) (hk : okG qs n d = true) (hx : qs[k]? = some x) (hrd : rdQ x = true) (hes : x.es = e :: r) (hk1 : e.kd = 2) (hb : ¬ e.num ≤ d) (hc : e.num = n) (hn : 0 < n) (hD : allD (qs.set k (heldQ (dropQ x))) = false) (hE : allE (qs.set k (heldQ (dropQ x))) = false) : Con Try.prog 18 [.agg [.ro false 4 (qs.map eQ), .v (.int .u64 n), .v (.int .u64 d)], .one (.v (.int .i64 (k : Int)))] (fun rx rK rt => rx = .tup [.agg [.ro true 4 ((qs.set k (heldQ (dropQ x))).map eQ), .v (.int .u64 n), .v (.int .u64 d)], .agg [.v (.int .i64 0), .v (.int .i64 0), .v (.int .i64 0), .v (.int .i64 0), .v (.int .u64 0)], .one (.v (.bool false)), .one (.v (.int .i64 0))] ∧ rK = [] ∧ rt = 0) := by
  refine Z.con_ofF tabOk 80 Try.f18 _ Try.func18 (by kernel_rfl) rfl rfl rfl rfl ?_
  have ck := check_con qs n d hq hlq huq
  rw [hk] at ck
  simp only [cond_true] at ck
  obtain ⟨hn1, hn4⟩ := okG_all hk
  have ch := has_con qs n d (k : Int)
  rw [decide_eq_true (p := (0 : Int) ≤ (k : Int) ∧ (k : Int) < (qs.length : Int)) (by have := (List.getElem?_eq_some_iff.1 hx).1; omega)] at ch
  have hkl := (List.getElem?_eq_some_iff.1 hx).1
  have cr := readable_con x
  rw [hrd] at cr
  have hx4 := hn4 x (List.mem_of_getElem? hx)
  have he0 : x.es[0]? = some e := by rw [hes]; rfl
  have hel : 0 < x.es.length := by rw [hes]; simp
  have cd := allD_con (qs.set k (heldQ (dropQ x))) (by simp only [List.length_set, List.length_map]; exact hq)
  have cl := allE_con (qs.set k (heldQ (dropQ x))) (by simp only [List.length_set, List.length_map]; exact hq)
  rw [show (List.all (qs.set k (heldQ (dropQ x))) fun q => q.held || q.ended) = false from hD] at cd
  rw [show (List.all (qs.set k (heldQ (dropQ x))) fun q => q.ended) = false from hE] at cl
  repeat' ((conv => whnf); first
    | ((with_reducible apply spB_cong); (focus (simp only [beq_self_eq_true, bne_self_eq_false, Bool.true_bne, Bool.false_bne, Bool.bne_true, Bool.bne_false, Bool.true_beq, Bool.false_beq, Bool.not_true, Bool.not_false, Bool.not_not, Int.reduceBEq, Int.reduceBNe, Int.reduceLE, Int.reduceLT, Int.reduceEq, decide_true, decide_false]; rfl)))
    | with_reducible first | refine spB_no (by decide) ?_
    | ((with_reducible refine ixN_mk (k) ?_ ?_ ?_); (focus (first | rfl)); (focus ((try simp only [LN] at *) <;> omega)))
    | with_reducible first | refine Z.rowN_known hx ?_
    | ((with_reducible refine cpyN.mk ?_ ?_ ?_ ?_); (focus (first | (simp; done))); (focus (first | exact one_map2 (fun _ => rfl))); (focus ((try simp only [LN] at *) <;> omega)))
    | with_reducible first | refine Z.callZ_in tabOk 41 Try.f30 _ Try.func30 (by kernel_rfl) rfl rfl rfl ?_
    | ((first | (with_reducible refine Z.callZ_mk ?_ (ck) ?_) | (with_reducible refine Z.callZ_mk ?_ (ch) ?_) | (with_reducible refine Z.callZ_mk ?_ (cr) ?_)); (focus ((repeat' (first | exact trivial | exact rfl | apply And.intro)); done)))
    | ((with_reducible refine Z.mkN_nat ?_ ?_ ?_ ?_); (focus ((try simp only [LN] at *) <;> omega)); (focus ((try simp only [LN] at *) <;> omega)); (focus ((try simp only [LN] at *) <;> omega))))
  all_goals (try (conv => whnf))
  all_goals try (show Nat.ble _ _ = true; rfl)
  all_goals try (exfalso; rename_i hz; cases hz; done)
  all_goals try (exfalso; (try simp only [LN] at *) <;> omega)
  refine Z.loopK tabOk (fun zq : Nat => [(16, .val (.int .i64 (zq : Int)))]) (fun zq : Nat => ([(5, some (Z.Ob.b ⟨(qs.take zq).map cQ ++ (qs.drop zq).map cQf, 4, 39, false⟩))] : Z.Kr)) (fun zq => zq ≤ qs.length) (fun zq => qs.length - zq) 0 6 [(1, _), (2, _), (3, _), (14, _), (15, _)] ⟨rfl, rfl, rfl, rfl, rfl, trivial⟩ [(0, some _), (1, some _), (2, some _), (3, some _), (4, some _)] ⟨rfl, rfl, rfl, rfl, rfl, trivial⟩ ?_ ?_ rfl rfl (Nat.zero_le _) ?_
  · repeat' (first | exact trivial | apply And.intro | exact ⟨_, rfl, Z.Imp.refl _⟩)
  · repeat' (first | exact trivial | (intro b hb; cases hb; refine ⟨_, rfl, ⟨rfl, rfl, rfl⟩, Z.imp_eq ?_⟩; first | rfl | exact Z.lay_copy (by simp) (Nat.le_min.2 ⟨by simp, by simp⟩) (fun _ => rfl); done) | apply And.intro)
  rintro i HINV
  dsimp only at HINV ⊢
  by_cases hi : i < qs.length
  · obtain ⟨y, hy⟩ := getElem?_some' (xs := qs) (i := i) hi
    have hy4 := hn4 y (List.mem_of_getElem? hy)
    repeat' ((conv => whnf); first
      | (with_reducible refine spB_dec ?_ ?_ <;> intro _ <;> (try (exfalso; first | contradiction | omega | (rename_i hz; refine hz ?_; simp; done) | (rename_i hz; simp at hz; done) | (simp only [LN] at *; omega))))
      | ((with_reducible refine rowN_mk (cQf y) ?_ ?_); (focus (exact rows_at hy)))
      | ((with_reducible apply rowN_mk); (focus (exact rows_set (by simp only [List.length_append, List.length_map, List.length_take, List.length_drop]; omega))))
      | ((with_reducible apply ixN_litp); (focus (exact rfl)); (focus ((try simp only [LN] at *) <;> omega)))
      | ((with_reducible refine cpyN.mk ?_ ?_ ?_ ?_); (focus (first | (simp; done))); (focus (first | exact one_map2 (fun _ => rfl))); (focus ((try simp only [LN] at *) <;> omega)))
      | with_reducible refine wr_i64 (by first | omega | (simp only [LN] at *; omega)) ?_
      | ((with_reducible refine Z.mkN_nat ?_ ?_ ?_ ?_); (focus ((try simp only [LN] at *) <;> omega)); (focus ((try simp only [LN] at *) <;> omega)); (focus ((try simp only [LN] at *) <;> omega)))
      | with_reducible first | refine Z.drawZ_rule tabOk mixOk ?_ | refine Z.apZ_mk (by kernel_rfl) ?_)
    all_goals (try (conv => whnf))
    all_goals try (show Nat.ble _ _ = true; rfl)
    all_goals first
      | ((refine Z.rnd_rw 7 (y.es.map cE) rfl rfl ?_ ?_); (focus (exact Z.lay_copy (by simp) (Nat.le_min.2 ⟨by simp, by simp⟩) (fun _ => rfl))); ((refine rnd_fzr 26 5 ((qs.take (i + 1)).map cQ ++ (qs.drop (i + 1)).map cQf) rfl rfl rfl (rows_mid hy ⟨?_, ?_, ?_, ?_, trivial⟩) ?_); (focus (first | exact Z.fzC.ogsl rfl (by simp only [List.length_map, Nat.zero_add]) (fun _ => rfl))); (focus (first | exact Z.fzC.refl _)); (focus (first | exact Z.fzC.refl _)); (focus (first | exact Z.fzC.refl _)); ((refine Z.rndK ((i + 1)) (fun s => [0, 1, 2, 3, 4, 5]) rfl rfl rfl rfl ?_ ?_ ?_ ?_); (focus (repeat' (first | exact trivial | exact rfl | apply And.intro))); (focus (repeat' (first | exact trivial | (intro b hb; cases hb; rfl) | exact Z.blk_sub rfl rfl (Z.ren_app (ren_map fun _ => rfl) (ren_map fun _ => rfl)) | apply And.intro))); (focus (((try dsimp only); omega))); ((try dsimp only); omega))))
  have hiq : i = qs.length := by omega
  subst hiq
  repeat' ((conv => whnf); first
    | with_reducible first | refine spB_t ?_
    | with_reducible first | refine spB_no (by decide) ?_
    | (with_reducible refine spB_dec ?_ ?_ <;> intro _ <;> (try (exfalso; first | contradiction | omega | (rename_i hz; refine hz ?_; simp; done) | (rename_i hz; simp at hz; done) | (simp only [LN] at *; omega))))
    | (with_reducible refine spB_beq ?_ ?_ <;> intro _ <;> (try (exfalso; first | contradiction | omega | (rename_i hz; refine hz ?_; simp; done) | (rename_i hz; simp at hz; done) | (simp only [LN] at *; omega))))
    | ((with_reducible refine ixN_mk (k) ?_ ?_ ?_); (focus (first | rfl)); (focus ((try simp only [LN] at *) <;> omega)))
    | ((with_reducible refine ixN_mk (0) ?_ ?_ ?_); (focus (first | rfl)); (focus ((try simp only [LN] at *) <;> omega)))
    | ((with_reducible refine rowN_mk (cQ x) ?_ ?_); (focus (exact rows_done hx)))
    | ((with_reducible apply rowN_mk); (focus (exact rows_set (by rw [rwB_len]; exact hkl))))
    | with_reducible first | refine Z.rowN_known he0 ?_
    | ((with_reducible refine Z.slN_lo 1 ?_ ?_ ?_); (focus rfl); (focus ((try simp only [LN] at *) <;> omega)))
    | with_reducible first | refine Z.callZ_in tabOk 39 Try.f38 _ Try.func38 (by kernel_rfl) rfl rfl rfl ?_ | refine Z.callZ_in tabOk 44 Try.f39 _ Try.func39 (by kernel_rfl) rfl rfl rfl ?_
    | ((first | (with_reducible refine Z.callZ_mk ?_ (cd) ?_)); (focus ((repeat' (first | exact trivial | (refine low_rows (rowsT2 (q := heldQ (dropQ x)) drop_rowH) ?_; (simp only [List.length_set, List.length_map]; done)) | exact rfl | apply And.intro)); done)))
    | ((first | (with_reducible refine Z.callZ_mk ?_ (cl) ?_)); (focus ((repeat' (first | exact trivial | (refine low_rows (rowsT2 (q := heldQ (dropQ x)) drop_rowH) ?_; (simp only [List.length_set, List.length_map]; done)) | exact rfl | apply And.intro)); done)))
    | ((with_reducible apply ex_and); exact rfl)
    | with_reducible first | refine Z.drawZ_rule tabOk mixOk ?_ | refine Z.apZ_mk (by kernel_rfl) ?_)
  all_goals (try (conv => whnf))
  all_goals try (show Nat.ble _ _ = true; rfl)
  all_goals try (exfalso; rename_i hz; cases hz; done)
  all_goals try (exfalso; (try simp only [LN] at *) <;> omega)
  all_goals first
    | (refine Z.retF2 [.agg [.osl 5 0 (qs.map eQ).length (some (qs.map eQ).length), .v (.int .u64 n), .v (.int .u64 d)], .agg [.v (.int .i64 0), .v (.int .i64 0), .v (.int .i64 0), .v (.int .i64 0), .v (.int .u64 0)], .one (.v (.bool false)), .one (.v (.int .i64 0))] (by rfl) ⟨⟨Z.frz_osl (l := (qs.set k (heldQ (dropQ x)))) (f := cQ) (ty := 39) (bx := false) (congrArg (fun r => some (Blk.mk r 4 39 false)) (by exact rowsT2 (q := heldQ (dropQ x)) drop_rowH)) (by simp) (fun _ => rfl), rfl, rfl, trivial⟩, ⟨rfl, rfl, rfl, rfl, rfl, trivial⟩, rfl, rfl, trivial⟩)

end Go.Proofs.Ytakfkbciijahgaa
namespace Go.Proofs.Ytakfkbciijahgaa
open Go Go.RowKit Wx
set_option linter.unusedVariables false
set_option linter.unusedSimpArgs false
set_option maxHeartbeats 4000000
theorem take_more_s1 (qs : List Qu) (n d : Int) (k : Nat) (x : Qu) (e : El) (r : List El) (hq : qs.length ≤ 9223372036854775807) (hlq : ∀ q ∈ qs, q.es.length ≤ 9223372036854775807) (huq : ∀ q ∈ qs, ∀ e ∈ q.es, 0 ≤ e.num) (hk : okG qs n d = true) (hx : qs[k]? = some x) (hrd : rdQ x = true) (hes : x.es = e :: r) (hk1 : e.kd = 2) (hb : ¬ e.num ≤ d) (hc : n < e.num) (hn : 0 < e.num) (hD : allD ((qs.map relQ).set k (heldQ (dropQ x))) = true) : Con Try.prog 18 [.agg [.ro false 4 (qs.map eQ), .v (.int .u64 n), .v (.int .u64 d)], .one (.v (.int .i64 (k : Int)))] (fun rx rK rt => rx = .tup [.agg [.ro true 4 ((((qs.map relQ).set k (heldQ (dropQ x))).map relQ).map eQ), .v (.int .u64 0), .v (.int .u64 e.num)], .agg [.v (.int .i64 2), .v (.int .i64 0), .v (.int .i64 0), .v (.int .i64 0), .v (.int .u64 e.num)], .one (.v (.bool true)), .one (.v (.int .i64 0))] ∧ rK = [] ∧ rt = 0) := by
  refine Z.con_ofF tabOk 80 Try.f18 _ Try.func18 (by kernel_rfl) rfl rfl rfl rfl ?_
  have ck := check_con qs n d hq hlq huq
  rw [hk] at ck
  simp only [cond_true] at ck
  obtain ⟨hn1, hn4⟩ := okG_all hk
  have ch := has_con qs n d (k : Int)
  rw [decide_eq_true (p := (0 : Int) ≤ (k : Int) ∧ (k : Int) < (qs.length : Int)) (by have := (List.getElem?_eq_some_iff.1 hx).1; omega)] at ch
  have hkl := (List.getElem?_eq_some_iff.1 hx).1
  have cr := readable_con x
  rw [hrd] at cr
  have hx4 := hn4 x (List.mem_of_getElem? hx)
  have he0 : x.es[0]? = some e := by rw [hes]; rfl
  have hel : 0 < x.es.length := by rw [hes]; simp
  have cd := allD_con ((qs.map relQ).set k (heldQ (dropQ x))) (by simp only [List.length_set, List.length_map]; exact hq)
  have cl := allE_con ((qs.map relQ).set k (heldQ (dropQ x))) (by simp only [List.length_set, List.length_map]; exact hq)
  rw [show (List.all ((qs.map relQ).set k (heldQ (dropQ x))) fun q => q.held || q.ended) = true from hD] at cd
  repeat' ((conv => whnf); first
    | ((with_reducible apply spB_cong); (focus (simp only [beq_self_eq_true, bne_self_eq_false, Bool.true_bne, Bool.false_bne, Bool.bne_true, Bool.bne_false, Bool.true_beq, Bool.false_beq, Bool.not_true, Bool.not_false, Bool.not_not, Int.reduceBEq, Int.reduceBNe, Int.reduceLE, Int.reduceLT, Int.reduceEq, decide_true, decide_false]; rfl)))
    | with_reducible first | refine spB_no (by decide) ?_
    | ((with_reducible refine ixN_mk (k) ?_ ?_ ?_); (focus (first | rfl)); (focus ((try simp only [LN] at *) <;> omega)))
    | with_reducible first | refine Z.rowN_known hx ?_
    | ((with_reducible refine cpyN.mk ?_ ?_ ?_ ?_); (focus (first | (simp; done))); (focus (first | exact one_map2 (fun _ => rfl))); (focus ((try simp only [LN] at *) <;> omega)))
    | with_reducible first | refine Z.callZ_in tabOk 41 Try.f30 _ Try.func30 (by kernel_rfl) rfl rfl rfl ?_
    | ((first | (with_reducible refine Z.callZ_mk ?_ (ck) ?_) | (with_reducible refine Z.callZ_mk ?_ (ch) ?_) | (with_reducible refine Z.callZ_mk ?_ (cr) ?_)); (focus ((repeat' (first | exact trivial | exact rfl | apply And.intro)); done)))
    | ((with_reducible refine Z.mkN_nat ?_ ?_ ?_ ?_); (focus ((try simp only [LN] at *) <;> omega)); (focus ((try simp only [LN] at *) <;> omega)); (focus ((try simp only [LN] at *) <;> omega))))
  all_goals (try (conv => whnf))
  all_goals try (show Nat.ble _ _ = true; rfl)
  all_goals try (exfalso; rename_i hz; cases hz; done)
  all_goals try (exfalso; (try simp only [LN] at *) <;> omega)
  refine Z.loopK tabOk (fun zq : Nat => [(16, .val (.int .i64 (zq : Int)))]) (fun zq : Nat => ([(5, some (Z.Ob.b ⟨(qs.take zq).map cQ ++ (qs.drop zq).map cQf, 4, 39, false⟩))] : Z.Kr)) (fun zq => zq ≤ qs.length) (fun zq => qs.length - zq) 0 6 [(1, _), (2, _), (3, _), (14, _), (15, _)] ⟨rfl, rfl, rfl, rfl, rfl, trivial⟩ [(0, some _), (1, some _), (2, some _), (3, some _), (4, some _)] ⟨rfl, rfl, rfl, rfl, rfl, trivial⟩ ?_ ?_ rfl rfl (Nat.zero_le _) ?_
  · repeat' (first | exact trivial | apply And.intro | exact ⟨_, rfl, Z.Imp.refl _⟩)
  · repeat' (first | exact trivial | (intro b hb; cases hb; refine ⟨_, rfl, ⟨rfl, rfl, rfl⟩, Z.imp_eq ?_⟩; first | rfl | exact Z.lay_copy (by simp) (Nat.le_min.2 ⟨by simp, by simp⟩) (fun _ => rfl); done) | apply And.intro)
  rintro i HINV
  dsimp only at HINV ⊢
  by_cases hi : i < qs.length
  · obtain ⟨y, hy⟩ := getElem?_some' (xs := qs) (i := i) hi
    have hy4 := hn4 y (List.mem_of_getElem? hy)
    repeat' ((conv => whnf); first
      | (with_reducible refine spB_dec ?_ ?_ <;> intro _ <;> (try (exfalso; first | contradiction | omega | (rename_i hz; refine hz ?_; simp; done) | (rename_i hz; simp at hz; done) | (simp only [LN] at *; omega))))
      | ((with_reducible refine rowN_mk (cQf y) ?_ ?_); (focus (exact rows_at hy)))
      | ((with_reducible apply rowN_mk); (focus (exact rows_set (by simp only [List.length_append, List.length_map, List.length_take, List.length_drop]; omega))))
      | ((with_reducible apply ixN_litp); (focus (exact rfl)); (focus ((try simp only [LN] at *) <;> omega)))
      | ((with_reducible refine cpyN.mk ?_ ?_ ?_ ?_); (focus (first | (simp; done))); (focus (first | exact one_map2 (fun _ => rfl))); (focus ((try simp only [LN] at *) <;> omega)))
      | with_reducible refine wr_i64 (by first | omega | (simp only [LN] at *; omega)) ?_
      | ((with_reducible refine Z.mkN_nat ?_ ?_ ?_ ?_); (focus ((try simp only [LN] at *) <;> omega)); (focus ((try simp only [LN] at *) <;> omega)); (focus ((try simp only [LN] at *) <;> omega)))
      | with_reducible first | refine Z.drawZ_rule tabOk mixOk ?_ | refine Z.apZ_mk (by kernel_rfl) ?_)
    all_goals (try (conv => whnf))
    all_goals try (show Nat.ble _ _ = true; rfl)
    all_goals first
      | ((refine Z.rnd_rw 7 (y.es.map cE) rfl rfl ?_ ?_); (focus (exact Z.lay_copy (by simp) (Nat.le_min.2 ⟨by simp, by simp⟩) (fun _ => rfl))); ((refine rnd_fzr 26 5 ((qs.take (i + 1)).map cQ ++ (qs.drop (i + 1)).map cQf) rfl rfl rfl (rows_mid hy ⟨?_, ?_, ?_, ?_, trivial⟩) ?_); (focus (first | exact Z.fzC.ogsl rfl (by simp only [List.length_map, Nat.zero_add]) (fun _ => rfl))); (focus (first | exact Z.fzC.refl _)); (focus (first | exact Z.fzC.refl _)); (focus (first | exact Z.fzC.refl _)); ((refine Z.rndK ((i + 1)) (fun s => [0, 1, 2, 3, 4, 5]) rfl rfl rfl rfl ?_ ?_ ?_ ?_); (focus (repeat' (first | exact trivial | exact rfl | apply And.intro))); (focus (repeat' (first | exact trivial | (intro b hb; cases hb; rfl) | exact Z.blk_sub rfl rfl (Z.ren_app (ren_map fun _ => rfl) (ren_map fun _ => rfl)) | apply And.intro))); (focus (((try dsimp only); omega))); ((try dsimp only); omega))))
  have hiq : i = qs.length := by omega
  subst hiq
  repeat' ((conv => whnf); first
    | with_reducible first | refine spB_no (by decide) ?_
    | (with_reducible refine spB_dec ?_ ?_ <;> intro _ <;> (try (exfalso; first | contradiction | omega | (rename_i hz; refine hz ?_; simp; done) | (rename_i hz; simp at hz; done) | (simp only [LN] at *; omega))))
    | (with_reducible refine spB_beq ?_ ?_ <;> intro _ <;> (try (exfalso; first | contradiction | omega | (rename_i hz; refine hz ?_; simp; done) | (rename_i hz; simp at hz; done) | (simp only [LN] at *; omega))))
    | ((with_reducible refine ixN_mk (k) ?_ ?_ ?_); (focus (first | rfl)); (focus ((try simp only [LN] at *) <;> omega)))
    | ((with_reducible refine ixN_mk (0) ?_ ?_ ?_); (focus (first | rfl)); (focus ((try simp only [LN] at *) <;> omega)))
    | ((with_reducible refine rowN_mk (cQ x) ?_ ?_); (focus (exact rows_done hx)))
    | with_reducible first | refine Z.rowN_known he0 ?_
    | ((with_reducible refine Z.slN_lo 1 ?_ ?_ ?_); (focus rfl); (focus ((try simp only [LN] at *) <;> omega)))
    | with_reducible first | refine Z.callZ_in tabOk 39 Try.f38 _ Try.func38 (by kernel_rfl) rfl rfl rfl ?_ | refine Z.callZ_in tabOk 19 Try.f52 _ Try.func52 (by kernel_rfl) rfl rfl rfl ?_
    | ((with_reducible apply ex_and); exact rfl))
  all_goals (try (conv => whnf))
  all_goals try (show Nat.ble _ _ = true; rfl)
  all_goals try (exfalso; rename_i hz; cases hz; done)
  all_goals try (exfalso; (try simp only [LN] at *) <;> omega)
  refine Z.loopK tabOk (fun zq : Nat => [(8, .val (.int .i64 (zq : Int)))]) (fun zq : Nat => ([(5, some (Z.Ob.b ⟨(relI (qs.set k (dropQ x)) zq).map cQ, 4, 39, false⟩))] : Z.Kr)) (fun zq => zq ≤ qs.length) (fun zq => qs.length - zq) 0 8 [(0, _), (7, _)] ⟨rfl, rfl, trivial⟩ [(0, some _), (1, some _), (2, some _), (3, some _), (4, some _), (6, some _), (7, some _)] ⟨rfl, rfl, rfl, rfl, rfl, rfl, rfl, trivial⟩ ?_ ?_ rfl rfl (Nat.zero_le _) ?_
  · repeat' (first | exact trivial | apply And.intro | exact ⟨_, rfl, Z.Imp.refl _⟩)
  · repeat' (first | exact trivial | (intro b hb; cases hb; refine ⟨_, rfl, ⟨rfl, rfl, rfl⟩, Z.imp_eq ?_⟩; first | exact (rowsT (q := dropQ x) drop_row).trans (by rw [relI_0]) | exact ((rowsT (q := dropQ x) drop_row).trans (by rw [relI_0])).symm; done) | apply And.intro)
  rintro i HINV
  dsimp only at HINV ⊢
  by_cases hi : i < qs.length
  · obtain ⟨y, hy⟩ := getElem?_some' (xs := (qs.set k (dropQ x))) (i := i) (by simp only [List.length_set, List.length_map]; exact hi)
    repeat' ((conv => whnf); first
      | (with_reducible refine spB_dec ?_ ?_ <;> intro _ <;> (try (exfalso; first | contradiction | omega | (rename_i hz; refine hz ?_; simp; done) | (rename_i hz; simp at hz; done) | (simp only [LN] at *; omega))))
      | ((with_reducible refine rowN_mk (cQ y) ?_ ?_); (focus (exact relI_row hy)))
      | ((with_reducible apply ixN_litp); (focus (exact rfl)); (focus ((try simp only [LN] at *) <;> omega)))
      | with_reducible refine wr_i64 (by first | omega | (simp only [LN] at *; omega)) ?_)
    all_goals (try (conv => whnf))
    all_goals try (show Nat.ble _ _ = true; rfl)
    all_goals first
      | ((refine Z.rndK ((i + 1)) (fun s => [0, 1, 2, 3, 4, 5, 6, 7]) rfl rfl rfl rfl ?_ ?_ ?_ ?_); (focus (repeat' (first | exact trivial | exact rfl | apply And.intro))); (focus (repeat' (first | exact trivial | exact relI_blk rfl hy rfl | (intro b hb; cases hb; rfl) | apply And.intro))); (focus (((try dsimp only); omega))); ((try dsimp only); omega))
  have hiq : i = qs.length := by omega
  subst hiq
  repeat' ((conv => whnf); first
    | with_reducible first | refine spB_t ?_
    | (with_reducible refine spB_dec ?_ ?_ <;> intro _ <;> (try (exfalso; first | contradiction | omega | (rename_i hz; refine hz ?_; simp; done) | (rename_i hz; simp at hz; done) | (simp only [LN] at *; omega))))
    | ((with_reducible refine ixN_mk (k) ?_ ?_ ?_); (focus (first | rfl)); (focus ((try simp only [LN] at *) <;> omega)))
    | ((with_reducible refine rowN_mk (cQ (relQ (dropQ x))) ?_ ?_); (focus (exact relI_full hkl)))
    | with_reducible first | refine Z.callZ_in tabOk 44 Try.f39 _ Try.func39 (by kernel_rfl) rfl rfl rfl ?_ | refine Z.callZ_in tabOk 19 Try.f52 _ Try.func52 (by kernel_rfl) rfl rfl rfl ?_
    | ((first | (with_reducible refine Z.callZ_mk ?_ (cd) ?_)); (focus ((repeat' (first | exact trivial | (refine low_rows (rowsD (q := heldQ (dropQ x)) rfl) ?_; (simp only [List.length_set, List.length_map]; done)) | exact rfl | apply And.intro)); done)))
    | ((with_reducible apply ex_and); exact rfl))
  all_goals (try (conv => whnf))
  all_goals try (show Nat.ble _ _ = true; rfl)
  all_goals try (exfalso; rename_i hz; cases hz; done)
  all_goals try (exfalso; (try simp only [LN] at *) <;> omega)
  refine Z.loopK tabOk (fun zq : Nat => [(8, .val (.int .i64 (zq : Int)))]) (fun zq : Nat => ([(5, some (Z.Ob.b ⟨(relI ((qs.map relQ).set k (heldQ (dropQ x))) zq).map cQ, 4, 39, false⟩))] : Z.Kr)) (fun zq => zq ≤ qs.length) (fun zq => qs.length - zq) 0 10 [(0, _), (7, _)] ⟨rfl, rfl, trivial⟩ [(0, some _), (1, some _), (2, some _), (3, some _), (4, some _), (6, some _), (7, some _), (8, some _), (9, some _)] ⟨rfl, rfl, rfl, rfl, rfl, rfl, rfl, rfl, rfl, trivial⟩ ?_ ?_ rfl rfl (Nat.zero_le _) ?_
  · repeat' (first | exact trivial | apply And.intro | exact ⟨_, rfl, Z.Imp.refl _⟩)
  · repeat' (first | exact trivial | (intro b hb; cases hb; refine ⟨_, rfl, ⟨rfl, rfl, rfl⟩, Z.imp_eq ?_⟩; first | exact (rowsD (q := heldQ (dropQ x)) rfl).trans (by rw [relI_0]) | exact ((rowsD (q := heldQ (dropQ x)) rfl).trans (by rw [relI_0])).symm; done) | apply And.intro)
  rintro i HINV
  dsimp only at HINV ⊢
  by_cases hi : i < qs.length
  · obtain ⟨y, hy⟩ := getElem?_some' (xs := ((qs.map relQ).set k (heldQ (dropQ x)))) (i := i) (by simp only [List.length_set, List.length_map]; exact hi)
    repeat' ((conv => whnf); first
      | (with_reducible refine spB_dec ?_ ?_ <;> intro _ <;> (try (exfalso; first | contradiction | omega | (rename_i hz; refine hz ?_; simp; done) | (rename_i hz; simp at hz; done) | (simp only [LN] at *; omega))))
      | ((with_reducible refine rowN_mk (cQ y) ?_ ?_); (focus (exact relI_row hy)))
      | ((with_reducible apply ixN_litp); (focus (exact rfl)); (focus ((try simp only [LN] at *) <;> omega)))
      | with_reducible refine wr_i64 (by first | omega | (simp only [LN] at *; omega)) ?_)
    all_goals (try (conv => whnf))
    all_goals try (show Nat.ble _ _ = true; rfl)
    all_goals first
      | ((refine Z.rndK ((i + 1)) (fun s => [0, 1, 2, 3, 4, 5, 6, 7, 8, 9]) rfl rfl rfl rfl ?_ ?_ ?_ ?_); (focus (repeat' (first | exact trivial | exact rfl | apply And.intro))); (focus (repeat' (first | exact trivial | exact relI_blk rfl hy rfl | (intro b hb; cases hb; rfl) | apply And.intro))); (focus (((try dsimp only); omega))); ((try dsimp only); omega))
  have hiq : i = qs.length := by omega
  subst hiq
  repeat' ((conv => whnf); first
    | (with_reducible refine spB_dec ?_ ?_ <;> intro _ <;> (try (exfalso; first | contradiction | omega | (rename_i hz; refine hz ?_; simp; done) | (rename_i hz; simp at hz; done) | (simp only [LN] at *; omega))))
    | ((with_reducible apply ex_and); exact rfl)
    | with_reducible first | refine Z.drawZ_rule tabOk mixOk ?_ | refine Z.apZ_mk (by kernel_rfl) ?_)
  all_goals (try (conv => whnf))
  all_goals try (show Nat.ble _ _ = true; rfl)
  all_goals first
    | (refine Z.retF2 [.agg [.osl 5 0 (qs.map eQ).length (some (qs.map eQ).length), .v (.int .u64 0), .v (.int .u64 e.num)], .agg [.v (.int .i64 2), .v (.int .i64 0), .v (.int .i64 0), .v (.int .i64 0), .v (.int .u64 e.num)], .one (.v (.bool true)), .one (.v (.int .i64 0))] (by rfl) ⟨⟨Z.frz_osl (l := (((qs.map relQ).set k (heldQ (dropQ x))).map relQ)) (f := cQ) (ty := 39) (bx := false) (congrArg (fun r => some (Blk.mk r 4 39 false)) (by exact relI_end (by simp))) (by simp) (fun _ => rfl), rfl, rfl, trivial⟩, ⟨rfl, rfl, rfl, rfl, rfl, trivial⟩, rfl, rfl, trivial⟩)

theorem take_more_s3 (qs : List Qu) (n d : Int) (k : Nat) (x : Qu) (e : El) (r : List El) (hq : qs.length ≤ 9223372036854775807) (hlq : ∀ q ∈ qs, q.es.length ≤ 9223372036854775807) (huq : ∀ q ∈ qs, ∀ e ∈ q.es, 0 ≤ e.num) (hk : okG qs n d = true) (hx : qs[k]? = some x) (hrd : rdQ x = true) (hes : x.es = e :: r) (hk1 : e.kd = 2) (hb : ¬ e.num ≤ d) (hc : n < e.num) (hn : 0 < e.num) (hD : allD ((qs.map relQ).set k (heldQ (dropQ x))) = false) (hE : allE ((qs.map relQ).set k (heldQ (dropQ x))) = false) : Con Try.prog 18 [.agg [.ro false 4 (qs.map eQ), .v (.int .u64 n), .v (.int .u64 d)], .one (.v (.int .i64 (k : Int)))] (fun rx rK rt => rx = .tup [.agg [.ro true 4 (((qs.map relQ).set k (heldQ (dropQ x))).map eQ), .v (.int .u64 e.num), .v (.int .u64 d)], .agg [.v (.int .i64 0), .v (.int .i64 0), .v (.int .i64 0), .v (.int .i64 0), .v (.int .u64 0)], .one (.v (.bool false)), .one (.v (.int .i64 0))] ∧ rK = [] ∧ rt = 0) := by
  refine Z.con_ofF tabOk 80 Try.f18 _ Try.func18 (by kernel_rfl) rfl rfl rfl rfl ?_
  have ck := check_con qs n d hq hlq huq
  rw [hk] at ck
  simp only [cond_true] at ck
  obtain ⟨hn1, hn4⟩ := okG_all hk
  have ch := has_con qs n d (k : Int)
  rw [decide_eq_true (p := (0 : Int) ≤ (k : Int) ∧ (k : Int) < (qs.length : Int)) (by have := (List.getElem?_eq_some_iff.1 hx).1; omega)] at ch
  have hkl := (List.getElem?_eq_some_iff.1 hx).1
  have cr := readable_con x
  rw [hrd] at cr
  have hx4 := hn4 x (List.mem_of_getElem? hx)
  have he0 : x.es[0]? = some e := by rw [hes]; rfl
  have hel : 0 < x.es.length := by rw [hes]; simp
  have cd := allD_con ((qs.map relQ).set k (heldQ (dropQ x))) (by simp only [List.length_set, List.length_map]; exact hq)
  have cl := allE_con ((qs.map relQ).set k (heldQ (dropQ x))) (by simp only [List.length_set, List.length_map]; exact hq)
  rw [show (List.all ((qs.map relQ).set k (heldQ (dropQ x))) fun q => q.held || q.ended) = false from hD] at cd
  rw [show (List.all ((qs.map relQ).set k (heldQ (dropQ x))) fun q => q.ended) = false from hE] at cl
  repeat' ((conv => whnf); first
    | ((with_reducible apply spB_cong); (focus (simp only [beq_self_eq_true, bne_self_eq_false, Bool.true_bne, Bool.false_bne, Bool.bne_true, Bool.bne_false, Bool.true_beq, Bool.false_beq, Bool.not_true, Bool.not_false, Bool.not_not, Int.reduceBEq, Int.reduceBNe, Int.reduceLE, Int.reduceLT, Int.reduceEq, decide_true, decide_false]; rfl)))
    | with_reducible first | refine spB_no (by decide) ?_
    | ((with_reducible refine ixN_mk (k) ?_ ?_ ?_); (focus (first | rfl)); (focus ((try simp only [LN] at *) <;> omega)))
    | with_reducible first | refine Z.rowN_known hx ?_
    | ((with_reducible refine cpyN.mk ?_ ?_ ?_ ?_); (focus (first | (simp; done))); (focus (first | exact one_map2 (fun _ => rfl))); (focus ((try simp only [LN] at *) <;> omega)))
    | with_reducible first | refine Z.callZ_in tabOk 41 Try.f30 _ Try.func30 (by kernel_rfl) rfl rfl rfl ?_
    | ((first | (with_reducible refine Z.callZ_mk ?_ (ck) ?_) | (with_reducible refine Z.callZ_mk ?_ (ch) ?_) | (with_reducible refine Z.callZ_mk ?_ (cr) ?_)); (focus ((repeat' (first | exact trivial | exact rfl | apply And.intro)); done)))
    | ((with_reducible refine Z.mkN_nat ?_ ?_ ?_ ?_); (focus ((try simp only [LN] at *) <;> omega)); (focus ((try simp only [LN] at *) <;> omega)); (focus ((try simp only [LN] at *) <;> omega))))
  all_goals (try (conv => whnf))
  all_goals try (show Nat.ble _ _ = true; rfl)
  all_goals try (exfalso; rename_i hz; cases hz; done)
  all_goals try (exfalso; (try simp only [LN] at *) <;> omega)
  refine Z.loopK tabOk (fun zq : Nat => [(16, .val (.int .i64 (zq : Int)))]) (fun zq : Nat => ([(5, some (Z.Ob.b ⟨(qs.take zq).map cQ ++ (qs.drop zq).map cQf, 4, 39, false⟩))] : Z.Kr)) (fun zq => zq ≤ qs.length) (fun zq => qs.length - zq) 0 6 [(1, _), (2, _), (3, _), (14, _), (15, _)] ⟨rfl, rfl, rfl, rfl, rfl, trivial⟩ [(0, some _), (1, some _), (2, some _), (3, some _), (4, some _)] ⟨rfl, rfl, rfl, rfl, rfl, trivial⟩ ?_ ?_ rfl rfl (Nat.zero_le _) ?_
  · repeat' (first | exact trivial | apply And.intro | exact ⟨_, rfl, Z.Imp.refl _⟩)
  · repeat' (first | exact trivial | (intro b hb; cases hb; refine ⟨_, rfl, ⟨rfl, rfl, rfl⟩, Z.imp_eq ?_⟩; first | rfl | exact Z.lay_copy (by simp) (Nat.le_min.2 ⟨by simp, by simp⟩) (fun _ => rfl); done) | apply And.intro)
  rintro i HINV
  dsimp only at HINV ⊢
  by_cases hi : i < qs.length
  · obtain ⟨y, hy⟩ := getElem?_some' (xs := qs) (i := i) hi
    have hy4 := hn4 y (List.mem_of_getElem? hy)
    repeat' ((conv => whnf); first
      | (with_reducible refine spB_dec ?_ ?_ <;> intro _ <;> (try (exfalso; first | contradiction | omega | (rename_i hz; refine hz ?_; simp; done) | (rename_i hz; simp at hz; done) | (simp only [LN] at *; omega))))
      | ((with_reducible refine rowN_mk (cQf y) ?_ ?_); (focus (exact rows_at hy)))
      | ((with_reducible apply rowN_mk); (focus (exact rows_set (by simp only [List.length_append, List.length_map, List.length_take, List.length_drop]; omega))))
      | ((with_reducible apply ixN_litp); (focus (exact rfl)); (focus ((try simp only [LN] at *) <;> omega)))
      | ((with_reducible refine cpyN.mk ?_ ?_ ?_ ?_); (focus (first | (simp; done))); (focus (first | exact one_map2 (fun _ => rfl))); (focus ((try simp only [LN] at *) <;> omega)))
      | with_reducible refine wr_i64 (by first | omega | (simp only [LN] at *; omega)) ?_
      | ((with_reducible refine Z.mkN_nat ?_ ?_ ?_ ?_); (focus ((try simp only [LN] at *) <;> omega)); (focus ((try simp only [LN] at *) <;> omega)); (focus ((try simp only [LN] at *) <;> omega)))
      | with_reducible first | refine Z.drawZ_rule tabOk mixOk ?_ | refine Z.apZ_mk (by kernel_rfl) ?_)
    all_goals (try (conv => whnf))
    all_goals try (show Nat.ble _ _ = true; rfl)
    all_goals first
      | ((refine Z.rnd_rw 7 (y.es.map cE) rfl rfl ?_ ?_); (focus (exact Z.lay_copy (by simp) (Nat.le_min.2 ⟨by simp, by simp⟩) (fun _ => rfl))); ((refine rnd_fzr 26 5 ((qs.take (i + 1)).map cQ ++ (qs.drop (i + 1)).map cQf) rfl rfl rfl (rows_mid hy ⟨?_, ?_, ?_, ?_, trivial⟩) ?_); (focus (first | exact Z.fzC.ogsl rfl (by simp only [List.length_map, Nat.zero_add]) (fun _ => rfl))); (focus (first | exact Z.fzC.refl _)); (focus (first | exact Z.fzC.refl _)); (focus (first | exact Z.fzC.refl _)); ((refine Z.rndK ((i + 1)) (fun s => [0, 1, 2, 3, 4, 5]) rfl rfl rfl rfl ?_ ?_ ?_ ?_); (focus (repeat' (first | exact trivial | exact rfl | apply And.intro))); (focus (repeat' (first | exact trivial | (intro b hb; cases hb; rfl) | exact Z.blk_sub rfl rfl (Z.ren_app (ren_map fun _ => rfl) (ren_map fun _ => rfl)) | apply And.intro))); (focus (((try dsimp only); omega))); ((try dsimp only); omega))))
  have hiq : i = qs.length := by omega
  subst hiq
  repeat' ((conv => whnf); first
    | with_reducible first | refine spB_no (by decide) ?_
    | (with_reducible refine spB_dec ?_ ?_ <;> intro _ <;> (try (exfalso; first | contradiction | omega | (rename_i hz; refine hz ?_; simp; done) | (rename_i hz; simp at hz; done) | (simp only [LN] at *; omega))))
    | (with_reducible refine spB_beq ?_ ?_ <;> intro _ <;> (try (exfalso; first | contradiction | omega | (rename_i hz; refine hz ?_; simp; done) | (rename_i hz; simp at hz; done) | (simp only [LN] at *; omega))))
    | ((with_reducible refine ixN_mk (k) ?_ ?_ ?_); (focus (first | rfl)); (focus ((try simp only [LN] at *) <;> omega)))
    | ((with_reducible refine ixN_mk (0) ?_ ?_ ?_); (focus (first | rfl)); (focus ((try simp only [LN] at *) <;> omega)))
    | ((with_reducible refine rowN_mk (cQ x) ?_ ?_); (focus (exact rows_done hx)))
    | with_reducible first | refine Z.rowN_known he0 ?_
    | ((with_reducible refine Z.slN_lo 1 ?_ ?_ ?_); (focus rfl); (focus ((try simp only [LN] at *) <;> omega)))
    | with_reducible first | refine Z.callZ_in tabOk 39 Try.f38 _ Try.func38 (by kernel_rfl) rfl rfl rfl ?_ | refine Z.callZ_in tabOk 19 Try.f52 _ Try.func52 (by kernel_rfl) rfl rfl rfl ?_
    | ((with_reducible apply ex_and); exact rfl))
  all_goals (try (conv => whnf))
  all_goals try (show Nat.ble _ _ = true; rfl)
  all_goals try (exfalso; rename_i hz; cases hz; done)
  all_goals try (exfalso; (try simp only [LN] at *) <;> omega)
  refine Z.loopK tabOk (fun zq : Nat => [(8, .val (.int .i64 (zq : Int)))]) (fun zq : Nat => ([(5, some (Z.Ob.b ⟨(relI (qs.set k (dropQ x)) zq).map cQ, 4, 39, false⟩))] : Z.Kr)) (fun zq => zq ≤ qs.length) (fun zq => qs.length - zq) 0 8 [(0, _), (7, _)] ⟨rfl, rfl, trivial⟩ [(0, some _), (1, some _), (2, some _), (3, some _), (4, some _), (6, some _), (7, some _)] ⟨rfl, rfl, rfl, rfl, rfl, rfl, rfl, trivial⟩ ?_ ?_ rfl rfl (Nat.zero_le _) ?_
  · repeat' (first | exact trivial | apply And.intro | exact ⟨_, rfl, Z.Imp.refl _⟩)
  · repeat' (first | exact trivial | (intro b hb; cases hb; refine ⟨_, rfl, ⟨rfl, rfl, rfl⟩, Z.imp_eq ?_⟩; first | exact (rowsT (q := dropQ x) drop_row).trans (by rw [relI_0]) | exact ((rowsT (q := dropQ x) drop_row).trans (by rw [relI_0])).symm; done) | apply And.intro)
  rintro i HINV
  dsimp only at HINV ⊢
  by_cases hi : i < qs.length
  · obtain ⟨y, hy⟩ := getElem?_some' (xs := (qs.set k (dropQ x))) (i := i) (by simp only [List.length_set, List.length_map]; exact hi)
    repeat' ((conv => whnf); first
      | (with_reducible refine spB_dec ?_ ?_ <;> intro _ <;> (try (exfalso; first | contradiction | omega | (rename_i hz; refine hz ?_; simp; done) | (rename_i hz; simp at hz; done) | (simp only [LN] at *; omega))))
      | ((with_reducible refine rowN_mk (cQ y) ?_ ?_); (focus (exact relI_row hy)))
      | ((with_reducible apply ixN_litp); (focus (exact rfl)); (focus ((try simp only [LN] at *) <;> omega)))
      | with_reducible refine wr_i64 (by first | omega | (simp only [LN] at *; omega)) ?_)
    all_goals (try (conv => whnf))
    all_goals try (show Nat.ble _ _ = true; rfl)
    all_goals first
      | ((refine Z.rndK ((i + 1)) (fun s => [0, 1, 2, 3, 4, 5, 6, 7]) rfl rfl rfl rfl ?_ ?_ ?_ ?_); (focus (repeat' (first | exact trivial | exact rfl | apply And.intro))); (focus (repeat' (first | exact trivial | exact relI_blk rfl hy rfl | (intro b hb; cases hb; rfl) | apply And.intro))); (focus (((try dsimp only); omega))); ((try dsimp only); omega))
  have hiq : i = qs.length := by omega
  subst hiq
  repeat' ((conv => whnf); first
    | with_reducible first | refine spB_t ?_
    | with_reducible first | refine spB_no (by decide) ?_
    | (with_reducible refine spB_dec ?_ ?_ <;> intro _ <;> (try (exfalso; first | contradiction | omega | (rename_i hz; refine hz ?_; simp; done) | (rename_i hz; simp at hz; done) | (simp only [LN] at *; omega))))
    | ((with_reducible refine ixN_mk (k) ?_ ?_ ?_); (focus (first | rfl)); (focus ((try simp only [LN] at *) <;> omega)))
    | ((with_reducible refine rowN_mk (cQ (relQ (dropQ x))) ?_ ?_); (focus (exact relI_full hkl)))
    | with_reducible first | refine Z.callZ_in tabOk 44 Try.f39 _ Try.func39 (by kernel_rfl) rfl rfl rfl ?_
    | ((first | (with_reducible refine Z.callZ_mk ?_ (cd) ?_)); (focus ((repeat' (first | exact trivial | (refine low_rows (rowsD (q := heldQ (dropQ x)) rfl) ?_; (simp only [List.length_set, List.length_map]; done)) | exact rfl | apply And.intro)); done)))
    | ((first | (with_reducible refine Z.callZ_mk ?_ (cl) ?_)); (focus ((repeat' (first | exact trivial | (refine low_rows (rowsD (q := heldQ (dropQ x)) rfl) ?_; (simp only [List.length_set, List.length_map]; done)) | exact rfl | apply And.intro)); done)))
    | ((with_reducible apply ex_and); exact rfl)
    | with_reducible first | refine Z.drawZ_rule tabOk mixOk ?_ | refine Z.apZ_mk (by kernel_rfl) ?_)
  all_goals (try (conv => whnf))
  all_goals try (show Nat.ble _ _ = true; rfl)
  all_goals try (exfalso; rename_i hz; cases hz; done)
  all_goals try (exfalso; (try simp only [LN] at *) <;> omega)
  all_goals first
    | (refine Z.retF2 [.agg [.osl 5 0 (qs.map eQ).length (some (qs.map eQ).length), .v (.int .u64 e.num), .v (.int .u64 d)], .agg [.v (.int .i64 0), .v (.int .i64 0), .v (.int .i64 0), .v (.int .i64 0), .v (.int .u64 0)], .one (.v (.bool false)), .one (.v (.int .i64 0))] (by rfl) ⟨⟨Z.frz_osl (l := ((qs.map relQ).set k (heldQ (dropQ x)))) (f := cQ) (ty := 39) (bx := false) (congrArg (fun r => some (Blk.mk r 4 39 false)) (by exact rowsD (q := heldQ (dropQ x)) rfl)) (by simp) (fun _ => rfl), rfl, rfl, trivial⟩, ⟨rfl, rfl, rfl, rfl, rfl, trivial⟩, rfl, rfl, trivial⟩)

end Go.Proofs.Ytakfkbciijahgaa
namespace Go.Proofs.Ytakfkbciijahgaa
open Go Go.RowKit Wx
set_option linter.unusedVariables false
set_option linter.unusedSimpArgs false
set_option maxHeartbeats 4000000
theorem take_bad (qs : List Qu) (n d : Int) (i : Int) (hq : qs.length ≤ 9223372036854775807) (hlq : ∀ q ∈ qs, q.es.length ≤ 9223372036854775807) (huq : ∀ q ∈ qs, ∀ e ∈ q.es, 0 ≤ e.num) (hk : okG qs n d = false) : Con Try.prog 18 [.agg [.ro false 4 (qs.map eQ), .v (.int .u64 n), .v (.int .u64 d)], .one (.v (.int .i64 i))] (fun rx rK rt => rx = .tup [.agg [.ro true 4 (([] : List Qu).map eQ), .v (.int .u64 0), .v (.int .u64 0)], .agg [.v (.int .i64 0), .v (.int .i64 0), .v (.int .i64 0), .v (.int .i64 0), .v (.int .u64 0)], .one (.v (.bool false)), .one (.v (.int .i64 250))] ∧ rK = [] ∧ rt = 0) := by
  refine Z.con_ofF tabOk 80 Try.f18 _ Try.func18 (by kernel_rfl) rfl rfl rfl rfl ?_
  have ck := check_con qs n d hq hlq huq
  rw [hk] at ck
  simp only [cond_true, cond_false] at ck
  repeat' ((conv => whnf); first
    | with_reducible first | refine spB_t ?_
    | ((with_reducible apply spB_cong); (focus (simp only [beq_self_eq_true, bne_self_eq_false, Bool.true_bne, Bool.false_bne, Bool.bne_true, Bool.bne_false, Bool.true_beq, Bool.false_beq, Bool.not_true, Bool.not_false, Bool.not_not, Int.reduceBEq, Int.reduceBNe, Int.reduceLE, Int.reduceLT, Int.reduceEq, decide_true, decide_false]; rfl)))
    | ((first | (with_reducible refine Z.callZ_mk ?_ (ck) ?_)); (focus ((repeat' (first | exact trivial | exact rfl | apply And.intro)); done))))
  all_goals (try (conv => whnf))
  all_goals try (show Nat.ble _ _ = true; rfl)
  all_goals first
    | ((first | (with_reducible apply Z.retF2)); (focus (exact rfl)); (repeat' (first | exact trivial | (with_reducible apply Z.frz_one) | (with_reducible apply Z.frz_agg) | (with_reducible apply Z.fq_int) | (with_reducible apply Z.fq_bool) | (exact Z.frz_nil) | exact rfl | apply And.intro)); (all_goals (try exact (fun _ => none))); all_goals (first | (simp; done)))

theorem take_has (qs : List Qu) (n d : Int) (i : Int) (hq : qs.length ≤ 9223372036854775807) (hlq : ∀ q ∈ qs, q.es.length ≤ 9223372036854775807) (huq : ∀ q ∈ qs, ∀ e ∈ q.es, 0 ≤ e.num) (hk : okG qs n d = true) (hi : ¬ (0 ≤ i ∧ i < qs.length)) : Con Try.prog 18 [.agg [.ro false 4 (qs.map eQ), .v (.int .u64 n), .v (.int .u64 d)], .one (.v (.int .i64 i))] (fun rx rK rt => rx = .tup [.agg [.ro true 4 (([] : List Qu).map eQ), .v (.int .u64 0), .v (.int .u64 0)], .agg [.v (.int .i64 0), .v (.int .i64 0), .v (.int .i64 0), .v (.int .i64 0), .v (.int .u64 0)], .one (.v (.bool false)), .one (.v (.int .i64 2))] ∧ rK = [] ∧ rt = 0) := by
  refine Z.con_ofF tabOk 80 Try.f18 _ Try.func18 (by kernel_rfl) rfl rfl rfl rfl ?_
  have ck := check_con qs n d hq hlq huq
  rw [hk] at ck
  simp only [cond_true, cond_false] at ck
  obtain ⟨hn1, hn4⟩ := okG_all hk
  have ch := has_con qs n d i
  rw [decide_eq_false hi] at ch
  repeat' ((conv => whnf); first
    | with_reducible first | refine spB_t ?_
    | ((with_reducible apply spB_cong); (focus (simp only [beq_self_eq_true, bne_self_eq_false, Bool.true_bne, Bool.false_bne, Bool.bne_true, Bool.bne_false, Bool.true_beq, Bool.false_beq, Bool.not_true, Bool.not_false, Bool.not_not, Int.reduceBEq, Int.reduceBNe, Int.reduceLE, Int.reduceLT, Int.reduceEq, decide_true, decide_false]; rfl)))
    | with_reducible first | refine spB_no (by decide) ?_
    | ((first | (with_reducible refine Z.callZ_mk ?_ (ck) ?_) | (with_reducible refine Z.callZ_mk ?_ (ch) ?_)); (focus ((repeat' (first | exact trivial | exact rfl | apply And.intro)); done))))
  all_goals (try (conv => whnf))
  all_goals try (show Nat.ble _ _ = true; rfl)
  all_goals first
    | ((first | (with_reducible apply Z.retF2)); (focus (exact rfl)); (repeat' (first | exact trivial | (with_reducible apply Z.frz_one) | (with_reducible apply Z.frz_agg) | (with_reducible apply Z.fq_int) | (with_reducible apply Z.fq_bool) | (exact Z.frz_nil) | exact rfl | apply And.intro)); (all_goals (try exact (fun _ => none))); all_goals (first | (simp; done)))

theorem take_rd (qs : List Qu) (n d : Int) (k : Nat) (x : Qu) (hq : qs.length ≤ 9223372036854775807) (hlq : ∀ q ∈ qs, q.es.length ≤ 9223372036854775807) (huq : ∀ q ∈ qs, ∀ e ∈ q.es, 0 ≤ e.num) (hk : okG qs n d = true) (hx : qs[k]? = some x) (hrd : rdQ x = false) : Con Try.prog 18 [.agg [.ro false 4 (qs.map eQ), .v (.int .u64 n), .v (.int .u64 d)], .one (.v (.int .i64 (k : Int)))] (fun rx rK rt => rx = .tup [.agg [.ro true 4 (([] : List Qu).map eQ), .v (.int .u64 0), .v (.int .u64 0)], .agg [.v (.int .i64 0), .v (.int .i64 0), .v (.int .i64 0), .v (.int .i64 0), .v (.int .u64 0)], .one (.v (.bool false)), .one (.v (.int .i64 2))] ∧ rK = [] ∧ rt = 0) := by
  refine Z.con_ofF tabOk 80 Try.f18 _ Try.func18 (by kernel_rfl) rfl rfl rfl rfl ?_
  have ck := check_con qs n d hq hlq huq
  rw [hk] at ck
  simp only [cond_true, cond_false] at ck
  obtain ⟨hn1, hn4⟩ := okG_all hk
  have ch := has_con qs n d (k : Int)
  rw [decide_eq_true (p := (0 : Int) ≤ (k : Int) ∧ (k : Int) < (qs.length : Int)) (by have := (List.getElem?_eq_some_iff.1 hx).1; omega)] at ch
  have hkl := (List.getElem?_eq_some_iff.1 hx).1
  have cr := readable_con x
  rw [hrd] at cr
  repeat' ((conv => whnf); first
    | with_reducible first | refine spB_t ?_
    | ((with_reducible apply spB_cong); (focus (simp only [beq_self_eq_true, bne_self_eq_false, Bool.true_bne, Bool.false_bne, Bool.bne_true, Bool.bne_false, Bool.true_beq, Bool.false_beq, Bool.not_true, Bool.not_false, Bool.not_not, Int.reduceBEq, Int.reduceBNe, Int.reduceLE, Int.reduceLT, Int.reduceEq, decide_true, decide_false]; rfl)))
    | with_reducible first | refine spB_no (by decide) ?_
    | ((with_reducible refine ixN_mk (k) ?_ ?_ ?_); (focus (first | rfl)); (focus ((try simp only [LN] at *) <;> omega)))
    | with_reducible first | refine Z.rowN_known hx ?_
    | ((first | (with_reducible refine Z.callZ_mk ?_ (ck) ?_) | (with_reducible refine Z.callZ_mk ?_ (ch) ?_) | (with_reducible refine Z.callZ_mk ?_ (cr) ?_)); (focus ((repeat' (first | exact trivial | exact rfl | apply And.intro)); done))))
  all_goals (try (conv => whnf))
  all_goals try (show Nat.ble _ _ = true; rfl)
  all_goals first
    | ((first | (with_reducible apply Z.retF2)); (focus (exact rfl)); (repeat' (first | exact trivial | (with_reducible apply Z.frz_one) | (with_reducible apply Z.frz_agg) | (with_reducible apply Z.fq_int) | (with_reducible apply Z.fq_bool) | (exact Z.frz_nil) | exact rfl | apply And.intro)); (all_goals (try exact (fun _ => none))); all_goals (first | (simp; done)))

/-- What is told behind a barrier or an end. -/
def setR (Q : List Qu) (n d : Int) : List Qu × Int × Int × El × Bool × Int :=
  if 0 < n ∧ allD Q = true then (Q.map relQ, 0, n, ⟨2, 0, 0, 0, n⟩, true, 0) else if allE Q = true then (Q, n, d, ⟨3, 0, 0, 0, 0⟩, true, 0) else (Q, n, d, ⟨0, 0, 0, 0, 0⟩, false, 0)
def takeX (qs : List Qu) (n d : Int) (k : Nat) (x : Qu) (e : El) : List Qu × Int × Int × El × Bool × Int :=
  if e.kd = 1 then (qs.set k (dropQ x), n, d, e, true, 0) else if e.kd = 3 then setR (qs.set k (endQ (dropQ x))) n d else if e.num ≤ d ∨ e.num < n then setR (qs.set k (dropQ x)) n d else if e.num = n then setR (qs.set k (heldQ (dropQ x))) n d else setR ((qs.map relQ).set k (heldQ (dropQ x))) e.num d
/-- What Take tells: the queues, both numbers, what is told, whether something is, and whether it was refused. -/
def takeR (qs : List Qu) (n d i : Int) : List Qu × Int × Int × El × Bool × Int :=
  bif okG qs n d then (if 0 ≤ i ∧ i < qs.length then (match qs[i.toNat]? with
    | some x => bif rdQ x then (match x.es with
      | e :: _ => takeX qs n d i.toNat x e
      | [] => ([], 0, 0, ⟨0, 0, 0, 0, 0⟩, false, 2)) else ([], 0, 0, ⟨0, 0, 0, 0, 0⟩, false, 2)
    | none => ([], 0, 0, ⟨0, 0, 0, 0, 0⟩, false, 2)) else ([], 0, 0, ⟨0, 0, 0, 0, 0⟩, false, 2)) else ([], 0, 0, ⟨0, 0, 0, 0, 0⟩, false, 250)
abbrev tkV (R : List Qu × Int × Int × El × Bool × Int) : AV := .tup [.agg [.ro true 4 (R.1.map eQ), .v (.int .u64 R.2.1), .v (.int .u64 R.2.2.1)], .agg [.v (.int .i64 R.2.2.2.1.kd), .v (.int .i64 R.2.2.2.1.src), .v (.int .i64 R.2.2.2.1.key), .v (.int .i64 R.2.2.2.1.val), .v (.int .u64 R.2.2.2.1.num)], .one (.v (.bool R.2.2.2.2.1)), .one (.v (.int .i64 R.2.2.2.2.2))]
theorem okG_q {qs : List Qu} {n d : Int} (h : okG qs n d = true) {q : Qu} (hq : q ∈ qs) : okQ q = true := by
  unfold okG at h
  simp only [Bool.and_eq_true, List.all_eq_true] at h
  exact h.1.2 q hq
theorem okQ_first {x : Qu} {e : El} {r : List El} (h : okQ x = true) (hes : x.es = e :: r) : x.ended = false ∧ okE e = true := by
  unfold okQ at h
  rw [hes] at h
  simp only [Bool.and_eq_true, decide_eq_true_eq, okEs] at h
  refine ⟨?_, h.1.2.1.1⟩
  cases he : x.ended
  · rfl
  · have := (h.1.1.2.2 he).2
    simp at this
theorem okE_kd {e : El} (h : okE e = true) : (e.kd = 1 ∧ e.num = 0) ∨ (e.kd = 2 ∧ 0 < e.num) ∨ (e.kd = 3 ∧ e.num = 0) := by
  unfold okE at h
  simp only [decide_eq_true_eq] at h
  omega
theorem set_no {p : Qu → Bool} {qs : List Qu} {k : Nat} {q : Qu} (hk : k < qs.length) (h : p q = false) : (qs.set k q).all p = false := by
  rw [List.all_eq_false]
  exact ⟨q, List.mem_of_getElem? (List.getElem?_set_self hk), by simp [h]⟩
theorem take_x (qs : List Qu) (n d : Int) (k : Nat) (x : Qu) (e : El) (r : List El) (hq : qs.length ≤ 9223372036854775807) (hlq : ∀ q ∈ qs, q.es.length ≤ 9223372036854775807) (huq : ∀ q ∈ qs, ∀ e ∈ q.es, 0 ≤ e.num) (hk : okG qs n d = true) (hx : qs[k]? = some x) (hrd : rdQ x = true) (hes : x.es = e :: r) : Con Try.prog 18 [.agg [.ro false 4 (qs.map eQ), .v (.int .u64 n), .v (.int .u64 d)], .one (.v (.int .i64 (k : Int)))] (fun rx rK rt => rx = tkV (takeX qs n d k x e) ∧ rK = [] ∧ rt = 0) := by
  have hkl := (List.getElem?_eq_some_iff.1 hx).1
  obtain ⟨hxe, hoe⟩ := okQ_first (okG_q hk (List.mem_of_getElem? hx)) hes
  have hxh : x.held = false := by
    unfold rdQ at hrd
    simp only [Bool.and_eq_true, Bool.not_eq_true'] at hrd
    exact hrd.2
  have hkd := okE_kd hoe
  unfold takeX
  by_cases h1 : e.kd = 1
  · rw [if_pos h1]
    exact take_rec qs n d k x e r hq hlq huq hk hx hrd hes h1
  rw [if_neg h1]
  by_cases h3 : e.kd = 3
  · rw [if_pos h3]
    unfold setR
    by_cases hn : 0 < n
    · cases hD : allD (qs.set k (endQ (dropQ x))) with
      | true => rw [if_pos ⟨hn, rfl⟩]; exact take_end_s1 qs n d k x e r hq hlq huq hk hx hrd hes h3 hn hD
      | false =>
        rw [if_neg (by simp)]
        cases hE : allE (qs.set k (endQ (dropQ x))) with
        | true => rw [if_pos rfl]; exact take_end_s2 qs n d k x e r hq hlq huq hk hx hrd hes h3 hn hD hE
        | false => rw [if_neg (by simp)]; exact take_end_s3 qs n d k x e r hq hlq huq hk hx hrd hes h3 hn hD hE
    · rw [if_neg (fun h => hn h.1)]
      cases hE : allE (qs.set k (endQ (dropQ x))) with
      | true => rw [if_pos rfl]; exact take_end_s4 qs n d k x e r hq hlq huq hk hx hrd hes h3 hn hE
      | false => rw [if_neg (by simp)]; exact take_end_s5 qs n d k x e r hq hlq huq hk hx hrd hes h3 hn hE
  rw [if_neg h3]
  have h2 : e.kd = 2 := by omega
  have hp : 0 < e.num := by omega
  by_cases hb : e.num ≤ d ∨ e.num < n
  · rw [if_pos hb]
    have hD : allD (qs.set k (dropQ x)) = false := set_no hkl (by show (x.held || x.ended) = false; rw [hxh, hxe]; rfl)
    have hE : allE (qs.set k (dropQ x)) = false := set_no hkl hxe
    unfold setR
    rw [if_neg (by rw [hD]; simp), if_neg (by rw [hE]; simp)]
    by_cases hn : 0 < n
    · exact take_late_s3 qs n d k x e r hq hlq huq hk hx hrd hes h2 hb hn hD hE
    · exact take_late_s5 qs n d k x e r hq hlq huq hk hx hrd hes h2 hb hn hE
  rw [if_neg hb]
  by_cases hc : e.num = n
  · rw [if_pos hc]
    have hE : allE (qs.set k (heldQ (dropQ x))) = false := set_no hkl hxe
    unfold setR
    cases hD : allD (qs.set k (heldQ (dropQ x))) with
    | true => rw [if_pos ⟨by omega, rfl⟩]; exact take_same_s1 qs n d k x e r hq hlq huq hk hx hrd hes h2 (by omega) hc (by omega) hD
    | false => rw [if_neg (by simp), if_neg (by rw [hE]; simp)]; exact take_same_s3 qs n d k x e r hq hlq huq hk hx hrd hes h2 (by omega) hc (by omega) hD hE
  · rw [if_neg hc]
    have hE : allE ((qs.map relQ).set k (heldQ (dropQ x))) = false := set_no (by rw [List.length_map]; exact hkl) hxe
    unfold setR
    cases hD : allD ((qs.map relQ).set k (heldQ (dropQ x))) with
    | true => rw [if_pos ⟨by omega, rfl⟩]; exact take_more_s1 qs n d k x e r hq hlq huq hk hx hrd hes h2 (by omega) (by omega) hp hD
    | false => rw [if_neg (by simp), if_neg (by rw [hE]; simp)]; exact take_more_s3 qs n d k x e r hq hlq huq hk hx hrd hes h2 (by omega) (by omega) hp hD hE
theorem take_con (qs : List Qu) (n d i : Int) (hq : qs.length ≤ 9223372036854775807) (hlq : ∀ q ∈ qs, q.es.length ≤ 9223372036854775807) (huq : ∀ q ∈ qs, ∀ e ∈ q.es, 0 ≤ e.num) : Con Try.prog 18 [.agg [.ro false 4 (qs.map eQ), .v (.int .u64 n), .v (.int .u64 d)], .one (.v (.int .i64 i))] (fun rx rK rt => rx = tkV (takeR qs n d i) ∧ rK = [] ∧ rt = 0) := by
  cases hk : okG qs n d with
  | false =>
    rw [show takeR qs n d i = ([], 0, 0, ⟨0, 0, 0, 0, 0⟩, false, 250) by unfold takeR; rw [hk]; rfl]
    exact take_bad qs n d i hq hlq huq hk
  | true =>
    by_cases hi : 0 ≤ i ∧ i < qs.length
    · obtain ⟨k, rfl⟩ := Int.eq_ofNat_of_zero_le hi.1
      obtain ⟨x, hx⟩ := getElem?_some' (xs := qs) (i := k) (by omega)
      cases hrd : rdQ x with
      | false =>
        rw [show takeR qs n d (k : Int) = ([], 0, 0, ⟨0, 0, 0, 0, 0⟩, false, 2) by unfold takeR; rw [hk, cond_true, if_pos hi, Int.toNat_natCast, hx]; simp only [hrd]; rfl]
        exact take_rd qs n d k x hq hlq huq hk hx hrd
      | true =>
        cases hes : x.es with
        | nil => unfold rdQ at hrd; rw [hes] at hrd; simp at hrd
        | cons e r =>
          rw [show takeR qs n d (k : Int) = takeX qs n d k x e by unfold takeR; rw [hk, cond_true, if_pos hi, Int.toNat_natCast, hx]; simp only [hrd, hes]; rfl]
          exact take_x qs n d k x e r hq hlq huq hk hx hrd hes
    · rw [show takeR qs n d i = ([], 0, 0, ⟨0, 0, 0, 0, 0⟩, false, 2) by unfold takeR; rw [hk, cond_true, if_neg hi]]
      exact take_has qs n d i hq hlq huq hk hi
end Go.Proofs.Ytakfkbciijahgaa
namespace Go.Proofs.Ytakfkbciijahgaa
open Go Go.RowKit Wx
set_option linter.unusedVariables false
set_option linter.unusedSimpArgs false
set_option maxHeartbeats 4000000
theorem wakes_con : Con Try.prog 9 [] (fun x K t => x = .val (.bool true) ∧ K = [] ∧ t = 0) := Y.con_run ftabOk tabOk mixOk 40 12 (by kernel_rfl) (by kernel_rfl)
abbrev zrow : List RT := [RT.v (.slice none 0 0), RT.v (.int .u64 0), RT.v (.bool false), RT.v (.bool false)]
def zq (k : Nat) : List (List RT) := (List.replicate k ()).map fun _ => zrow
theorem new_ok (k : Nat) (hk : 1 ≤ k ∧ k ≤ 16) : Con Try.prog 24 [.one (.v (.int .i64 (k : Int)))] (fun rx rK rt => rx = .tup [.agg [.ro true 4 ((List.replicate k ()).map fun _ => zrow), .v (.int .u64 0), .v (.int .u64 0)], .one (.v (.int .i64 0))] ∧ rK = [] ∧ rt = 0) := by
  refine Z.con_ofF tabOk 14 Try.f24 _ Try.func24 (by kernel_rfl) rfl rfl rfl rfl ?_
  repeat' ((conv => whnf); first
    | with_reducible first | refine spB_t ?_
    | ((with_reducible apply spB_cong); (focus (simp only [beq_self_eq_true, bne_self_eq_false, Bool.true_bne, Bool.false_bne, Bool.bne_true, Bool.bne_false, Bool.true_beq, Bool.false_beq, Bool.not_true, Bool.not_false, Bool.not_not, Int.reduceBEq, Int.reduceBNe, Int.reduceLE, Int.reduceLT, Int.reduceEq, decide_true, decide_false]; rfl)))
    | with_reducible first | refine spB_yes (by decide) ?_ | refine spB_no (by decide) ?_ | refine spB_f ?_ | refine spB_not ?_ | refine spB_yes (by assumption) ?_ | refine spB_no (by assumption) ?_
    | (with_reducible refine spB_dec ?_ ?_ <;> intro _ <;> (try (exfalso; first | contradiction | omega | (rename_i hz; with_reducible exact absurd rfl hz))))
    | (with_reducible refine spB_beq ?_ ?_ <;> intro _ <;> (try (exfalso; first | contradiction | omega | (rename_i hz; with_reducible exact absurd rfl hz))))
    | (with_reducible refine spB_bne ?_ ?_ <;> intro _ <;> (try (exfalso; first | contradiction | omega | (rename_i hz; with_reducible exact absurd rfl hz))))
    | (with_reducible refine spB_mk ?_ ?_ <;> intro _ <;> (try (exfalso; first | contradiction | omega | (rename_i hz; with_reducible exact absurd rfl hz))))
    | ((with_reducible refine Z.mkN_nat (l := k) (c := k) ?_ ?_ ?_ ?_); (focus omega); (focus omega); (focus omega))
    | ((with_reducible apply rowN_mk); (focus rfl))
    | ((with_reducible apply ixN_lit); (focus (exact rfl)); (focus (exact rfl)))
    | ((with_reducible apply ixN_litp); (focus (exact rfl)); (focus ((try simp only [LN] at *) <;> omega)))
    | ((with_reducible refine eqN_mk2 ?_ ?_); (focus rfl))
    | with_reducible refine wr_i64 (by first | omega | (simp only [LN] at *; omega)) ?_
    | with_reducible refine wr_u64 (by omega) ?_
    | with_reducible first | refine wr_mk _ rfl ?_
    | ((with_reducible refine ixN_nat ?_ ?_); (focus ((try simp only [LN] at *) <;> omega)))
    | ((with_reducible refine rowN_map ?_ ?_); (focus ((try simp only [LN] at *) <;> omega)); intro x hx)
    | with_reducible refine eqN_dec (by omega) ?_
    | with_reducible first | refine apN_mk (by kernel_rfl) ?_
    | ((with_reducible refine eqN_mk2 ?_ ?_); (focus (exact Z.kb_some rfl)))
    | ((with_reducible apply ex_and); exact rfl)
    | ((with_reducible refine Z.mkN_nat ?_ ?_ ?_ ?_); (focus ((try simp only [LN] at *) <;> omega)); (focus ((try simp only [LN] at *) <;> omega)); (focus ((try simp only [LN] at *) <;> omega))))
  all_goals (try (conv => whnf))
  all_goals first
    | ((first | (with_reducible apply Z.retF1) | (with_reducible apply Z.retF2) | (with_reducible apply Z.retF0)); (focus (exact rfl)); (repeat' (first | exact trivial | (with_reducible apply Z.frz_one) | (with_reducible apply Z.frz_agg) | (with_reducible apply Z.fq_int) | (with_reducible apply Z.fq_bool) | (exact Z.frz_nil) | (exact Z.frz_osl0 rfl rfl rfl) | (with_reducible apply Z.fq_nil) | (with_reducible apply Z.fq_ro) | ((with_reducible apply Z.fq_gsl); (focus (first | rfl | exact Z.isB_map _ | exact Z.gB_snoc.symm)); (focus (exact fun _ => rfl))) | ((with_reducible apply Z.fq_osl); (focus (exact rfl)); (focus (first | exact rfl | (simp only [List.length_map, Nat.zero_add]; done) | ((try simp only [LN] at *) <;> omega))); (focus (exact fun _ => rfl))) | ((with_reducible apply Z.fq_src); (focus (exact rfl)); (focus (first | exact rfl | (simp only [List.length_map, Nat.zero_add]; done) | ((try simp only [LN] at *) <;> omega))); (focus (exact fun _ => rfl))) | exact rfl | ((apply Z.fq_osl); (focus (exact rfl)); (focus (first | exact rfl | (simp only [List.length_map, Nat.zero_add]; done) | ((try simp only [LN] at *) <;> omega))); (focus (exact fun _ => rfl))) | ((apply Z.fq_src); (focus (exact rfl)); (focus (first | exact rfl | (simp only [List.length_map, Nat.zero_add]; done) | ((try simp only [LN] at *) <;> omega))); (focus (exact fun _ => rfl))) | (apply Z.fq_ro) | (apply Z.fq_int) | (apply Z.fq_bool) | apply And.intro)); (all_goals (try exact (fun _ => none))); all_goals (first | rfl | (refine Z.fq_oslg (l := List.replicate k ()) (l' := List.replicate k ()) (f := fun _ => ti39.zero.map Ce.v) (g := fun _ => zrow) (sz := 4) (ty := 39) (bx := false) ?_ ?_ (fun _ => rfl) ?_; (focus (rw [List.map_replicate]; rfl)); (focus (simp)); (focus (simp)))))
    | (exfalso; omega)
    | (fail)

end Go.Proofs.Ytakfkbciijahgaa
namespace Go.Proofs.Ytakfkbciijahgaa
open Go Go.RowKit Wx
set_option linter.unusedVariables false
set_option linter.unusedSimpArgs false
set_option maxHeartbeats 4000000
/-! ### New queues -/
abbrev q0 : Qu := ⟨[], 0, false, false⟩
theorem rd_q0 {R : Nat → Nat → Option Value} {k : Nat} {u : Value} (h : Rd R (.ro 4 ((List.replicate k ()).map fun _ => zrow)) u) : Rd R (.ro 4 ((List.replicate k q0).map eQ)) u := by
  cases k with
  | zero => exact h
  | succ k =>
    generalize hz : (List.replicate (k + 1) ()).map (fun _ => zrow) = Z at h
    have hlen : ((List.replicate (k + 1) q0).map eQ).length = Z.length := by rw [← hz]; simp
    cases h with
    | nil => simp at hz
    | emp => simp at hz
    | ro _ _ b o cap val hl hcap hc hr =>
      rw [← hlen]
      have key : ∀ (q : Nat) (row : List RT) (j : Nat) (t : RT), ((List.replicate (k + 1) q0).map eQ)[q]? = some row → row[j]? = some t → Z[q]? = some zrow ∧ row = eQ q0 := by
        intro q row j t h1 h2
        have hq := (List.getElem?_eq_some_iff.1 h1).1
        rw [List.length_map, List.length_replicate] at hq
        refine ⟨by rw [← hz]; simp [hq], ?_⟩
        rw [List.getElem?_map, List.getElem?_replicate, if_pos hq] at h1
        simpa using h1.symm
      refine .ro 4 _ b o cap val (fun row hrow => ?_) (by rw [hlen]; exact hcap) (fun q row j t h1 h2 => ?_) (fun q row j t h1 h2 => ?_)
      · obtain ⟨x, _, rfl⟩ := List.mem_map.1 hrow; rfl
      · obtain ⟨k1, rfl⟩ := key q row j t h1 h2
        have hj : j < 4 := (List.getElem?_eq_some_iff.1 h2).1
        rcases j with _ | _ | _ | _ | j
        · exact hc q zrow 0 _ k1 rfl
        · exact hc q zrow 1 _ k1 rfl
        · exact hc q zrow 2 _ k1 rfl
        · exact hc q zrow 3 _ k1 rfl
        · omega
      · obtain ⟨k1, rfl⟩ := key q row j t h1 h2
        have hj : j < 4 := (List.getElem?_eq_some_iff.1 h2).1
        rcases j with _ | _ | _ | _ | j
        · have h3 := hr q zrow 0 _ k1 rfl
          cases h2
          generalize val q 0 = v at h3
          cases h3
          exact Rd.nil 5
        · have h3 := hr q zrow 1 _ k1 rfl; cases h2; exact h3
        · have h3 := hr q zrow 2 _ k1 rfl; cases h2; exact h3
        · have h3 := hr q zrow 3 _ k1 rfl; cases h2; exact h3
        · omega
theorem nil_gate {k : Nat} {e : A0} {I : IM} {R : RM} {v : Value} (h : (AV.tup [.agg [.ro true 4 ((List.replicate k ()).map fun _ => zrow), .v (.int .u64 0), .v (.int .u64 0)], e]).rel I R v) : (AV.tup [.agg [.ro true 4 ((List.replicate k q0).map eQ), .v (.int .u64 0), .v (.int .u64 0)], e]).rel I R v := by
  obtain ⟨vs, h1, h2⟩ := h
  cases vs with
  | nil => exact h2.elim
  | cons x vs =>
    refine ⟨_, h1, ?_, h2.2⟩
    obtain ⟨us, h3, h4⟩ := h2.1
    cases us with
    | nil => exact h4.elim
    | cons y us => exact ⟨_, h3, rd_q0 h4.1, h4.2⟩
theorem conG_to {P : Program} {g : FuncId} {args : List A0} {X X' : AV} {K : Kr} {t : Nat} (h : Con P g args (fun rx rK rt => rx = X ∧ rK = K ∧ rt = t)) (hx : ∀ I R v, X.rel I R v → X'.rel I R v) : Con P g args (fun rx rK rt => rx = X' ∧ rK = K ∧ rt = t) :=
  ⟨h.fn, fun w vs hv => (h.run w vs hv).mono fun e w2 ⟨v, x, Kc, tc, I, Rf, h1, h2, h3, h4, h5, h6, h7, h8⟩ => ⟨v, X', Kc, tc, I, Rf, h1, h2, h3, h4, hx _ _ _ (h6 ▸ h5), rfl, h7, h8⟩⟩
theorem newq_con (k : Nat) (hk : 1 ≤ k ∧ k ≤ 16) : Con Try.prog 24 [.one (.v (.int .i64 (k : Int)))] (fun rx rK rt => rx = .tup [.agg [.ro true 4 ((List.replicate k q0).map eQ), .v (.int .u64 0), .v (.int .u64 0)], .one (.v (.int .i64 0))] ∧ rK = [] ∧ rt = 0) :=
  conG_to (new_ok k hk) fun _ _ _ h => nil_gate h
end Go.Proofs.Ytakfkbciijahgaa
namespace Go.Proofs.Ytakfkbciijahgaa
open Go Go.RowKit Wx
set_option linter.unusedVariables false
set_option linter.unusedSimpArgs false
set_option maxHeartbeats 4000000
/-! ### Filled and drained -/
abbrev rE (k : Nat) : El := ⟨1, 0, (k : Int), 0, 0⟩
abbrev bE : El := ⟨2, 0, 0, 0, 5⟩
def bq (k r : Nat) : Qu := ⟨List.replicate r (rE k) ++ [bE], 5, false, false⟩
def bp (k r : Nat) : Qu := ⟨List.replicate r (rE k), 0, false, false⟩
def helQ : Qu := ⟨[], 5, true, false⟩
def finQ : Qu := ⟨[], 5, false, false⟩
theorem tot_fin : ∀ {qs : List Qu}, (∀ q ∈ qs, q = finQ) → tot qs = 0
  | [], _ => rfl
  | q :: r, h => by
    rw [tot, tot_fin (fun x hx => h x (List.mem_cons_of_mem _ hx)), h q List.mem_cons_self]; rfl
theorem bq_ok : ∀ k, k < 4 → ∀ r, r < 3 → okQ (bq k r) = true := by decide
theorem bp_ok : ∀ k, k < 4 → ∀ r, r < 3 → okQ (bp k r) = true := by decide
theorem rE_ok : ∀ k, k < 4 → okE (rE k) = true := by decide
theorem q0_ok : okQ q0 = true := by decide
theorem okEs_mem : ∀ {l : List El}, okEs l = true → ∀ e ∈ l, okE e = true
  | [], _, e, h => by simp at h
  | a :: r, h, e, hm => by
    rw [okEs] at h
    simp only [Bool.and_eq_true] at h
    rcases List.mem_cons.1 hm with rfl | hm
    · exact h.1.1
    · exact okEs_mem h.2 e hm
theorem okQ_nn {q : Qu} (h : okQ q = true) : ∀ e ∈ q.es, 0 ≤ e.num := fun e he => by
  have := okE_kd (okEs_mem (by unfold okQ at h; simp only [Bool.and_eq_true] at h; exact h.1.2) e he)
  omega
theorem okG_0 {qs : List Qu} (hl : 1 ≤ qs.length ∧ qs.length ≤ 16) (h : ∀ q ∈ qs, okQ q = true ∧ q.held = false) : okG qs 0 0 = true := by
  have ha : anyH qs = false := by
    unfold anyH; rw [List.any_eq_false]; intro q hq; rw [(h q hq).2]; simp
  have hb : qs.all okQ = true := List.all_eq_true.2 fun q hq => (h q hq).1
  unfold okG
  rw [ha, hb, decide_eq_true ⟨hl, by decide, by decide⟩]
  rfl
def B1 (m k : Nat) (qs : List Qu) : Prop := qs.length = m ∧ (∀ i, i < k → ∃ r, r ≤ 2 ∧ qs[i]? = some (bq i r)) ∧ ∀ i, k ≤ i → i < m → qs[i]? = some q0
def B2 (m k j : Nat) (qs : List Qu) : Prop := qs.length = m ∧ (∀ i, i < k → ∃ r, r ≤ 2 ∧ qs[i]? = some (bq i r)) ∧ (∀ i, k < i → i < m → qs[i]? = some q0) ∧ qs[k]? = some (bp k j)
theorem b1_0 {m : Nat} : B1 m 0 (List.replicate m q0) := ⟨by simp, fun i h => by omega, fun i _ h => by rw [List.getElem?_replicate, if_pos h]⟩
theorem b1_2 {m k : Nat} {qs : List Qu} (h : B1 m k qs) (hk : k < m) : B2 m k 0 qs := ⟨h.1, h.2.1, fun i h1 h2 => h.2.2 i (by omega) h2, h.2.2 k (Nat.le_refl _) hk⟩
theorem b2_all {m k j : Nat} {qs : List Qu} (h : B2 m k j qs) (hm : m ≤ 4) (hk : k < m) (hj : j ≤ 2) : ∀ q ∈ qs, okQ q = true ∧ q.held = false := fun q hq => by
  obtain ⟨i, hi⟩ := List.getElem?_of_mem hq
  have hl := (List.getElem?_eq_some_iff.1 hi).1
  rw [h.1] at hl
  rcases Nat.lt_trichotomy i k with h1 | h1 | h1
  · obtain ⟨r, hr, h2⟩ := h.2.1 i h1
    rw [hi] at h2
    cases Option.some.inj h2
    exact ⟨bq_ok i (by omega) r (by omega), rfl⟩
  · subst h1
    have h2 := h.2.2.2
    rw [hi] at h2
    cases Option.some.inj h2
    exact ⟨bp_ok i (by omega) j (by omega), rfl⟩
  · have h2 := h.2.2.1 i h1 hl
    rw [hi] at h2
    cases Option.some.inj h2
    exact ⟨q0_ok, rfl⟩
theorem bp_cls {k j : Nat} (hk : k < 4) (hj : j < 3) : clsQ (bp k j) = false := by
  revert j; revert k; decide
theorem bp_push {k j : Nat} : pushQ (rE k) (bp k j) = bp k (j + 1) := by
  unfold pushQ bp
  simp [List.replicate_succ']
theorem bp_bar {k j : Nat} : pushQ bE (bp k j) = bq k j := by
  unfold pushQ bp bq
  simp
theorem b2_push {m k j : Nat} {qs : List Qu} (h : B2 m k j qs) (hm : 1 ≤ m ∧ m ≤ 4) (hk : k < m) (hj : j ≤ 2) (e : El) (he : okE e = true) (hb : ¬ (e.kd = 2 ∧ e.num ≤ 0)) : pushR qs 0 0 (k : Int) e = (qs.set k (pushQ e (bp k j)), 0, 0, 0) := by
  have ha := b2_all h hm.2 hk hj
  unfold pushR
  rw [okG_0 (by rw [h.1]; omega) ha, cond_true, if_pos ⟨by omega, by rw [h.1]; omega⟩, he, cond_true, Int.toNat_natCast, h.2.2.2]
  simp only [bp_cls (show k < 4 by omega) (show j < 3 by omega), cond_false]
  rw [if_neg (show ¬ (e.kd = 2 ∧ e.num ≤ (bp k j).last) from hb), if_neg (by simp [bp]; omega)]
theorem b2_rec {m k j : Nat} {qs : List Qu} (h : B2 m k j qs) (hk : k < m) : B2 m k (j + 1) (qs.set k (bp k (j + 1))) :=
  ⟨by rw [List.length_set]; exact h.1, fun i hi => by rw [List.getElem?_set_ne (by omega)]; exact h.2.1 i hi, fun i hi hm => by rw [List.getElem?_set_ne (by omega)]; exact h.2.2.1 i hi hm, List.getElem?_set_self (by rw [h.1]; exact hk)⟩
theorem b2_bar {m k j : Nat} {qs : List Qu} (h : B2 m k j qs) (hk : k < m) (hj : j ≤ 2) : B1 m (k + 1) (qs.set k (bq k j)) :=
  ⟨by rw [List.length_set]; exact h.1, fun i hi => by
    by_cases hik : i = k
    · subst hik; exact ⟨j, hj, List.getElem?_set_self (by rw [h.1]; exact hk)⟩
    · rw [List.getElem?_set_ne (Ne.symm hik)]; exact h.2.1 i (by omega), fun i hi hm => by rw [List.getElem?_set_ne (by omega)]; exact h.2.2.1 i (by omega) hm⟩
def actQ (q : Qu) : Prop := ∃ c r, c < 4 ∧ r ≤ 2 ∧ q = bq c r
def St (m : Nat) (qs : List Qu) (n d told : Int) : Prop := qs.length = m ∧ ((told = 0 ∧ d = 0 ∧ n = (if anyH qs = true then 5 else 0) ∧ (∀ q ∈ qs, actQ q ∨ q = helQ) ∧ ∃ q ∈ qs, actQ q) ∨ (told = 1 ∧ d = 5 ∧ n = 0 ∧ ∀ q ∈ qs, q = finQ))
theorem act_ok {q : Qu} (h : actQ q) : okQ q = true ∧ q.held = false ∧ q.ended = false ∧ rdQ q = true := by
  obtain ⟨c, r, hc, hr, rfl⟩ := h
  refine ⟨bq_ok c hc r (by omega), rfl, rfl, ?_⟩
  unfold rdQ bq; simp
theorem st_0 {m : Nat} {qs : List Qu} (h : B1 m m qs) (hm : 1 ≤ m ∧ m ≤ 4) : St m qs 0 0 0 := by
  have ha : ∀ q ∈ qs, actQ q := fun q hq => by
    obtain ⟨i, hi⟩ := List.getElem?_of_mem hq
    have hl := (List.getElem?_eq_some_iff.1 hi).1
    rw [h.1] at hl
    obtain ⟨r, hr, h2⟩ := h.2.1 i hl
    rw [hi] at h2
    exact ⟨i, r, by omega, hr, Option.some.inj h2⟩
  have hh : anyH qs = false := by
    unfold anyH; rw [List.any_eq_false]; intro q hq; rw [(act_ok (ha q hq)).2.1]; simp
  refine ⟨h.1, .inl ⟨rfl, rfl, by rw [hh]; rfl, fun q hq => .inl (ha q hq), ?_⟩⟩
  obtain ⟨q, hq⟩ := getElem?_some' (xs := qs) (i := 0) (by rw [h.1]; omega)
  exact ⟨q, List.mem_of_getElem? hq, ha q (List.mem_of_getElem? hq)⟩
theorem st_okQ {m : Nat} {qs : List Qu} {n d t : Int} (h : St m qs n d t) : ∀ q ∈ qs, okQ q = true := fun q hq => by
  rcases h.2 with ⟨_, _, _, h4, _⟩ | ⟨_, _, _, h4⟩
  · rcases h4 q hq with h5 | rfl
    · exact (act_ok h5).1
    · decide
  · rw [h4 q hq]; decide
theorem st_ok {m : Nat} {qs : List Qu} {n d t : Int} (h : St m qs n d t) (hm : 1 ≤ m ∧ m ≤ 4) : okG qs n d = true := by
  have hq : qs.all okQ = true := List.all_eq_true.2 (st_okQ h)
  have hl : 1 ≤ qs.length ∧ qs.length ≤ 16 := by rw [h.1]; omega
  unfold okG
  rcases h.2 with ⟨_, rfl, h3, h4, q, hqm, hqa⟩ | ⟨_, rfl, rfl, h4⟩
  · have hD : allD qs = false := by
      unfold allD; rw [List.all_eq_false]
      exact ⟨q, hqm, by rw [(act_ok hqa).2.1, (act_ok hqa).2.2.1]; simp⟩
    cases hh : anyH qs
    · rw [hh] at h3
      rw [if_neg (by simp)] at h3
      subst h3
      rw [hq, decide_eq_true ⟨hl, by decide, by decide⟩]; rfl
    · rw [hh, if_pos rfl] at h3
      subst h3
      rw [hq, hD, decide_eq_true ⟨hl, by decide, by decide⟩]; rfl
  · have hh : anyH qs = false := by
      unfold anyH; rw [List.any_eq_false]; intro q hq; rw [h4 q hq]; simp [finQ]
    rw [hh, hq, decide_eq_true ⟨hl, by decide, by decide⟩]; rfl
theorem st_end {m : Nat} {qs : List Qu} {n d t : Int} (h : St m qs n d t) (ho : openL qs qs.length = []) : t = 1 ∧ d = 5 ∧ n = 0 ∧ tot qs = 0 := by
  rcases h.2 with ⟨_, _, _, _, q, hqm, hqa⟩ | ⟨h1, h2, h3, h4⟩
  · obtain ⟨i, hi⟩ := List.getElem?_of_mem hqm
    have := openL_nil ho i q (List.getElem?_eq_some_iff.1 hi).1 hi
    rw [(act_ok hqa).2.2.2] at this; cases this
  · exact ⟨h1, h2, h3, tot_fin h4⟩
theorem any_set {p : Qu → Bool} {y : Qu} : ∀ {qs : List Qu} {k : Nat} {x : Qu}, qs[k]? = some x → p y = p x → (qs.set k y).any p = qs.any p
  | [], k, x, h, _ => by simp at h
  | a :: r, 0, x, h, hp => by
    have : a = x := by simpa using h
    subst this
    rw [List.set_cons_zero, List.any_cons, List.any_cons, hp]
  | a :: r, k + 1, x, h, hp => by
    rw [List.set_cons_succ, List.any_cons, List.any_cons, any_set (qs := r) (k := k) (by simpa using h) hp]
theorem openL_mem {qs : List Qu} {z : Int} : ∀ {k : Nat}, z ∈ openL qs k → ∃ (i : Nat) (x : Qu), z = (i : Int) ∧ qs[i]? = some x ∧ rdQ x = true
  | 0, h => by simp [openL] at h
  | k + 1, h => by
    rw [openL, List.mem_append] at h
    rcases h with h | h
    · exact openL_mem h
    · cases hx : qs[k]? with
      | none => rw [hx] at h; simp at h
      | some q =>
        rw [hx] at h
        by_cases hr : rdQ q = true
        · simp [hr] at h; exact ⟨k, q, h, hx, hr⟩
        · simp [hr] at h
theorem tot_set {y : Qu} : ∀ {qs : List Qu} {k : Nat} {x : Qu}, qs[k]? = some x → tot (qs.set k y) + x.es.length = tot qs + y.es.length
  | [], k, x, h => by simp at h
  | a :: r, 0, x, h => by
    have : a = x := by simpa using h
    subst this
    rw [List.set_cons_zero, tot, tot]; omega
  | a :: r, k + 1, x, h => by
    have := tot_set (y := y) (qs := r) (k := k) (x := x) (by simpa using h)
    rw [List.set_cons_succ, tot, tot]; omega
theorem rel_id : ∀ {qs : List Qu}, anyH qs = false → qs.map relQ = qs
  | [], _ => rfl
  | q :: r, h => by
    unfold anyH at h
    rw [List.any_cons, Bool.or_eq_false_iff] at h
    rw [List.map_cons, rel_id (qs := r) h.2]
    congr 1
    unfold relQ
    cases q; simp at h; simp [h.1]
theorem tot_rel : ∀ {qs : List Qu}, tot (qs.map relQ) = tot qs
  | [] => rfl
  | q :: r => by rw [List.map_cons, tot, tot, tot_rel]; rfl
/-- A step of the draining. -/
theorem st_held {m k : Nat} {qs : List Qu} {x : Qu} {t : Int} {c : Nat} (hl : qs.length = m) (h4 : ∀ q ∈ qs, actQ q ∨ q = helQ) (hx : qs[k]? = some x) (hc : x = bq c 0) :
    ∃ (qs' : List Qu) (n' d' : Int) (e : El) (b : Bool), setR (qs.set k (heldQ (dropQ x))) 5 0 = (qs', n', d', e, b, 0) ∧ tot qs' + 1 = tot qs ∧ ((b = false ∧ St m qs' n' d' 0) ∨ (b = true ∧ e.kd = 2 ∧ e.num = 5 ∧ St m qs' n' d' 1 ∧ tot qs' = 0)) := by
  have hk := (List.getElem?_eq_some_iff.1 hx).1
  have hhel : heldQ (dropQ x) = helQ := by subst hc; rfl
  have hxl : x.es.length = 1 := by subst hc; rfl
  rw [hhel]
  have ht := tot_set (y := helQ) hx
  rw [hxl, show helQ.es.length = 0 from rfl] at ht
  have hall : ∀ q ∈ qs.set k helQ, actQ q ∨ q = helQ := fun q hq => by
    rcases List.mem_or_eq_of_mem_set hq with h | h
    · exact h4 q h
    · exact .inr h
  have hE : allE (qs.set k helQ) = false := set_no hk rfl
  unfold setR
  cases hD : allD (qs.set k helQ) with
  | true =>
    have hfin : ∀ q ∈ qs.set k helQ, q = helQ := fun q hq => by
      rcases hall q hq with h | h
      · unfold allD at hD
        have := List.all_eq_true.1 hD q hq
        rw [(act_ok h).2.1, (act_ok h).2.2.1] at this; simp at this
      · exact h
    have hf2 : ∀ q ∈ (qs.set k helQ).map relQ, q = finQ := fun q hq => by
      obtain ⟨y, hy, rfl⟩ := List.mem_map.1 hq
      rw [hfin y hy]; rfl
    have h0 := tot_fin hf2
    rw [if_pos ⟨by decide, rfl⟩]
    refine ⟨_, _, _, _, _, rfl, ?_, .inr ⟨rfl, rfl, rfl, ⟨by simp [hl], .inr ⟨rfl, rfl, rfl, hf2⟩⟩, h0⟩⟩
    rw [tot_rel]; omega
  | false =>
    rw [if_neg (by simp), if_neg (by rw [hE]; simp)]
    refine ⟨_, _, _, _, _, rfl, by omega, .inl ⟨rfl, by simp [hl], .inl ⟨rfl, rfl, ?_, hall, ?_⟩⟩⟩
    · have : anyH (qs.set k helQ) = true := by
        unfold anyH; exact List.any_eq_true.2 ⟨helQ, List.mem_of_getElem? (List.getElem?_set_self hk), rfl⟩
      rw [this]; rfl
    · unfold allD at hD
      rw [List.all_eq_false] at hD
      obtain ⟨q, hq, h5⟩ := hD
      rcases hall q hq with h | h
      · exact ⟨q, hq, h⟩
      · subst h; exact absurd rfl h5
theorem st_take {m k : Nat} {qs : List Qu} {n d t : Int} {x : Qu} (h : St m qs n d t) (hm : 1 ≤ m ∧ m ≤ 4) (hx : qs[k]? = some x) (hr : rdQ x = true) :
    ∃ (qs' : List Qu) (n' d' : Int) (e : El) (b : Bool), takeR qs n d (k : Int) = (qs', n', d', e, b, 0) ∧ tot qs' + 1 = tot qs ∧ t = 0 ∧ (((b = false ∨ e.kd = 1) ∧ St m qs' n' d' 0) ∨ (b = true ∧ e.kd = 2 ∧ e.num = 5 ∧ St m qs' n' d' 1 ∧ tot qs' = 0)) := by
  have hk := (List.getElem?_eq_some_iff.1 hx).1
  have hok := st_ok h hm
  have hxm := List.mem_of_getElem? hx
  rcases h.2 with ⟨rfl, rfl, h3, h4, q, hqm, hqa⟩ | ⟨_, _, _, h4⟩
  rotate_left
  · rw [h4 x hxm] at hr; cases hr
  rcases h4 x hxm with ⟨c, r, hc, hr2, rfl⟩ | rfl
  rotate_left
  · cases hr
  have hR : ∀ e l, (bq c r).es = e :: l → takeR qs n 0 (k : Int) = takeX qs n 0 k (bq c r) e := fun e l he => by
    unfold takeR; rw [hok, cond_true, if_pos ⟨by omega, by omega⟩, Int.toNat_natCast, hx]; simp only [hr, he, cond_true]
  have hte : ∀ y : Qu, tot (qs.set k y) + (bq c r).es.length = tot qs + y.es.length := fun y => tot_set hx
  cases r with
  | succ r =>
    rw [hR (rE c) (List.replicate r (rE c) ++ [bE]) rfl]
    unfold takeX
    rw [if_pos rfl]
    refine ⟨_, _, _, _, _, rfl, ?_, rfl, .inl ⟨.inr rfl, ?_⟩⟩
    · have := hte (dropQ (bq c (r + 1)))
      simp [dropQ, bq] at this ⊢; omega
    have hd : dropQ (bq c (r + 1)) = bq c r := rfl
    rw [hd]
    have ha : actQ (bq c r) := ⟨c, r, hc, by omega, rfl⟩
    refine ⟨by rw [List.length_set]; exact h.1, .inl ⟨rfl, rfl, ?_, fun q hq => ?_, bq c r, List.mem_of_getElem? (List.getElem?_set_self hk), ha⟩⟩
    · rw [h3]
      have : anyH (qs.set k (bq c r)) = anyH qs := any_set (p := fun q => q.held) hx rfl
      rw [this]
    · rcases List.mem_or_eq_of_mem_set hq with h5 | h5
      · exact h4 q h5
      · exact .inl (h5 ▸ ha)
  | zero =>
    rw [hR bE [] rfl]
    unfold takeX
    rw [if_neg (by decide), if_neg (by decide)]
    cases hh : anyH qs
    · rw [hh, if_neg (by simp)] at h3
      subst h3
      rw [if_neg (by decide), if_neg (by decide), rel_id hh]
      obtain ⟨qs', n', d', e, b, g1, g2, g3⟩ := st_held (t := 0) h.1 h4 hx rfl
      exact ⟨qs', n', d', e, b, g1, g2, rfl, g3.imp (fun h => ⟨.inl h.1, h.2⟩) id⟩
    · rw [hh, if_pos rfl] at h3
      subst h3
      rw [if_neg (by decide), if_pos rfl]
      obtain ⟨qs', n', d', e, b, g1, g2, g3⟩ := st_held (t := 0) h.1 h4 hx rfl
      exact ⟨qs', n', d', e, b, g1, g2, rfl, g3.imp (fun h => ⟨.inl h.1, h.2⟩) id⟩
end Go.Proofs.Ytakfkbciijahgaa
namespace Go.Proofs.Ytakfkbciijahgaa
open Go Go.RowKit Wx
set_option linter.unusedVariables false
set_option linter.unusedSimpArgs false
set_option maxHeartbeats 4000000
theorem vN_tmq {p q : Int} {A : Int → Prop} (hp : 0 ≤ p) (hq : 0 < q) (h : ∀ r, 0 ≤ r → r < q → A r) : vN (p.tmod q) A := vN_mk (h _ (Int.tmod_nonneg _ hp) (Int.tmod_lt_of_pos _ hq))
theorem ixN_mod {p : Int} {m : Nat} {A : Nat → Prop} (hp : 0 ≤ p) (hm : 0 < m) (k : ∀ r : Nat, r < m → A r) : ixN (p % (m : Int)) m A := by
  have h1 := Int.emod_nonneg p (show (m : Int) ≠ 0 by omega)
  have h2 := Int.emod_lt_of_pos p (show (0 : Int) < m by omega)
  exact ixN_mk (p % (m : Int)).toNat (by omega) (by omega) (k _ (by omega))
theorem facts {qs : List Qu} {m : Nat} (hm : qs.length = m) (h4 : m ≤ 4) (h : ∀ q ∈ qs, okQ q = true) : qs.length ≤ 9223372036854775807 ∧ (∀ q ∈ qs, q.es.length ≤ 9223372036854775807) ∧ (∀ q ∈ qs, ∀ e ∈ q.es, 0 ≤ e.num) :=
  ⟨by omega, fun q hq => by have := okQ_len (h q hq); omega, fun q hq => okQ_nn (h q hq)⟩
theorem tot_m {qs : List Qu} {m : Nat} (hm : qs.length = m) (h4 : m ≤ 4) (h : ∀ q ∈ qs, okQ q = true) : tot qs ≤ 16 := by
  have := tot_le (k := 4) fun q hq => okQ_len (h q hq)
  omega
theorem gatedrains_con (a0 : Int) (bs pk : List Int) (hbl : bs.length ≤ 9223372036854775807) (hpl : pk.length ≤ 9223372036854775807) : Con Try.prog 8 [.one (.v (.int .i64 a0)), .one (.ro false 1 (bs.map eI)), .one (.ro false 1 (pk.map eI))] (fun rx rK rt => rx = .val (.bool true) ∧ rK = [] ∧ rt = 0) := by
  refine Z.con_ofF tabOk 150 Try.f8 _ Try.func8 (by kernel_rfl) rfl rfl rfl rfl ?_
  repeat' ((conv => whnf); first
    | ((with_reducible apply spB_cong); (focus (simp only [beq_self_eq_true, bne_self_eq_false, Bool.true_bne, Bool.false_bne, Bool.bne_true, Bool.bne_false, Bool.true_beq, Bool.false_beq, Bool.not_true, Bool.not_false, Bool.not_not, Int.reduceBEq, Int.reduceBNe, Int.reduceLE, Int.reduceLT, Int.reduceEq, decide_true, decide_false]; rfl)))
    | with_reducible first | refine spB_no (by decide) ?_
    | ((with_reducible refine vN_tmq (q := 4) ?_ ?_ ?_); (focus (exact Int.le_max_right _ _)); (focus omega); intro w0 hw1 hw2; obtain ⟨w, rfl⟩ := Int.eq_ofNat_of_zero_le hw1; have cn := newq_con (w + 1) (by omega); simp only [Int.natCast_add, Int.natCast_one] at cn)
    | with_reducible refine wr_i64 (by first | omega | (simp only [LN] at *; omega)) ?_
    | with_reducible refine nzN_mk (by omega) ?_
    | ((first | (with_reducible refine Z.callZ_mk ?_ (wakes_con) ?_) | (with_reducible refine Z.callZ_mk ?_ (cn) ?_)); (focus ((repeat' (first | exact trivial | exact rfl | apply And.intro)); done))))
  all_goals (try (conv => whnf))
  all_goals try (show Nat.ble _ _ = true; rfl)
  all_goals try (exfalso; rename_i hz; cases hz; done)
  all_goals try (exfalso; (try simp only [LN] at *) <;> omega)
  refine Z.loopK tabOk (fun zq : Nat × List Qu => [(38, .val (.int .i64 (zq.1 : Int)))]) (fun zq : Nat × List Qu => ([(0, some (Z.Ob.b ⟨[[.ro true 4 (zq.2.map eQ), .v (.int .u64 0), .v (.int .u64 0)]], 3, 25, true⟩))] : Z.Kr)) (fun zq => zq.1 ≤ w + 1 ∧ B1 (w + 1) zq.1 zq.2) (fun zq => w + 1 - zq.1) (0, List.replicate (w + 1) q0) 1 [(1, _), (2, _), (7, _), (37, _)] ⟨rfl, rfl, rfl, rfl, trivial⟩ [] trivial ?_ ?_ rfl rfl ⟨Nat.zero_le _, b1_0⟩ ?_
  · repeat' (first | exact trivial | apply And.intro | exact ⟨_, rfl, Z.Imp.refl _⟩)
  · repeat' (first | exact trivial | exact (fun b hb => ⟨b, hb, Z.ImpO.refl b⟩) | apply And.intro)
  rintro ⟨k, qs⟩ HINV
  dsimp only at HINV ⊢
  obtain ⟨HK, HB⟩ := HINV
  by_cases hk : k < w + 1
  · skip
    repeat' ((conv => whnf); first
      | (with_reducible refine spB_dec ?_ ?_ <;> intro _ <;> (try (exfalso; first | contradiction | omega | (rename_i hz; refine hz ?_; simp; done) | (rename_i hz; simp at hz; done) | (simp only [LN] at *; omega))))
      | ((with_reducible refine vN_tmq (q := 3) ?_ ?_ ?_); (focus (exact Int.le_max_right _ _)); (focus omega); intro r0 hr1 hr2)
      | ((with_reducible apply ixN_litp); (focus (exact rfl)); (focus ((try simp only [LN] at *) <;> omega)))
      | ((with_reducible refine rowN_map ?_ ?_); (focus ((try simp only [LN] at *) <;> omega)); intro x hx)
      | with_reducible refine nzN_mk (by omega) ?_)
    all_goals (try (conv => whnf))
    all_goals try (show Nat.ble _ _ = true; rfl)
    all_goals try (exfalso; rename_i hz; cases hz; done)
    all_goals try (exfalso; (try simp only [LN] at *) <;> omega)
    · skip
      refine Z.loopK tabOk (fun zq : Nat × List Qu => [(52, .val (.int .i64 (zq.1 : Int)))]) (fun zq : Nat × List Qu => ([(0, some (Z.Ob.b ⟨[[.ro true 4 (zq.2.map eQ), .v (.int .u64 0), .v (.int .u64 0)]], 3, 25, true⟩))] : Z.Kr)) (fun zq => (zq.1 : Int) ≤ r0 ∧ B2 (w + 1) k zq.1 zq.2) (fun zq => (r0 : Int).toNat - zq.1) (0, qs) 1 [(1, _), (2, _), (7, _), (9, _), (37, _), (38, _), (51, _)] ⟨rfl, rfl, rfl, rfl, rfl, rfl, rfl, trivial⟩ [] trivial ?_ ?_ rfl rfl ⟨by (try dsimp only); omega, b1_2 HB hk⟩ ?_
      · repeat' (first | exact trivial | apply And.intro | exact ⟨_, rfl, Z.Imp.refl _⟩)
      · repeat' (first | exact trivial | exact (fun b hb => ⟨b, hb, Z.ImpO.refl b⟩) | apply And.intro)
      rintro ⟨j, qz⟩ HINV
      dsimp only at HINV ⊢
      obtain ⟨HJ, HB2⟩ := HINV
      obtain ⟨hq, hlq, huq⟩ := facts HB2.1 (by omega) (fun q h => (b2_all HB2 (by omega) hk (by omega) q h).1)
      by_cases hj : (j : Int) < r0
      · skip
        have hpb := b2_push HB2 ⟨by omega, by omega⟩ hk (by omega) (rE k) (rE_ok k (by omega)) (by simp)
        rw [bp_push] at hpb
        have cp := push_con qz 0 0 (k : Int) (rE k) hq hlq huq (by simp)
        rw [hpb] at cp
        dsimp only at cp
        repeat' ((conv => whnf); first
          | ((with_reducible apply spB_cong); (focus (simp only [beq_self_eq_true, bne_self_eq_false, Bool.true_bne, Bool.false_bne, Bool.bne_true, Bool.bne_false, Bool.true_beq, Bool.false_beq, Bool.not_true, Bool.not_false, Bool.not_not, Int.reduceBEq, Int.reduceBNe, Int.reduceLE, Int.reduceLT, Int.reduceEq, decide_true, decide_false]; rfl)))
          | with_reducible first | refine spB_no (by decide) ?_
          | (with_reducible refine spB_dec ?_ ?_ <;> intro _ <;> (try (exfalso; first | contradiction | omega | (rename_i hz; refine hz ?_; simp; done) | (rename_i hz; simp at hz; done) | (simp only [LN] at *; omega))))
          | with_reducible refine wr_i64 (by first | omega | (simp only [LN] at *; omega)) ?_
          | ((first | (with_reducible refine Z.callZ_mk ?_ (cp) ?_)); (focus ((repeat' (first | exact trivial | exact rfl | apply And.intro)); done))))
        all_goals (try (conv => whnf))
        all_goals try (show Nat.ble _ _ = true; rfl)
        all_goals first
          | ((refine Z.rndK ((j + 1, qz.set k (bp k (j + 1)))) (fun s => [0]) rfl rfl rfl rfl ?_ ?_ ?_ ?_); (focus (repeat' (first | exact trivial | exact rfl | apply And.intro))); (focus (repeat' (first | exact trivial | (intro b hb; cases hb; rfl) | apply And.intro))); (focus (exact ⟨by (try dsimp only); omega, b2_rec HB2 hk⟩)); ((try dsimp only); omega))
      · skip
        have hpb := b2_push HB2 ⟨by omega, by omega⟩ hk (by omega) bE (by decide) (by decide)
        rw [bp_bar] at hpb
        have cp := push_con qz 0 0 (k : Int) bE hq hlq huq (by simp)
        rw [hpb] at cp
        dsimp only at cp
        repeat' ((conv => whnf); first
          | ((with_reducible apply spB_cong); (focus (simp only [beq_self_eq_true, bne_self_eq_false, Bool.true_bne, Bool.false_bne, Bool.bne_true, Bool.bne_false, Bool.true_beq, Bool.false_beq, Bool.not_true, Bool.not_false, Bool.not_not, Int.reduceBEq, Int.reduceBNe, Int.reduceLE, Int.reduceLT, Int.reduceEq, decide_true, decide_false]; rfl)))
          | with_reducible first | refine spB_no (by decide) ?_
          | (with_reducible refine spB_dec ?_ ?_ <;> intro _ <;> (try (exfalso; first | contradiction | omega | (rename_i hz; refine hz ?_; simp; done) | (rename_i hz; simp at hz; done) | (simp only [LN] at *; omega))))
          | with_reducible refine wr_i64 (by first | omega | (simp only [LN] at *; omega)) ?_
          | ((first | (with_reducible refine Z.callZ_mk ?_ (cp) ?_)); (focus ((repeat' (first | exact trivial | exact rfl | apply And.intro)); done))))
        all_goals (try (conv => whnf))
        all_goals try (show Nat.ble _ _ = true; rfl)
        all_goals first
          | ((refine Z.rndK ((k + 1, qz.set k (bq k j))) (fun s => [0]) rfl rfl rfl rfl ?_ ?_ ?_ ?_); (focus (repeat' (first | exact trivial | exact rfl | apply And.intro))); (focus (repeat' (first | exact trivial | (intro b hb; cases hb; rfl) | apply And.intro))); (focus (exact ⟨by (try dsimp only); omega, b2_bar HB2 hk (by omega)⟩)); ((try dsimp only); omega))
    · skip
      refine Z.loopK tabOk (fun zq : Nat × List Qu => [(52, .val (.int .i64 (zq.1 : Int)))]) (fun zq : Nat × List Qu => ([(0, some (Z.Ob.b ⟨[[.ro true 4 (zq.2.map eQ), .v (.int .u64 0), .v (.int .u64 0)]], 3, 25, true⟩))] : Z.Kr)) (fun zq => (zq.1 : Int) ≤ 0 ∧ B2 (w + 1) k zq.1 zq.2) (fun zq => (0 : Int).toNat - zq.1) (0, qs) 1 [(1, _), (2, _), (7, _), (9, _), (37, _), (38, _), (51, _)] ⟨rfl, rfl, rfl, rfl, rfl, rfl, rfl, trivial⟩ [] trivial ?_ ?_ rfl rfl ⟨by (try dsimp only); omega, b1_2 HB hk⟩ ?_
      · repeat' (first | exact trivial | apply And.intro | exact ⟨_, rfl, Z.Imp.refl _⟩)
      · repeat' (first | exact trivial | exact (fun b hb => ⟨b, hb, Z.ImpO.refl b⟩) | apply And.intro)
      rintro ⟨j, qz⟩ HINV
      dsimp only at HINV ⊢
      obtain ⟨HJ, HB2⟩ := HINV
      obtain ⟨hq, hlq, huq⟩ := facts HB2.1 (by omega) (fun q h => (b2_all HB2 (by omega) hk (by omega) q h).1)
      by_cases hj : (j : Int) < 0
      · skip
        have hpb := b2_push HB2 ⟨by omega, by omega⟩ hk (by omega) (rE k) (rE_ok k (by omega)) (by simp)
        rw [bp_push] at hpb
        have cp := push_con qz 0 0 (k : Int) (rE k) hq hlq huq (by simp)
        rw [hpb] at cp
        dsimp only at cp
        repeat' ((conv => whnf); first
          | (with_reducible refine spB_dec ?_ ?_ <;> intro _ <;> (try (exfalso; first | contradiction | omega | (rename_i hz; refine hz ?_; simp; done) | (rename_i hz; simp at hz; done) | (simp only [LN] at *; omega)))))
        all_goals (try (conv => whnf))
        all_goals try (show Nat.ble _ _ = true; rfl)
        all_goals first
          | ((refine Z.rndK ((j + 1, qz.set k (bp k (j + 1)))) (fun s => [0]) rfl rfl rfl rfl ?_ ?_ ?_ ?_); (focus (repeat' (first | apply And.intro))); (focus (repeat' (first | apply And.intro))); (focus (exact ⟨by (try dsimp only); omega, b2_rec HB2 hk⟩)); ((try dsimp only); omega))
      · skip
        have hpb := b2_push HB2 ⟨by omega, by omega⟩ hk (by omega) bE (by decide) (by decide)
        rw [bp_bar] at hpb
        have cp := push_con qz 0 0 (k : Int) bE hq hlq huq (by simp)
        rw [hpb] at cp
        dsimp only at cp
        repeat' ((conv => whnf); first
          | ((with_reducible apply spB_cong); (focus (simp only [beq_self_eq_true, bne_self_eq_false, Bool.true_bne, Bool.false_bne, Bool.bne_true, Bool.bne_false, Bool.true_beq, Bool.false_beq, Bool.not_true, Bool.not_false, Bool.not_not, Int.reduceBEq, Int.reduceBNe, Int.reduceLE, Int.reduceLT, Int.reduceEq, decide_true, decide_false]; rfl)))
          | with_reducible first | refine spB_no (by decide) ?_
          | (with_reducible refine spB_dec ?_ ?_ <;> intro _ <;> (try (exfalso; first | contradiction | omega | (rename_i hz; refine hz ?_; simp; done) | (rename_i hz; simp at hz; done) | (simp only [LN] at *; omega))))
          | with_reducible refine wr_i64 (by first | omega | (simp only [LN] at *; omega)) ?_
          | ((first | (with_reducible refine Z.callZ_mk ?_ (cp) ?_)); (focus ((repeat' (first | exact trivial | exact rfl | apply And.intro)); done))))
        all_goals (try (conv => whnf))
        all_goals try (show Nat.ble _ _ = true; rfl)
        all_goals first
          | ((refine Z.rndK ((k + 1, qz.set k (bq k j))) (fun s => [0]) rfl rfl rfl rfl ?_ ?_ ?_ ?_); (focus (repeat' (first | exact trivial | exact rfl | apply And.intro))); (focus (repeat' (first | exact trivial | (intro b hb; cases hb; rfl) | apply And.intro))); (focus (exact ⟨by (try dsimp only); omega, b2_bar HB2 hk (by omega)⟩)); ((try dsimp only); omega))
  have hkw : k = w + 1 := by omega
  subst hkw
  have hst := st_0 HB ⟨by omega, by omega⟩
  obtain ⟨hq, hlq, huq⟩ := facts HB.1 (by omega) (st_okQ hst)
  have hto := tot_m HB.1 (by omega) (st_okQ hst)
  have cf := full_con qs 0 0 hq hlq huq
  rw [st_ok hst ⟨by omega, by omega⟩] at cf
  simp only [cond_true] at cf
  repeat' ((conv => whnf); first
    | (with_reducible refine spB_dec ?_ ?_ <;> intro _ <;> (try (exfalso; first | contradiction | omega | (rename_i hz; refine hz ?_; simp; done) | (rename_i hz; simp at hz; done) | (simp only [LN] at *; omega))))
    | with_reducible refine wr_i64 (by first | omega | (simp only [LN] at *; omega)) ?_
    | ((first | (with_reducible refine Z.callZ_mk ?_ (cf) ?_)); (focus ((repeat' (first | exact trivial | exact rfl | apply And.intro)); done))))
  all_goals (try (conv => whnf))
  all_goals try (show Nat.ble _ _ = true; rfl)
  all_goals try (exfalso; rename_i hz; cases hz; done)
  all_goals try (exfalso; (try simp only [LN] at *) <;> omega)
  refine Z.loopK tabOk (fun zq : Nat × List Qu × Int × Int × Int => [(82, .val (.int .i64 (zq.1 : Int))), (16, .val (.int .i64 zq.2.2.2.2))]) (fun zq : Nat × List Qu × Int × Int × Int => ([(0, some (Z.Ob.b ⟨[[.ro true 4 (zq.2.1.map eQ), .v (.int .u64 zq.2.2.1), .v (.int .u64 zq.2.2.2.1)]], 3, 25, true⟩))] : Z.Kr)) (fun zq => zq.1 + tot zq.2.1 = tot qs ∧ St (w + 1) zq.2.1 zq.2.2.1 zq.2.2.2.1 zq.2.2.2.2) (fun zq => tot qs + 1 - zq.1) (0, qs, 0, 0, 0) 1 [(2, _), (7, _), (81, _)] ⟨rfl, rfl, rfl, trivial⟩ [] trivial ?_ ?_ rfl rfl ⟨by (try dsimp only); omega, hst⟩ ?_
  · repeat' (first | exact trivial | apply And.intro | exact ⟨_, rfl, Z.Imp.refl _⟩)
  · repeat' (first | exact trivial | exact (fun b hb => ⟨b, hb, Z.ImpO.refl b⟩) | apply And.intro)
  rintro ⟨i, qz, n3, d3, t3⟩ HINV
  dsimp only at HINV ⊢
  obtain ⟨HI, HS⟩ := HINV
  clear cf hq hlq huq
  obtain ⟨hq, hlq, huq⟩ := facts HS.1 (by omega) (st_okQ HS)
  have co := open_con qz n3 d3 hq hlq huq
  rw [st_ok HS ⟨by omega, by omega⟩] at co
  simp only [cond_true] at co
  have hLm := fun z (hz : z ∈ openL qz qz.length) => openL_mem hz
  have hLe := st_end HS
  have hll := @openL_len qz qz.length
  have hzl := HS.1
  generalize openL qz qz.length = L at *
  by_cases hL0 : L = []
  · obtain ⟨rfl, rfl, rfl, ht0⟩ := hLe hL0
    subst hL0
    have cf := full_con qz 0 5 hq hlq huq
    rw [st_ok HS ⟨by omega, by omega⟩, ht0] at cf
    simp only [cond_true] at cf
    repeat' ((conv => whnf); first
      | with_reducible first | refine spB_t ?_
      | ((with_reducible apply spB_cong); (focus (simp only [beq_self_eq_true, bne_self_eq_false, Bool.true_bne, Bool.false_bne, Bool.bne_true, Bool.bne_false, Bool.true_beq, Bool.false_beq, Bool.not_true, Bool.not_false, Bool.not_not, Int.reduceBEq, Int.reduceBNe, Int.reduceLE, Int.reduceLT, Int.reduceEq, decide_true, decide_false]; rfl)))
      | with_reducible first | refine spB_yes (by decide) ?_
      | (with_reducible refine spB_dec ?_ ?_ <;> intro _ <;> (try (exfalso; first | contradiction | omega | (rename_i hz; refine hz ?_; simp; done) | (rename_i hz; simp at hz; done) | (simp only [LN] at *; omega))))
      | ((first | (with_reducible refine Z.callZ_mk ?_ (co) ?_) | (with_reducible refine Z.callZ_mk ?_ (cf) ?_)); (focus ((repeat' (first | exact trivial | exact rfl | apply And.intro)); done))))
    all_goals (try (conv => whnf))
    all_goals try (show Nat.ble _ _ = true; rfl)
    all_goals first
      | ((first | (with_reducible apply Z.retF1)); (focus (exact rfl)); (repeat' (first | exact trivial | (with_reducible apply Z.frz_one) | (with_reducible apply Z.fq_bool) | exact rfl | apply And.intro)); (all_goals (try exact (fun _ => none))); all_goals (first | (simp; done)))
  have hLp : 0 < L.length := List.length_pos_iff.2 hL0
  repeat' ((conv => whnf); first
    | with_reducible first | refine spB_t ?_
    | ((with_reducible apply spB_cong); (focus (simp only [beq_self_eq_true, bne_self_eq_false, Bool.true_bne, Bool.false_bne, Bool.bne_true, Bool.bne_false, Bool.true_beq, Bool.false_beq, Bool.not_true, Bool.not_false, Bool.not_not, Int.reduceBEq, Int.reduceBNe, Int.reduceLE, Int.reduceLT, Int.reduceEq, decide_true, decide_false]; rfl)))
    | with_reducible first | refine spB_no (by decide) ?_
    | (with_reducible refine spB_dec ?_ ?_ <;> intro _ <;> (try (exfalso; first | contradiction | omega | (rename_i hz; refine hz ?_; simp; done) | (rename_i hz; simp at hz; done) | (simp only [LN] at *; omega))))
    | (with_reducible refine spB_beq ?_ ?_ <;> intro _ <;> (try (exfalso; first | contradiction | omega | (rename_i hz; refine hz ?_; simp; done) | (rename_i hz; simp at hz; done) | (simp only [LN] at *; omega))))
    | (with_reducible refine spB_bne ?_ ?_ <;> intro _ <;> (try (exfalso; first | contradiction | omega | (rename_i hz; refine hz ?_; simp; done) | (rename_i hz; simp at hz; done) | (simp only [LN] at *; omega))))
    | ((with_reducible refine ixN_mod ?_ ?_ ?_); (focus (first | exact Int.le_max_right _ _ | exact Int.le_refl _)); (focus ((try simp only [LN] at *) <;> omega)); intro rr hr2; simp only [List.length_map] at hr2; obtain ⟨z, hz⟩ := getElem?_some' (xs := L) (i := rr) (by omega); obtain ⟨kk, x3, rfl, hx3, hr3⟩ := hLm z (List.mem_of_getElem? hz); obtain ⟨q4, n4, d4, e4, b4, hT, ht4, rfl, hS⟩ := st_take HS ⟨by omega, by omega⟩ hx3 hr3; have ct := take_con qz n3 d3 (kk : Int) hq hlq huq; rw [hT] at ct; dsimp only [tkV] at ct; rcases hS with ⟨hS1, hS2⟩ | ⟨rfl, he, he5, hS2, hS0⟩; rotate_left; obtain ⟨hq4, hlq4, huq4⟩ := facts hS2.1 (by omega) (st_okQ hS2); have cf := full_con q4 n4 d4 hq4 hlq4 huq4; rw [st_ok hS2 ⟨by omega, by omega⟩, hS0] at cf; simp only [cond_true] at cf; rotate_left; rcases hS1 with rfl | hk1; rotate_left; cases b4)
    | with_reducible first | refine Z.rowN_known hz ?_
    | ((with_reducible apply ixN_litp); (focus (exact rfl)); (focus ((try simp only [LN] at *) <;> omega)))
    | with_reducible refine wr_i64 (by first | omega | (simp only [LN] at *; omega)) ?_
    | ((with_reducible refine rowN_map ?_ ?_); (focus ((try simp only [LN] at *) <;> omega)); intro x hx)
    | with_reducible refine vN_mod (by omega) ?_
    | with_reducible refine nzN_mk (by omega) ?_
    | ((first | (with_reducible refine Z.conZ_mz ?_ (ct) ?_) | (with_reducible refine Z.callZ_mk ?_ (co) ?_) | (with_reducible refine Z.callZ_mk ?_ (cf) ?_)); (focus ((repeat' (first | exact trivial | exact rfl | apply And.intro)); done)))
    | with_reducible first | refine Z.drawZ_rule tabOk mixOk ?_ | refine Z.apZ_mk (by kernel_rfl) ?_)
  all_goals (try (conv => whnf))
  all_goals try (show Nat.ble _ _ = true; rfl)
  all_goals first
    | ((refine Z.rndK ((i + 1, q4, n4, d4, 0)) (fun s => [0]) rfl rfl rfl rfl ?_ ?_ ?_ ?_); (focus (repeat' (first | exact trivial | exact rfl | apply And.intro))); (focus (repeat' (first | exact trivial | (intro b hb; cases hb; rfl) | apply And.intro))); (focus (exact ⟨by (try dsimp only); omega, hS2⟩)); ((try dsimp only); omega))
    | ((refine Z.rndK ((i + 1, q4, n4, d4, 1)) (fun s => [0]) rfl rfl rfl rfl ?_ ?_ ?_ ?_); (focus (repeat' (first | exact trivial | exact rfl | apply And.intro))); (focus (repeat' (first | exact trivial | (intro b hb; cases hb; rfl) | apply And.intro))); (focus (exact ⟨by (try dsimp only); omega, hS2⟩)); ((try dsimp only); omega))

end Go.Proofs.Ytakfkbciijahgaa
namespace Go.Proofs.Ytakfkbciijahgaa
open Go Go.RowKit Wx
set_option linter.unusedVariables false
set_option linter.unusedSimpArgs false
set_option maxHeartbeats 4000000
namespace gateDrains
theorem main (avs : List A0) (h : All2 FitA [(.int .i64), (.sl (.int .i64) 3 1), (.sl (.int .i64) 3 1)] avs) : Con Try.prog 8 avs (fun x K t => x = .val (.bool true) ∧ K = [] ∧ t = 0) := by
  obtain ⟨x0, x1, x2, rfl, h0, h1, h2⟩ : ∃ x0 x1 x2, avs = [x0, x1, x2] ∧ FitA (.int .i64) x0 ∧ FitA (.sl (.int .i64) 3 1) x1 ∧ FitA (.sl (.int .i64) 3 1) x2 := by
    cases avs with
    | nil => exact h.elim
    | cons x0 r => cases r with
      | nil => exact h.2.elim
      | cons x1 r => cases r with
        | nil => exact h.2.2.elim
        | cons x2 r => cases r with
          | nil => exact ⟨x0, x1, x2, rfl, h.1, h.2.1, h.2.2.1⟩
          | cons => exact h.2.2.2.elim
  clear h
  obtain ⟨a0, rfl, wa0⟩ := fit_int h0
  obtain ⟨bs, rfl, lbs, wbs⟩ := fit_ints h1
  obtain ⟨pk, rfl, lpk, wpk⟩ := fit_ints h2
  exact gatedrains_con a0 bs pk (by simpa [maxLen] using lbs) (by simpa [maxLen] using lpk)
end gateDrains
end Go.Proofs.Ytakfkbciijahgaa
