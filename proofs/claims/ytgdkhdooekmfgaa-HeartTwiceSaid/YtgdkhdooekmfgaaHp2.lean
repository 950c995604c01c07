import Derived.Test.YtgdkhdooekmfgaaHp1
namespace Go.Proofs.Ytgdkhdooekmfgaa
open Go Go.RowKit Wx
set_option linter.unusedVariables false
set_option linter.unusedSimpArgs false
set_option maxHeartbeats 4000000
theorem le_copy {l : List Pu} {R : List (List Ce)} {m : Nat} (h : R = l.map cP) (hm : m ≤ l.length) : m ≤ R.length := by subst h; rw [List.length_map]; exact hm
theorem inL_rep {r : List Nat} {n : Nat} {row : List Ce} {sz : Nat} {ty : TypeId} {bx : Bool} (h : row.all (Ce.inB r) = true) : (Z.Ob.b ⟨List.replicate n row, sz, ty, bx⟩).inL r = true := by
  show (List.replicate n row).all _ = true
  rw [List.all_replicate]; simp only [h, ite_self]
theorem inL_eq {l : List Pu} {r : List Nat} {R : List (List Ce)} {sz : Nat} {ty : TypeId} {bx : Bool} (h : R = l.map cP) : (Z.Ob.b ⟨R, sz, ty, bx⟩).inL r = true := by subst h; exact Z.inL_map (f := cP) fun _ => rfl
theorem low_copy {l : List Pu} {n : Nat} {R : List (List Ce)} (h : R = l.map cP) (hn : n = l.length) : ∃ rows, Ce.ro false 3 (l.map eP) = Ce.ro false 3 rows ∧ rows.length = n ∧ ((R.drop 0).take n).map (List.map RT.of) = rows.map (List.map some) := by
  subst h; exact Z.low_osln hn (fun _ => rfl)
theorem row_copy {l : List Pu} {i : Nat} {x : Pu} {R : List (List Ce)} (h : R = l.map cP) (hx : l[i]? = some x) : R[0 + i]? = some (cP x) := by
  subst h; rw [Nat.zero_add, List.getElem?_map, hx]; rfl
theorem fz_set {l : List Pu} {i n : Nat} {y : Pu} {R : List (List Ce)} (h : R = l.map cP) (hn : n = l.length) : List.take n (R.set (0 + i) (cP y)) = (l.set i y).map cP := by
  subst h; subst hn; rw [Nat.zero_add, ← List.map_set, List.take_of_length_le (by simp)]
theorem S_eq {a : Nat} {X : List (List Ce)} {v : List Ce} (ha : 1 ≤ a) (hX : List.take 1 (List.drop 0 X) = [v]) : List.take (Nat.min 1 a) (List.take 1 (List.drop 0 X)) = [v] := by rw [hX, show Nat.min 1 a = 1 from Nat.min_eq_left ha]; rfl
theorem S_len {a : Nat} {X : List (List Ce)} : (List.take a (List.take 1 X)).length ≤ 1 := by simp; omega
theorem T_eq {l : List Pu} {i a b : Nat} {R : List (List Ce)} (h : R = l.map cP) (ha : l.length - i ≤ a) (hb : l.length - i ≤ b) : List.take a (List.take b (List.drop (0 + i) R)) = (l.map cP).drop i := by
  subst h
  rw [Nat.zero_add, List.take_of_length_le (i := b) (by simp; omega), List.take_of_length_le (by simp; omega)]
theorem ins_rows {l : List Pu} {i k : Nat} {R S T : List (List Ce)} {z : List Ce} {v : Pu} (h : R = l.map cP) (hi : i < l.length) (hk : k = l.length + 1 - i) (hS : S = [cP v]) (hT : T = (l.map cP).drop i) : lay (lay (List.take (i - 0) R ++ List.replicate k z) (0 + i) S) (0 + (i + 1)) T = (l.take i ++ v :: l.drop i).map cP := by
  subst h hk hS hT
  rw [List.map_append, List.map_cons, List.map_take, List.map_drop]
  generalize hM : l.map cP = M
  have hl : M.length = l.length := by rw [← hM, List.length_map]
  rw [Nat.zero_add, Nat.zero_add, Nat.sub_zero]
  have h1 : (M.take i).length = i := by simp; omega
  have h2 : (M.drop i).length = l.length - i := by simp; omega
  generalize M.take i = A at *
  generalize M.drop i = B at *
  have e1 : lay (A ++ List.replicate (l.length + 1 - i) z) i [cP v] = (A ++ [cP v]) ++ List.replicate (l.length - i) z := by
    unfold lay
    rw [List.take_left' h1, show l.length + 1 - i = (l.length - i) + 1 by omega, List.replicate_succ, show A ++ z :: List.replicate (l.length - i) z = (A ++ [z]) ++ List.replicate (l.length - i) z by simp, List.drop_left' (by simp [h1])]
    exact (List.append_assoc _ _ _).symm
  rw [e1]
  unfold lay
  rw [List.take_left' (by simp [h1]), List.drop_eq_nil_of_le (by simp [h1, h2]; omega)]
  simp
theorem fit_ins {l : List Pu} {i q : Nat} {R : List (List Ce)} {z : List Ce} (h : R = l.map cP) (hi : i < l.length) (hq : q ≤ l.length + 1) : q ≤ (List.take (i - 0) R ++ List.replicate (l.length + 1 - i) z).length := by subst h; simp; omega
theorem fit_ins2 {l : List Pu} {i q : Nat} {R S : List (List Ce)} {z : List Ce} (h : R = l.map cP) (hi : i < l.length) (hq : q ≤ l.length + 1) (hS : S.length ≤ 1) : q ≤ (lay (List.take (i - 0) R ++ List.replicate (l.length + 1 - i) z) (0 + i) S).length := by
  rw [lay_length (by subst h; simp; omega)]; exact fit_ins h hi hq
theorem one_src {l : List Pu} {m k : Nat} {R : List (List Ce)} (h : R = l.map cP) : ∀ r ∈ List.take m (List.drop k R), ∀ c ∈ r, c.single = true := fun r hr => by
  subst h
  obtain ⟨x, _, rfl⟩ := List.mem_map.1 (List.mem_of_mem_drop (List.mem_of_mem_take hr))
  intro c hc
  simp only [List.mem_cons, List.not_mem_nil, or_false] at hc
  rcases hc with rfl | rfl | rfl <;> rfl
theorem len_src {l : List Pu} {m i : Nat} {R : List (List Ce)} (h : R = l.map cP) (hm : m + i ≤ l.length) : (List.take m (List.drop (0 + i) R)).length = m := by subst h; simp; omega
theorem set_mid2 {A B : List Pu} {v y : Pu} {i : Nat} (h : i = A.length) : ((A ++ v :: B).map cP).set (0 + i) (cP y) = (A ++ y :: B).map cP := by
  subst h; rw [Nat.zero_add, ← List.map_set]; simp
theorem row_ins {l : List Pu} {i : Nat} {v : Pu} {R : List (List Ce)} (h : R = (l.take i ++ v :: l.drop i).map cP) (hi : i < l.length) : R[0 + i]? = some (cP v) := by
  subst h; rw [Nat.zero_add, List.getElem?_map, List.getElem?_append_right (by simp; omega), show i - (l.take i).length = 0 by simp; omega]; rfl
theorem fz_ins {l : List Pu} {i n : Nat} {v y : Pu} {R : List (List Ce)} (h : R = (l.take i ++ v :: l.drop i).map cP) (hi : i < l.length) (hn : n = l.length + 1) : List.take n (R.set (0 + i) (cP y)) = (l.take i ++ y :: l.drop i).map cP := by
  subst h hn
  rw [set_mid2 (by simp; omega), List.take_of_length_le (by simp; omega)]
theorem app_rows {l : List Pu} {v : Pu} {R S : List (List Ce)} (h : R = l.map cP) (hS : S = [cP v]) : List.take (l.map eP).length R ++ S = (l ++ [v]).map cP := by
  subst h hS; rw [List.take_of_length_le (by simp)]; simp
theorem row_app {l : List Pu} {v : Pu} {R : List (List Ce)} (h : R = (l ++ [v]).map cP) : R[0 + (l.map eP).length]? = some (cP v) := by
  subst h; rw [Nat.zero_add, List.getElem?_map, List.length_map]; simp
theorem fz_app {l : List Pu} {v y : Pu} {R : List (List Ce)} (h : R = (l ++ [v]).map cP) : List.take ((l.map eP).length + 1) (R.set (0 + (l.map eP).length) (cP y)) = (l ++ [y]).map cP := by
  subst h; rw [Nat.zero_add, List.length_map, ← List.map_set, List.take_of_length_le (by simp)]; simp
theorem get_mid2 {A B : List Pu} {v : Pu} {i : Nat} (h : i = A.length) : ((A ++ v :: B).map cP)[0 + i]? = some (cP v) := by
  subst h; rw [Nat.zero_add, List.getElem?_map]; simp
theorem hear_arg (now span w : Int) (l : List Pu) (hl : l.length ≤ 4) (hk : okH now span l = true) (hw : ¬ (1 ≤ w ∧ w ≤ 4)) : Con Try.prog 24 [.agg [.v (.int .i64 now), .v (.int .i64 span), .ro false 3 ((l).map eP)], .one (.v (.int .i64 w))] (fun rx rK rt => rx = .tup [.agg [.v (.int .i64 0), .v (.int .i64 0), .ro true 3 ((([] : List Pu)).map eP)], .one (.v (.bool false)), .one (.v (.int .i64 2))] ∧ rK = [] ∧ rt = 0) := by
  refine Z.con_ofF tabOk 19 Try.f24 _ Try.func24 (by kernel_rfl) rfl rfl rfl rfl ?_
  repeat' ((conv => whnf); first
    | with_reducible first | refine spB_t ?_
    | ((with_reducible apply spB_cong); (focus (simp only [beq_self_eq_true, bne_self_eq_false, Bool.true_bne, Bool.false_bne, Bool.bne_true, Bool.bne_false, Bool.true_beq, Bool.false_beq, Bool.not_true, Bool.not_false, Bool.not_not, Int.reduceBEq, Int.reduceBNe, Int.reduceLE, Int.reduceLT, Int.reduceEq, decide_true, decide_false, hk]; rfl)))
    | with_reducible first | refine spB_yes (by decide) ?_ | refine spB_no (by decide) ?_ | refine spB_f ?_ | refine spB_not ?_ | refine spB_yes (by assumption) ?_ | refine spB_no (by assumption) ?_
    | (with_reducible refine spB_dec ?_ ?_ <;> intro _ <;> (try (exfalso; first | contradiction | omega | (rename_i hz; exact hz (by simp; done)) | (simp only [LN] at *; omega))))
    | ((with_reducible refine cpyN.mk ?_ ?_ ?_ ?_); (focus (first | rfl | (simp; done))); (focus (first | exact one_all (by rfl) | exact one_map (fun _ => rfl) | exact one_map2 (fun _ => rfl))); (focus ((try simp only [LN] at *) <;> omega)))
    | with_reducible first | refine apN_mk (by kernel_rfl) ?_ | refine Z.callZ_in tabOk 29 Try.f39 _ Try.func39 (by kernel_rfl) rfl rfl rfl ?_ | refine Z.callZ_in tabOk 55 Try.f40 _ Try.func40 (by kernel_rfl) rfl rfl rfl ?_ | refine Z.callZ_in tabOk 95 Try.f42 _ Try.func42 (by kernel_rfl) rfl rfl rfl ?_ | refine Z.callZ_in tabOk 10 Try.f57 _ Try.func57 (by kernel_rfl) rfl rfl rfl ?_ | refine Z.callZ_in tabOk 14 Try.f70 _ Try.func70 (by kernel_rfl) rfl rfl rfl ?_ | refine Z.callZ_in tabOk 28 Try.f76 _ Try.func76 (by kernel_rfl) rfl rfl rfl ?_
    | ((first | (with_reducible apply Z.conZ_mz ?_ (mayBe_con _ _ _ ?_) ?_) | (with_reducible apply Z.callZ_mk ?_ (mayBe_con _ _ _ ?_) ?_)); (rotate_left 3); (focus ((repeat' (first | exact trivial | exact rfl | exact Z.low_nil | exact Z.low_nil2 | exact low_osl (fun _ => rfl) | (refine Z.low_osln ?_ (fun _ => rfl); (simp only [List.length_map]; done)) | exact low_oslr (fun _ => rfl) | exact Z.low_gslm (by first | rfl | exact Z.kb_some rfl) (fun _ => rfl) | exact .inl rfl | exact .inr ⟨_, rfl⟩ | apply And.intro)); done)); (iterate 1 (focus (first | assumption | omega | ((try simp only [LN] at *); omega)))))
    | ((with_reducible apply ex_and); exact rfl)
    | ((with_reducible refine Z.mkN_nat ?_ ?_ ?_ ?_); (focus ((try simp only [LN] at *) <;> omega)); (focus ((try simp only [LN] at *) <;> omega)); (focus ((try simp only [LN] at *) <;> omega)))
    | with_reducible first | refine Z.drawZ_rule tabOk mixOk ?_ | refine Z.apZ_mk (by kernel_rfl) ?_
    | (focus (exact (rfl : Nat.ble _ _ = true))))
  all_goals (try (conv => whnf))
  all_goals try (show Nat.ble _ _ = true; rfl)
  all_goals first
    | ((first | (with_reducible apply Z.retF1) | (with_reducible apply Z.retF2) | (with_reducible apply Z.retF0)); (focus (exact rfl)); (repeat' (first | exact trivial | (with_reducible apply Z.frz_one) | (with_reducible apply Z.frz_agg) | (with_reducible apply Z.fq_int) | (with_reducible apply Z.fq_bool) | (exact Z.frz_nil) | (exact Z.frz_osl0 rfl rfl rfl) | (with_reducible apply Z.fq_nil) | (with_reducible apply Z.fq_ro) | ((with_reducible apply Z.fq_gsl); (focus (first | rfl | exact Z.isB_map _ | exact Z.gB_snoc.symm)); (focus (exact fun _ => rfl))) | ((with_reducible apply Z.fq_osl); (focus (exact rfl)); (focus (first | exact rfl | (simp only [List.length_map, Nat.zero_add]; done) | ((try simp only [LN] at *) <;> omega))); (focus (exact fun _ => rfl))) | ((with_reducible apply Z.fq_src); (focus (exact rfl)); (focus (first | exact rfl | (simp only [List.length_map, Nat.zero_add]; done) | ((try simp only [LN] at *) <;> omega))); (focus (exact fun _ => rfl))) | exact rfl | ((apply Z.fq_osl); (focus (exact rfl)); (focus (first | exact rfl | (simp only [List.length_map, Nat.zero_add]; done) | ((try simp only [LN] at *) <;> omega))); (focus (exact fun _ => rfl))) | ((apply Z.fq_src); (focus (exact rfl)); (focus (first | exact rfl | (simp only [List.length_map, Nat.zero_add]; done) | ((try simp only [LN] at *) <;> omega))); (focus (exact fun _ => rfl))) | (apply Z.fq_ro) | (apply Z.fq_int) | (apply Z.fq_bool) | apply And.intro)); (all_goals (try exact (fun _ => none))); all_goals (rfl))
    | (exfalso; simp_all; done)
    | (fail)

theorem hear_t (now span w : Int) (l : List Pu) (i : Nat) (x : Pu) (hl : l.length ≤ 4) (hk : okH now span l = true) (hw : 1 ≤ w ∧ w ≤ 4) (ht : thereW w l = true) (hi : srch w l = i) (hx : l[i]? = some x) : Con Try.prog 24 [.agg [.v (.int .i64 now), .v (.int .i64 span), .ro false 3 ((l).map eP)], .one (.v (.int .i64 w))] (fun rx rK rt => rx = .tup [.agg [.v (.int .i64 now), .v (.int .i64 span), .ro true 3 ((l.set i ⟨w, now, false⟩).map eP)], .one (.v (.bool x.down)), .one (.v (.int .i64 0))] ∧ rK = [] ∧ rt = 0) := by
  refine Z.con_ofF tabOk 19 Try.f24 _ Try.func24 (by kernel_rfl) rfl rfl rfl rfl ?_
  obtain ⟨hok1, hok2, hok3⟩ := okH_all hk
  have hil : i < l.length := (List.getElem?_eq_some_iff.1 hx).1
  have cf := find_con now span w l (by omega) hok2
  rw [ht, hi] at cf
  repeat' ((conv => whnf); first
    | ((with_reducible apply spB_cong); (focus (simp only [beq_self_eq_true, bne_self_eq_false, Bool.true_bne, Bool.false_bne, Bool.bne_true, Bool.bne_false, Bool.true_beq, Bool.false_beq, Bool.not_true, Bool.not_false, Bool.not_not, Int.reduceBEq, Int.reduceBNe, Int.reduceLE, Int.reduceLT, Int.reduceEq, decide_true, decide_false, hk]; rfl)))
    | with_reducible first | refine spB_yes (by decide) ?_ | refine spB_no (by decide) ?_ | refine spB_f ?_ | refine spB_not ?_ | refine spB_yes (by assumption) ?_ | refine spB_no (by assumption) ?_
    | (with_reducible refine spB_dec ?_ ?_ <;> intro _ <;> (try (exfalso; first | contradiction | omega | (rename_i hz; exact hz (by simp; done)) | (simp only [LN] at *; omega))))
    | ((first | (with_reducible refine Z.conZ_mz ?_ (cf) ?_) | (with_reducible refine Z.callZ_mk ?_ (cf) ?_)); (focus (exact ⟨⟨rfl, rfl, low_copy (by exact Z.lay_copy (by simp) (Nat.le_min.2 ⟨by simp, by simp⟩) (fun _ => rfl)) (by simp), trivial⟩, rfl, trivial⟩)))
    | ((with_reducible refine ixN_mk i ?_ ?_ ?_); (focus rfl); (focus ((try simp only [LN] at *) <;> omega)))
    | ((with_reducible refine rowN_mk (cP x) ?_ ?_); (focus (exact row_copy (by exact Z.lay_copy (by simp) (Nat.le_min.2 ⟨by simp, by simp⟩) (fun _ => rfl)) hx)))
    | ((with_reducible refine cpyN.mk ?_ ?_ ?_ ?_); (focus (first | rfl | (simp; done))); (focus (first | exact one_all (by rfl) | exact one_map (fun _ => rfl) | exact one_map2 (fun _ => rfl))); (focus ((try simp only [LN] at *) <;> omega)))
    | with_reducible first | refine apN_mk (by kernel_rfl) ?_ | refine Z.callZ_in tabOk 29 Try.f39 _ Try.func39 (by kernel_rfl) rfl rfl rfl ?_ | refine Z.callZ_in tabOk 55 Try.f40 _ Try.func40 (by kernel_rfl) rfl rfl rfl ?_ | refine Z.callZ_in tabOk 95 Try.f42 _ Try.func42 (by kernel_rfl) rfl rfl rfl ?_ | refine Z.callZ_in tabOk 10 Try.f57 _ Try.func57 (by kernel_rfl) rfl rfl rfl ?_ | refine Z.callZ_in tabOk 14 Try.f70 _ Try.func70 (by kernel_rfl) rfl rfl rfl ?_ | refine Z.callZ_in tabOk 28 Try.f76 _ Try.func76 (by kernel_rfl) rfl rfl rfl ?_
    | ((first | (with_reducible apply Z.conZ_mz ?_ (mayBe_con _ _ _ ?_) ?_) | (with_reducible apply Z.callZ_mk ?_ (mayBe_con _ _ _ ?_) ?_)); (rotate_left 3); (focus ((repeat' (first | exact trivial | exact rfl | exact Z.low_nil | exact Z.low_nil2 | exact low_osl (fun _ => rfl) | (refine Z.low_osln ?_ (fun _ => rfl); (simp only [List.length_map]; done)) | exact low_oslr (fun _ => rfl) | exact Z.low_gslm (by first | rfl | exact Z.kb_some rfl) (fun _ => rfl) | exact .inl rfl | exact .inr ⟨_, rfl⟩ | apply And.intro)); done)); (iterate 1 (focus (first | assumption | omega | ((try simp only [LN] at *); omega)))))
    | ((with_reducible apply ex_and); exact rfl)
    | ((with_reducible refine Z.mkN_nat ?_ ?_ ?_ ?_); (focus ((try simp only [LN] at *) <;> omega)); (focus ((try simp only [LN] at *) <;> omega)); (focus ((try simp only [LN] at *) <;> omega)))
    | with_reducible first | refine Z.drawZ_rule tabOk mixOk ?_ | refine Z.apZ_mk (by kernel_rfl) ?_
    | (focus (exact (rfl : Nat.ble _ _ = true))))
  all_goals (try (conv => whnf))
  all_goals try (show Nat.ble _ _ = true; rfl)
  all_goals first
    | (refine Z.retF2 [.agg [.v (.int .i64 now), .v (.int .i64 span), .osl 6 0 (l.map eP).length (some (l.map eP).length)], .one (.v (.bool x.down)), .one (.v (.int .i64 0))] (by rfl) ⟨⟨rfl, rfl, (Z.frz_oslw (l := l.set i ⟨w, now, false⟩) (f := cP) (ty := 37) (bx := false) (by rfl) (by simp) (fz_set (y := ⟨w, now, false⟩) (by exact Z.lay_copy (by simp) (Nat.le_min.2 ⟨by simp, by simp⟩) (fun _ => rfl)) (by simp)) (fun _ => rfl)), trivial⟩, rfl, rfl, trivial⟩)
    | (exfalso; simp_all; done)
    | (fail)

end Go.Proofs.Ytgdkhdooekmfgaa
