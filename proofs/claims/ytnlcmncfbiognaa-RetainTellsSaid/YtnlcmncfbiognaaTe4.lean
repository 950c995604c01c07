import Derived.Test.YtnlcmncfbiognaaTe2
import Derived.Test.YtnlcmncfbiognaaTe3
import Derived.Test.YtnlcmncfbiognaaWakes
namespace Go.Proofs.Ytnlcmncfbiognaa
open Go Go.RowKit Wx
set_option linter.unusedVariables false
set_option linter.unusedSimpArgs false
set_option maxHeartbeats 4000000
theorem right_t (keep : Int) (rs : List Kp) (hl : rs.length ≤ 100) (hk : okS keep rs = true) : Con Try.prog 19 [.agg [.v (.int .i64 keep), .ro false 3 (rs.map eK)]] (fun rx rK rt => rx = .val (.bool true) ∧ rK = [] ∧ rt = 0) := by
  have := right_con keep rs hl
  rw [hk] at this
  exact this
theorem right_f (keep : Int) (rs : List Kp) (hl : rs.length ≤ 100) (hk : okS keep rs = false) : Con Try.prog 19 [.agg [.v (.int .i64 keep), .ro false 3 (rs.map eK)]] (fun rx rK rt => rx = .val (.bool false) ∧ rK = [] ∧ rt = 0) := by
  have := right_con keep rs hl
  rw [hk] at this
  exact this
theorem next_new {rs : List Kp} {i : Nat} {x : Kp} (h : rs[i]? = some x) (hm : ∀ p ∈ rs, 1 ≤ p.num) (h0 : nextN (rs.take i) = 0) (ho : x.op = true) : nextN (rs.take (i + 1)) = x.num := by
  unfold nextN at *
  rw [find_snoc h]
  cases hf : (rs.take i).find? (fun r => r.op) with
  | none => simp [ho]
  | some y =>
    have := hm y (List.mem_of_mem_take (List.mem_of_find?_eq_some hf))
    rw [hf] at h0; simp at h0; omega
theorem next_old {rs : List Kp} {i : Nat} {x : Kp} (h : rs[i]? = some x) (hn : x.op = false ∨ ¬ nextN (rs.take i) = 0) : nextN (rs.take (i + 1)) = nextN (rs.take i) := by
  unfold nextN at *
  rw [find_snoc h]
  cases hf : (rs.take i).find? (fun r => r.op) with
  | none => rw [hf] at hn; rcases hn with h | h <;> simp_all
  | some y => rfl
theorem open_eq {rs : List Kp} (hm : ∀ p ∈ rs, 1 ≤ p.num) : (rs.find? (fun r => r.op)).isSome = decide (0 < nextN rs) := by
  unfold nextN
  cases hf : rs.find? (fun r => r.op) with
  | none => rfl
  | some y =>
    have := hm y (List.mem_of_find?_eq_some hf)
    simp only [Option.isSome_some, Option.map_some, Option.getD_some]
    exact (decide_eq_true (by omega)).symm
theorem okS_K {k : Int} {rs : List Kp} (h : okS k rs = true) : okK k0 rs = true := by unfold okS at h; simp only [Bool.and_eq_true] at h; exact h.2
theorem tells_con (keep k2 kp : Int) (rs os : List Kp) : Con Try.prog 5 [.agg [.v (.int .i64 keep), .ro false 3 (rs.map eK)], .agg [.v (.int .i64 k2), .ro false 3 (os.map eK)], .one (.v (.int .i64 kp))] (fun rx rK rt => rx = .val (.bool true) ∧ rK = [] ∧ rt = 0) := by
  by_cases hr : rs.length ≤ 100
  · rcases hk : okS keep rs with _ | _
    · rcases (by omega : (1 ≤ kp ∧ kp ≤ 4) ∨ (1 ≤ kp ∧ ¬ kp ≤ 4) ∨ ¬ 1 ≤ kp) with hj | hj | hj
      · have c1 := new_con kp
        simp only [if_pos (show (1 ≤ kp ∧ kp ≤ 4) by omega)] at c1
        refine con_of tabOk 194 Try.f5 _ Try.func5 (by kernel_rfl) rfl rfl rfl rfl (fun W => ?_)
        repeat' ((conv => whnf); first
          | with_reducible refine spB_t ?_
          | ((with_reducible apply spB_cong); (focus (simp only [beq_self_eq_true, bne_self_eq_false, Bool.true_bne, Bool.false_bne, Bool.bne_true, Bool.bne_false, Bool.true_beq, Bool.false_beq, Bool.not_true, Bool.not_false, Bool.not_not, Int.reduceBEq, Int.reduceBNe, Int.reduceLE, Int.reduceLT, Int.reduceEq, decide_true, decide_false, eq_self, and_self, List.length_nil, List.length_map, if_true, if_false]; rfl)))
          | with_reducible refine spB_yes (by decide) ?_
          | with_reducible refine spB_no (by decide) ?_
          | with_reducible refine spB_f ?_
          | with_reducible refine spB_not ?_
          | with_reducible refine spB_yes (by assumption) ?_
          | with_reducible refine spB_no (by assumption) ?_
          | (with_reducible refine spB_dec ?_ ?_ <;> intro _ <;> (try (exfalso; first | contradiction | omega | (rename_i hz; with_reducible exact absurd rfl hz))))
          | (with_reducible refine spB_beq ?_ ?_ <;> intro _ <;> (try (exfalso; first | contradiction | omega | (rename_i hz; with_reducible exact absurd rfl hz))))
          | (with_reducible refine spB_bne ?_ ?_ <;> intro _ <;> (try (exfalso; first | contradiction | omega | (rename_i hz; with_reducible exact absurd rfl hz))))
          | (with_reducible refine spB_mk ?_ ?_ <;> intro _ <;> (try (exfalso; first | contradiction | omega | (rename_i hz; with_reducible exact absurd rfl hz))))
          | ((with_reducible apply rowN_mk); (focus rfl))
          | ((with_reducible refine ixN_mk 0 ?_ ?_ ?_); (focus rfl); (focus (exact Nat.le_of_ble_eq_true rfl)))
          | ((with_reducible refine ixN_mk 1 ?_ ?_ ?_); (focus rfl); (focus (exact Nat.le_of_ble_eq_true rfl)))
          | ((with_reducible refine ixN_mk 2 ?_ ?_ ?_); (focus rfl); (focus (exact Nat.le_of_ble_eq_true rfl)))
          | ((with_reducible refine ixN_mk 3 ?_ ?_ ?_); (focus rfl); (focus (exact Nat.le_of_ble_eq_true rfl)))
          | ((with_reducible refine ixN_mk 4 ?_ ?_ ?_); (focus rfl); (focus (exact Nat.le_of_ble_eq_true rfl)))
          | ((with_reducible refine ixN_mk 5 ?_ ?_ ?_); (focus rfl); (focus (exact Nat.le_of_ble_eq_true rfl)))
          | ((with_reducible refine ixN_mk 6 ?_ ?_ ?_); (focus rfl); (focus (exact Nat.le_of_ble_eq_true rfl)))
          | ((with_reducible refine ixN_mk 7 ?_ ?_ ?_); (focus rfl); (focus (exact Nat.le_of_ble_eq_true rfl)))
          | ((with_reducible refine eqN_mk2 ?_ ?_); (focus rfl))
          | ((with_reducible refine posN_mk2 ?_ ?_); (focus (first | decide | ((try simp only [List.length_replicate, List.length_map, List.length_append, List.length_nil, List.length_cons, maxLen] at *); omega))))
          | ((with_reducible refine apdN.mk ?_ ?_ ?_ ?_ ?_ ?_); (focus (first | rfl | (simp; done))); (focus (first | exact one_all (by rfl) | exact one_map (fun _ => rfl) | exact one_map2 (fun _ => rfl))); (focus ((try simp only [List.length_replicate, List.length_map, List.length_append, List.length_nil, List.length_cons, maxLen] at *); omega)); (focus ((try simp only [List.length_replicate, List.length_map, List.length_append, List.length_nil, List.length_cons, maxLen] at *); omega)); (focus ((try simp only [List.length_replicate, List.length_map, List.length_append, List.length_nil, List.length_cons, maxLen] at *); omega)))
          | ((with_reducible refine cpyN.mk ?_ ?_ ?_ ?_); (focus (first | rfl | (simp; done))); (focus (first | exact one_all (by rfl) | exact one_map (fun _ => rfl) | exact one_map2 (fun _ => rfl))); (focus ((try simp only [List.length_replicate, List.length_map, List.length_append, List.length_nil, List.length_cons, maxLen] at *); omega)))
          | with_reducible refine wr_i64 (by first | omega | (simp only [List.length_map] at *; omega)) ?_
          | with_reducible refine wr_u64 (by omega) ?_
          | with_reducible refine wr_u8 (by omega) ?_
          | with_reducible refine wr_u32 (by omega) ?_
          | with_reducible refine wr_mk _ rfl ?_
          | ((with_reducible refine ixN_nat ?_ ?_); (focus ((try simp only [List.length_map] at *); omega)))
          | ((with_reducible refine rowN_map ?_ ?_); (focus ((try simp only [List.length_map] at *); omega)); intro x hx)
          | ((with_reducible refine ixN_mk 0 ?_ ?_ ?_); (focus rfl); (focus decide))
          | ((with_reducible refine ixN_mk 1 ?_ ?_ ?_); (focus rfl); (focus decide))
          | ((with_reducible refine ixN_mk 2 ?_ ?_ ?_); (focus rfl); (focus decide))
          | ((with_reducible refine ixN_mk 3 ?_ ?_ ?_); (focus rfl); (focus decide))
          | ((with_reducible refine ixN_mk 4 ?_ ?_ ?_); (focus rfl); (focus decide))
          | ((with_reducible refine ixN_mk 5 ?_ ?_ ?_); (focus rfl); (focus decide))
          | ((with_reducible refine ixN_mk 6 ?_ ?_ ?_); (focus rfl); (focus decide))
          | ((with_reducible refine ixN_mk 7 ?_ ?_ ?_); (focus rfl); (focus decide))
          | ((with_reducible refine posE_nil (by rfl) ?_))
          | ((with_reducible refine posE_pos (by decide) ?_))
          | with_reducible refine vN_mod (by omega) ?_
          | with_reducible refine vN_mk ?_
          | with_reducible refine nzN_mk (by omega) ?_
          | with_reducible refine eqN_dec (by omega) ?_
          | with_reducible refine draw_rule tabOk mixOk ?_
          | with_reducible refine apN_mk (by kernel_rfl) ?_
          | ((with_reducible apply conN_mk2 ?_ (c1) ?_);(first | (focus exact ⟨rfl, trivial⟩)); skip)
          | ((with_reducible apply call_con2 ?_ (c1) ?_);(first | (focus exact ⟨rfl, trivial⟩)); rintro _ _ _ ⟨rfl, rfl, rfl⟩)
          | ((with_reducible apply conN_mk2 ?_ (wakes_con) ?_);(first | (focus exact trivial)); skip)
          | ((with_reducible apply call_con2 ?_ (wakes_con) ?_);(first | (focus exact trivial)); rintro _ _ _ ⟨rfl, rfl, rfl⟩)
          | ((with_reducible apply conN_mk2 ?_ (right_f _ _ hr hk) ?_);(first | (focus exact ⟨⟨rfl, rfl, trivial⟩, trivial⟩) | (rotate_left 1; (focus exact ⟨⟨rfl, rfl, trivial⟩, trivial⟩)) | (rotate_left 2; (focus exact ⟨⟨rfl, rfl, trivial⟩, trivial⟩))); skip)
          | ((with_reducible apply call_con2 ?_ (right_f _ _ hr hk) ?_);(first | (focus exact ⟨⟨rfl, rfl, trivial⟩, trivial⟩) | (rotate_left 1; (focus exact ⟨⟨rfl, rfl, trivial⟩, trivial⟩)) | (rotate_left 2; (focus exact ⟨⟨rfl, rfl, trivial⟩, trivial⟩))); rintro _ _ _ ⟨rfl, rfl, rfl⟩)
          | ((with_reducible apply conN_mk2 ?_ (copied_con _ _ hr) ?_);(first | (focus exact ⟨⟨rfl, rfl, trivial⟩, trivial⟩) | (rotate_left 1; (focus exact ⟨⟨rfl, rfl, trivial⟩, trivial⟩)) | (rotate_left 2; (focus exact ⟨⟨rfl, rfl, trivial⟩, trivial⟩))); skip)
          | ((with_reducible apply call_con2 ?_ (copied_con _ _ hr) ?_);(first | (focus exact ⟨⟨rfl, rfl, trivial⟩, trivial⟩) | (rotate_left 1; (focus exact ⟨⟨rfl, rfl, trivial⟩, trivial⟩)) | (rotate_left 2; (focus exact ⟨⟨rfl, rfl, trivial⟩, trivial⟩))); rintro _ _ _ ⟨rfl, rfl, rfl⟩)
          | ((with_reducible apply conN_mk2 ?_ (check_f _ _ hr hk) ?_);(first | (focus exact ⟨⟨rfl, (by first | exact low_osl fun _ => rfl | exact low_oslr fun _ => rfl), trivial⟩, trivial⟩) | (rotate_left 1; (focus exact ⟨⟨rfl, (by first | exact low_osl fun _ => rfl | exact low_oslr fun _ => rfl), trivial⟩, trivial⟩)) | (rotate_left 2; (focus exact ⟨⟨rfl, (by first | exact low_osl fun _ => rfl | exact low_oslr fun _ => rfl), trivial⟩, trivial⟩))); skip)
          | ((with_reducible apply call_con2 ?_ (check_f _ _ hr hk) ?_);(first | (focus exact ⟨⟨rfl, (by first | exact low_osl fun _ => rfl | exact low_oslr fun _ => rfl), trivial⟩, trivial⟩) | (rotate_left 1; (focus exact ⟨⟨rfl, (by first | exact low_osl fun _ => rfl | exact low_oslr fun _ => rfl), trivial⟩, trivial⟩)) | (rotate_left 2; (focus exact ⟨⟨rfl, (by first | exact low_osl fun _ => rfl | exact low_oslr fun _ => rfl), trivial⟩, trivial⟩))); rintro _ _ _ ⟨rfl, rfl, rfl⟩)
          | ((with_reducible apply conN_mk2 ?_ (same_con _ _ _ _ hr) ?_);(first | (focus exact ⟨⟨rfl, rfl, trivial⟩, ⟨rfl, rfl, trivial⟩, trivial⟩) | (rotate_left 1; (focus exact ⟨⟨rfl, rfl, trivial⟩, ⟨rfl, rfl, trivial⟩, trivial⟩)) | (rotate_left 2; (focus exact ⟨⟨rfl, rfl, trivial⟩, ⟨rfl, rfl, trivial⟩, trivial⟩)) | (rotate_left 3; (focus exact ⟨⟨rfl, rfl, trivial⟩, ⟨rfl, rfl, trivial⟩, trivial⟩)) | (rotate_left 4; (focus exact ⟨⟨rfl, rfl, trivial⟩, ⟨rfl, rfl, trivial⟩, trivial⟩))); skip)
          | ((with_reducible apply call_con2 ?_ (same_con _ _ _ _ hr) ?_);(first | (focus exact ⟨⟨rfl, rfl, trivial⟩, ⟨rfl, rfl, trivial⟩, trivial⟩) | (rotate_left 1; (focus exact ⟨⟨rfl, rfl, trivial⟩, ⟨rfl, rfl, trivial⟩, trivial⟩)) | (rotate_left 2; (focus exact ⟨⟨rfl, rfl, trivial⟩, ⟨rfl, rfl, trivial⟩, trivial⟩)) | (rotate_left 3; (focus exact ⟨⟨rfl, rfl, trivial⟩, ⟨rfl, rfl, trivial⟩, trivial⟩)) | (rotate_left 4; (focus exact ⟨⟨rfl, rfl, trivial⟩, ⟨rfl, rfl, trivial⟩, trivial⟩))); rintro _ _ _ ⟨rfl, rfl, rfl⟩)
          | ((with_reducible apply conN_mk2 ?_ (rsame_con _ _ _ _ hr) ?_);(first | (focus exact ⟨⟨rfl, rfl, trivial⟩, ⟨rfl, rfl, trivial⟩, trivial⟩) | (rotate_left 1; (focus exact ⟨⟨rfl, rfl, trivial⟩, ⟨rfl, rfl, trivial⟩, trivial⟩)) | (rotate_left 2; (focus exact ⟨⟨rfl, rfl, trivial⟩, ⟨rfl, rfl, trivial⟩, trivial⟩)) | (rotate_left 3; (focus exact ⟨⟨rfl, rfl, trivial⟩, ⟨rfl, rfl, trivial⟩, trivial⟩)) | (rotate_left 4; (focus exact ⟨⟨rfl, rfl, trivial⟩, ⟨rfl, rfl, trivial⟩, trivial⟩))); skip)
          | ((with_reducible apply call_con2 ?_ (rsame_con _ _ _ _ hr) ?_);(first | (focus exact ⟨⟨rfl, rfl, trivial⟩, ⟨rfl, rfl, trivial⟩, trivial⟩) | (rotate_left 1; (focus exact ⟨⟨rfl, rfl, trivial⟩, ⟨rfl, rfl, trivial⟩, trivial⟩)) | (rotate_left 2; (focus exact ⟨⟨rfl, rfl, trivial⟩, ⟨rfl, rfl, trivial⟩, trivial⟩)) | (rotate_left 3; (focus exact ⟨⟨rfl, rfl, trivial⟩, ⟨rfl, rfl, trivial⟩, trivial⟩)) | (rotate_left 4; (focus exact ⟨⟨rfl, rfl, trivial⟩, ⟨rfl, rfl, trivial⟩, trivial⟩))); rintro _ _ _ ⟨rfl, rfl, rfl⟩)
          | ((with_reducible apply conN_mk2 ?_ (same_con _ _ _ _ hr) ?_);(first | (focus exact ⟨⟨rfl, rfl, trivial⟩, ⟨rfl, (by first | exact low_osl fun _ => rfl | exact low_oslr fun _ => rfl), trivial⟩, trivial⟩) | (rotate_left 1; (focus exact ⟨⟨rfl, rfl, trivial⟩, ⟨rfl, (by first | exact low_osl fun _ => rfl | exact low_oslr fun _ => rfl), trivial⟩, trivial⟩)) | (rotate_left 2; (focus exact ⟨⟨rfl, rfl, trivial⟩, ⟨rfl, (by first | exact low_osl fun _ => rfl | exact low_oslr fun _ => rfl), trivial⟩, trivial⟩)) | (rotate_left 3; (focus exact ⟨⟨rfl, rfl, trivial⟩, ⟨rfl, (by first | exact low_osl fun _ => rfl | exact low_oslr fun _ => rfl), trivial⟩, trivial⟩)) | (rotate_left 4; (focus exact ⟨⟨rfl, rfl, trivial⟩, ⟨rfl, (by first | exact low_osl fun _ => rfl | exact low_oslr fun _ => rfl), trivial⟩, trivial⟩))); skip)
          | ((with_reducible apply call_con2 ?_ (same_con _ _ _ _ hr) ?_);(first | (focus exact ⟨⟨rfl, rfl, trivial⟩, ⟨rfl, (by first | exact low_osl fun _ => rfl | exact low_oslr fun _ => rfl), trivial⟩, trivial⟩) | (rotate_left 1; (focus exact ⟨⟨rfl, rfl, trivial⟩, ⟨rfl, (by first | exact low_osl fun _ => rfl | exact low_oslr fun _ => rfl), trivial⟩, trivial⟩)) | (rotate_left 2; (focus exact ⟨⟨rfl, rfl, trivial⟩, ⟨rfl, (by first | exact low_osl fun _ => rfl | exact low_oslr fun _ => rfl), trivial⟩, trivial⟩)) | (rotate_left 3; (focus exact ⟨⟨rfl, rfl, trivial⟩, ⟨rfl, (by first | exact low_osl fun _ => rfl | exact low_oslr fun _ => rfl), trivial⟩, trivial⟩)) | (rotate_left 4; (focus exact ⟨⟨rfl, rfl, trivial⟩, ⟨rfl, (by first | exact low_osl fun _ => rfl | exact low_oslr fun _ => rfl), trivial⟩, trivial⟩))); rintro _ _ _ ⟨rfl, rfl, rfl⟩)
          | ((with_reducible apply conN_mk2 ?_ (new_con _) ?_);(first | (focus exact ⟨rfl, trivial⟩) | (rotate_left 1; (focus exact ⟨rfl, trivial⟩))); skip)
          | ((with_reducible apply call_con2 ?_ (new_con _) ?_);(first | (focus exact ⟨rfl, trivial⟩) | (rotate_left 1; (focus exact ⟨rfl, trivial⟩))); rintro _ _ _ ⟨rfl, rfl, rfl⟩)
          | ((with_reducible apply conN_mk2 ?_ (rsame_con _ _ [] [] (Nat.zero_le _)) ?_);(first | (focus exact ⟨⟨rfl, .inr ⟨3, rfl⟩, trivial⟩, ⟨rfl, .inr ⟨3, rfl⟩, trivial⟩, trivial⟩) | (rotate_left 1; (focus exact ⟨⟨rfl, .inr ⟨3, rfl⟩, trivial⟩, ⟨rfl, .inr ⟨3, rfl⟩, trivial⟩, trivial⟩)) | (rotate_left 2; (focus exact ⟨⟨rfl, .inr ⟨3, rfl⟩, trivial⟩, ⟨rfl, .inr ⟨3, rfl⟩, trivial⟩, trivial⟩)) | (rotate_left 3; (focus exact ⟨⟨rfl, .inr ⟨3, rfl⟩, trivial⟩, ⟨rfl, .inr ⟨3, rfl⟩, trivial⟩, trivial⟩))); skip)
          | ((with_reducible apply call_con2 ?_ (rsame_con _ _ [] [] (Nat.zero_le _)) ?_);(first | (focus exact ⟨⟨rfl, .inr ⟨3, rfl⟩, trivial⟩, ⟨rfl, .inr ⟨3, rfl⟩, trivial⟩, trivial⟩) | (rotate_left 1; (focus exact ⟨⟨rfl, .inr ⟨3, rfl⟩, trivial⟩, ⟨rfl, .inr ⟨3, rfl⟩, trivial⟩, trivial⟩)) | (rotate_left 2; (focus exact ⟨⟨rfl, .inr ⟨3, rfl⟩, trivial⟩, ⟨rfl, .inr ⟨3, rfl⟩, trivial⟩, trivial⟩)) | (rotate_left 3; (focus exact ⟨⟨rfl, .inr ⟨3, rfl⟩, trivial⟩, ⟨rfl, .inr ⟨3, rfl⟩, trivial⟩, trivial⟩))); rintro _ _ _ ⟨rfl, rfl, rfl⟩)
          | ((with_reducible apply conN_mk2 ?_ (latest_f _ _ hr hk) ?_);(first | (focus exact ⟨⟨rfl, (by first | exact low_osl fun _ => rfl | exact low_oslr fun _ => rfl), trivial⟩, trivial⟩) | (rotate_left 1; (focus exact ⟨⟨rfl, (by first | exact low_osl fun _ => rfl | exact low_oslr fun _ => rfl), trivial⟩, trivial⟩)) | (rotate_left 2; (focus exact ⟨⟨rfl, (by first | exact low_osl fun _ => rfl | exact low_oslr fun _ => rfl), trivial⟩, trivial⟩))); skip)
          | ((with_reducible apply call_con2 ?_ (latest_f _ _ hr hk) ?_);(first | (focus exact ⟨⟨rfl, (by first | exact low_osl fun _ => rfl | exact low_oslr fun _ => rfl), trivial⟩, trivial⟩) | (rotate_left 1; (focus exact ⟨⟨rfl, (by first | exact low_osl fun _ => rfl | exact low_oslr fun _ => rfl), trivial⟩, trivial⟩)) | (rotate_left 2; (focus exact ⟨⟨rfl, (by first | exact low_osl fun _ => rfl | exact low_oslr fun _ => rfl), trivial⟩, trivial⟩))); rintro _ _ _ ⟨rfl, rfl, rfl⟩)
          | ((with_reducible apply conN_mk2 ?_ (next_f _ _ hr hk) ?_);(first | (focus exact ⟨⟨rfl, (by first | exact low_osl fun _ => rfl | exact low_oslr fun _ => rfl), trivial⟩, trivial⟩) | (rotate_left 1; (focus exact ⟨⟨rfl, (by first | exact low_osl fun _ => rfl | exact low_oslr fun _ => rfl), trivial⟩, trivial⟩)) | (rotate_left 2; (focus exact ⟨⟨rfl, (by first | exact low_osl fun _ => rfl | exact low_oslr fun _ => rfl), trivial⟩, trivial⟩))); skip)
          | ((with_reducible apply call_con2 ?_ (next_f _ _ hr hk) ?_);(first | (focus exact ⟨⟨rfl, (by first | exact low_osl fun _ => rfl | exact low_oslr fun _ => rfl), trivial⟩, trivial⟩) | (rotate_left 1; (focus exact ⟨⟨rfl, (by first | exact low_osl fun _ => rfl | exact low_oslr fun _ => rfl), trivial⟩, trivial⟩)) | (rotate_left 2; (focus exact ⟨⟨rfl, (by first | exact low_osl fun _ => rfl | exact low_oslr fun _ => rfl), trivial⟩, trivial⟩))); rintro _ _ _ ⟨rfl, rfl, rfl⟩)
          | ((with_reducible apply conN_mk2 ?_ (saves_f _ _ hr hk) ?_);(first | (focus exact ⟨⟨rfl, (by first | exact low_osl fun _ => rfl | exact low_oslr fun _ => rfl), trivial⟩, trivial⟩) | (rotate_left 1; (focus exact ⟨⟨rfl, (by first | exact low_osl fun _ => rfl | exact low_oslr fun _ => rfl), trivial⟩, trivial⟩)) | (rotate_left 2; (focus exact ⟨⟨rfl, (by first | exact low_osl fun _ => rfl | exact low_oslr fun _ => rfl), trivial⟩, trivial⟩))); skip)
          | ((with_reducible apply call_con2 ?_ (saves_f _ _ hr hk) ?_);(first | (focus exact ⟨⟨rfl, (by first | exact low_osl fun _ => rfl | exact low_oslr fun _ => rfl), trivial⟩, trivial⟩) | (rotate_left 1; (focus exact ⟨⟨rfl, (by first | exact low_osl fun _ => rfl | exact low_oslr fun _ => rfl), trivial⟩, trivial⟩)) | (rotate_left 2; (focus exact ⟨⟨rfl, (by first | exact low_osl fun _ => rfl | exact low_oslr fun _ => rfl), trivial⟩, trivial⟩))); rintro _ _ _ ⟨rfl, rfl, rfl⟩))
        all_goals (try (conv => whnf))
        all_goals try (refine ret0 _ rfl _ rfl (fun _ => rfl) rfl ⟨?_, rfl, rfl⟩; rfl)
      · have c1 := new_con kp
        simp only [if_neg (show ¬ (1 ≤ kp ∧ kp ≤ 4) by omega)] at c1
        refine con_of tabOk 194 Try.f5 _ Try.func5 (by kernel_rfl) rfl rfl rfl rfl (fun W => ?_)
        repeat' ((conv => whnf); first
          | with_reducible refine spB_t ?_
          | ((with_reducible apply spB_cong); (focus (simp only [beq_self_eq_true, bne_self_eq_false, Bool.true_bne, Bool.false_bne, Bool.bne_true, Bool.bne_false, Bool.true_beq, Bool.false_beq, Bool.not_true, Bool.not_false, Bool.not_not, Int.reduceBEq, Int.reduceBNe, Int.reduceLE, Int.reduceLT, Int.reduceEq, decide_true, decide_false, eq_self, and_self, List.length_nil, List.length_map, if_true, if_false]; rfl)))
          | with_reducible refine spB_yes (by decide) ?_
          | with_reducible refine spB_no (by decide) ?_
          | with_reducible refine spB_f ?_
          | with_reducible refine spB_not ?_
          | with_reducible refine spB_yes (by assumption) ?_
          | with_reducible refine spB_no (by assumption) ?_
          | (with_reducible refine spB_dec ?_ ?_ <;> intro _ <;> (try (exfalso; first | contradiction | omega | (rename_i hz; with_reducible exact absurd rfl hz))))
          | (with_reducible refine spB_beq ?_ ?_ <;> intro _ <;> (try (exfalso; first | contradiction | omega | (rename_i hz; with_reducible exact absurd rfl hz))))
          | (with_reducible refine spB_bne ?_ ?_ <;> intro _ <;> (try (exfalso; first | contradiction | omega | (rename_i hz; with_reducible exact absurd rfl hz))))
          | (with_reducible refine spB_mk ?_ ?_ <;> intro _ <;> (try (exfalso; first | contradiction | omega | (rename_i hz; with_reducible exact absurd rfl hz))))
          | ((with_reducible apply rowN_mk); (focus rfl))
          | ((with_reducible refine ixN_mk 0 ?_ ?_ ?_); (focus rfl); (focus (exact Nat.le_of_ble_eq_true rfl)))
          | ((with_reducible refine ixN_mk 1 ?_ ?_ ?_); (focus rfl); (focus (exact Nat.le_of_ble_eq_true rfl)))
          | ((with_reducible refine ixN_mk 2 ?_ ?_ ?_); (focus rfl); (focus (exact Nat.le_of_ble_eq_true rfl)))
          | ((with_reducible refine ixN_mk 3 ?_ ?_ ?_); (focus rfl); (focus (exact Nat.le_of_ble_eq_true rfl)))
          | ((with_reducible refine ixN_mk 4 ?_ ?_ ?_); (focus rfl); (focus (exact Nat.le_of_ble_eq_true rfl)))
          | ((with_reducible refine ixN_mk 5 ?_ ?_ ?_); (focus rfl); (focus (exact Nat.le_of_ble_eq_true rfl)))
          | ((with_reducible refine ixN_mk 6 ?_ ?_ ?_); (focus rfl); (focus (exact Nat.le_of_ble_eq_true rfl)))
          | ((with_reducible refine ixN_mk 7 ?_ ?_ ?_); (focus rfl); (focus (exact Nat.le_of_ble_eq_true rfl)))
          | ((with_reducible refine eqN_mk2 ?_ ?_); (focus rfl))
          | ((with_reducible refine posN_mk2 ?_ ?_); (focus (first | decide | ((try simp only [List.length_replicate, List.length_map, List.length_append, List.length_nil, List.length_cons, maxLen] at *); omega))))
          | ((with_reducible refine apdN.mk ?_ ?_ ?_ ?_ ?_ ?_); (focus (first | rfl | (simp; done))); (focus (first | exact one_all (by rfl) | exact one_map (fun _ => rfl) | exact one_map2 (fun _ => rfl))); (focus ((try simp only [List.length_replicate, List.length_map, List.length_append, List.length_nil, List.length_cons, maxLen] at *); omega)); (focus ((try simp only [List.length_replicate, List.length_map, List.length_append, List.length_nil, List.length_cons, maxLen] at *); omega)); (focus ((try simp only [List.length_replicate, List.length_map, List.length_append, List.length_nil, List.length_cons, maxLen] at *); omega)))
          | ((with_reducible refine cpyN.mk ?_ ?_ ?_ ?_); (focus (first | rfl | (simp; done))); (focus (first | exact one_all (by rfl) | exact one_map (fun _ => rfl) | exact one_map2 (fun _ => rfl))); (focus ((try simp only [List.length_replicate, List.length_map, List.length_append, List.length_nil, List.length_cons, maxLen] at *); omega)))
          | with_reducible refine wr_i64 (by first | omega | (simp only [List.length_map] at *; omega)) ?_
          | with_reducible refine wr_u64 (by omega) ?_
          | with_reducible refine wr_u8 (by omega) ?_
          | with_reducible refine wr_u32 (by omega) ?_
          | with_reducible refine wr_mk _ rfl ?_
          | ((with_reducible refine ixN_nat ?_ ?_); (focus ((try simp only [List.length_map] at *); omega)))
          | ((with_reducible refine rowN_map ?_ ?_); (focus ((try simp only [List.length_map] at *); omega)); intro x hx)
          | ((with_reducible refine ixN_mk 0 ?_ ?_ ?_); (focus rfl); (focus decide))
          | ((with_reducible refine ixN_mk 1 ?_ ?_ ?_); (focus rfl); (focus decide))
          | ((with_reducible refine ixN_mk 2 ?_ ?_ ?_); (focus rfl); (focus decide))
          | ((with_reducible refine ixN_mk 3 ?_ ?_ ?_); (focus rfl); (focus decide))
          | ((with_reducible refine ixN_mk 4 ?_ ?_ ?_); (focus rfl); (focus decide))
          | ((with_reducible refine ixN_mk 5 ?_ ?_ ?_); (focus rfl); (focus decide))
          | ((with_reducible refine ixN_mk 6 ?_ ?_ ?_); (focus rfl); (focus decide))
          | ((with_reducible refine ixN_mk 7 ?_ ?_ ?_); (focus rfl); (focus decide))
          | ((with_reducible refine posE_nil (by rfl) ?_))
          | ((with_reducible refine posE_pos (by decide) ?_))
          | with_reducible refine vN_mod (by omega) ?_
          | with_reducible refine vN_mk ?_
          | with_reducible refine nzN_mk (by omega) ?_
          | with_reducible refine eqN_dec (by omega) ?_
          | with_reducible refine draw_rule tabOk mixOk ?_
          | with_reducible refine apN_mk (by kernel_rfl) ?_
          | ((with_reducible apply conN_mk2 ?_ (c1) ?_);(first | (focus exact ⟨rfl, trivial⟩)); skip)
          | ((with_reducible apply call_con2 ?_ (c1) ?_);(first | (focus exact ⟨rfl, trivial⟩)); rintro _ _ _ ⟨rfl, rfl, rfl⟩)
          | ((with_reducible apply conN_mk2 ?_ (wakes_con) ?_);(first | (focus exact trivial)); skip)
          | ((with_reducible apply call_con2 ?_ (wakes_con) ?_);(first | (focus exact trivial)); rintro _ _ _ ⟨rfl, rfl, rfl⟩)
          | ((with_reducible apply conN_mk2 ?_ (right_f _ _ hr hk) ?_);(first | (focus exact ⟨⟨rfl, rfl, trivial⟩, trivial⟩) | (rotate_left 1; (focus exact ⟨⟨rfl, rfl, trivial⟩, trivial⟩)) | (rotate_left 2; (focus exact ⟨⟨rfl, rfl, trivial⟩, trivial⟩))); skip)
          | ((with_reducible apply call_con2 ?_ (right_f _ _ hr hk) ?_);(first | (focus exact ⟨⟨rfl, rfl, trivial⟩, trivial⟩) | (rotate_left 1; (focus exact ⟨⟨rfl, rfl, trivial⟩, trivial⟩)) | (rotate_left 2; (focus exact ⟨⟨rfl, rfl, trivial⟩, trivial⟩))); rintro _ _ _ ⟨rfl, rfl, rfl⟩)
          | ((with_reducible apply conN_mk2 ?_ (copied_con _ _ hr) ?_);(first | (focus exact ⟨⟨rfl, rfl, trivial⟩, trivial⟩) | (rotate_left 1; (focus exact ⟨⟨rfl, rfl, trivial⟩, trivial⟩)) | (rotate_left 2; (focus exact ⟨⟨rfl, rfl, trivial⟩, trivial⟩))); skip)
          | ((with_reducible apply call_con2 ?_ (copied_con _ _ hr) ?_);(first | (focus exact ⟨⟨rfl, rfl, trivial⟩, trivial⟩) | (rotate_left 1; (focus exact ⟨⟨rfl, rfl, trivial⟩, trivial⟩)) | (rotate_left 2; (focus exact ⟨⟨rfl, rfl, trivial⟩, trivial⟩))); rintro _ _ _ ⟨rfl, rfl, rfl⟩)
          | ((with_reducible apply conN_mk2 ?_ (check_f _ _ hr hk) ?_);(first | (focus exact ⟨⟨rfl, (by first | exact low_osl fun _ => rfl | exact low_oslr fun _ => rfl), trivial⟩, trivial⟩) | (rotate_left 1; (focus exact ⟨⟨rfl, (by first | exact low_osl fun _ => rfl | exact low_oslr fun _ => rfl), trivial⟩, trivial⟩)) | (rotate_left 2; (focus exact ⟨⟨rfl, (by first | exact low_osl fun _ => rfl | exact low_oslr fun _ => rfl), trivial⟩, trivial⟩))); skip)
          | ((with_reducible apply call_con2 ?_ (check_f _ _ hr hk) ?_);(first | (focus exact ⟨⟨rfl, (by first | exact low_osl fun _ => rfl | exact low_oslr fun _ => rfl), trivial⟩, trivial⟩) | (rotate_left 1; (focus exact ⟨⟨rfl, (by first | exact low_osl fun _ => rfl | exact low_oslr fun _ => rfl), trivial⟩, trivial⟩)) | (rotate_left 2; (focus exact ⟨⟨rfl, (by first | exact low_osl fun _ => rfl | exact low_oslr fun _ => rfl), trivial⟩, trivial⟩))); rintro _ _ _ ⟨rfl, rfl, rfl⟩)
          | ((with_reducible apply conN_mk2 ?_ (same_con _ _ _ _ hr) ?_);(first | (focus exact ⟨⟨rfl, rfl, trivial⟩, ⟨rfl, rfl, trivial⟩, trivial⟩) | (rotate_left 1; (focus exact ⟨⟨rfl, rfl, trivial⟩, ⟨rfl, rfl, trivial⟩, trivial⟩)) | (rotate_left 2; (focus exact ⟨⟨rfl, rfl, trivial⟩, ⟨rfl, rfl, trivial⟩, trivial⟩)) | (rotate_left 3; (focus exact ⟨⟨rfl, rfl, trivial⟩, ⟨rfl, rfl, trivial⟩, trivial⟩)) | (rotate_left 4; (focus exact ⟨⟨rfl, rfl, trivial⟩, ⟨rfl, rfl, trivial⟩, trivial⟩))); skip)
          | ((with_reducible apply call_con2 ?_ (same_con _ _ _ _ hr) ?_);(first | (focus exact ⟨⟨rfl, rfl, trivial⟩, ⟨rfl, rfl, trivial⟩, trivial⟩) | (rotate_left 1; (focus exact ⟨⟨rfl, rfl, trivial⟩, ⟨rfl, rfl, trivial⟩, trivial⟩)) | (rotate_left 2; (focus exact ⟨⟨rfl, rfl, trivial⟩, ⟨rfl, rfl, trivial⟩, trivial⟩)) | (rotate_left 3; (focus exact ⟨⟨rfl, rfl, trivial⟩, ⟨rfl, rfl, trivial⟩, trivial⟩)) | (rotate_left 4; (focus exact ⟨⟨rfl, rfl, trivial⟩, ⟨rfl, rfl, trivial⟩, trivial⟩))); rintro _ _ _ ⟨rfl, rfl, rfl⟩)
          | ((with_reducible apply conN_mk2 ?_ (rsame_con _ _ _ _ hr) ?_);(first | (focus exact ⟨⟨rfl, rfl, trivial⟩, ⟨rfl, rfl, trivial⟩, trivial⟩) | (rotate_left 1; (focus exact ⟨⟨rfl, rfl, trivial⟩, ⟨rfl, rfl, trivial⟩, trivial⟩)) | (rotate_left 2; (focus exact ⟨⟨rfl, rfl, trivial⟩, ⟨rfl, rfl, trivial⟩, trivial⟩)) | (rotate_left 3; (focus exact ⟨⟨rfl, rfl, trivial⟩, ⟨rfl, rfl, trivial⟩, trivial⟩)) | (rotate_left 4; (focus exact ⟨⟨rfl, rfl, trivial⟩, ⟨rfl, rfl, trivial⟩, trivial⟩))); skip)
          | ((with_reducible apply call_con2 ?_ (rsame_con _ _ _ _ hr) ?_);(first | (focus exact ⟨⟨rfl, rfl, trivial⟩, ⟨rfl, rfl, trivial⟩, trivial⟩) | (rotate_left 1; (focus exact ⟨⟨rfl, rfl, trivial⟩, ⟨rfl, rfl, trivial⟩, trivial⟩)) | (rotate_left 2; (focus exact ⟨⟨rfl, rfl, trivial⟩, ⟨rfl, rfl, trivial⟩, trivial⟩)) | (rotate_left 3; (focus exact ⟨⟨rfl, rfl, trivial⟩, ⟨rfl, rfl, trivial⟩, trivial⟩)) | (rotate_left 4; (focus exact ⟨⟨rfl, rfl, trivial⟩, ⟨rfl, rfl, trivial⟩, trivial⟩))); rintro _ _ _ ⟨rfl, rfl, rfl⟩)
          | ((with_reducible apply conN_mk2 ?_ (same_con _ _ _ _ hr) ?_);(first | (focus exact ⟨⟨rfl, rfl, trivial⟩, ⟨rfl, (by first | exact low_osl fun _ => rfl | exact low_oslr fun _ => rfl), trivial⟩, trivial⟩) | (rotate_left 1; (focus exact ⟨⟨rfl, rfl, trivial⟩, ⟨rfl, (by first | exact low_osl fun _ => rfl | exact low_oslr fun _ => rfl), trivial⟩, trivial⟩)) | (rotate_left 2; (focus exact ⟨⟨rfl, rfl, trivial⟩, ⟨rfl, (by first | exact low_osl fun _ => rfl | exact low_oslr fun _ => rfl), trivial⟩, trivial⟩)) | (rotate_left 3; (focus exact ⟨⟨rfl, rfl, trivial⟩, ⟨rfl, (by first | exact low_osl fun _ => rfl | exact low_oslr fun _ => rfl), trivial⟩, trivial⟩)) | (rotate_left 4; (focus exact ⟨⟨rfl, rfl, trivial⟩, ⟨rfl, (by first | exact low_osl fun _ => rfl | exact low_oslr fun _ => rfl), trivial⟩, trivial⟩))); skip)
          | ((with_reducible apply call_con2 ?_ (same_con _ _ _ _ hr) ?_);(first | (focus exact ⟨⟨rfl, rfl, trivial⟩, ⟨rfl, (by first | exact low_osl fun _ => rfl | exact low_oslr fun _ => rfl), trivial⟩, trivial⟩) | (rotate_left 1; (focus exact ⟨⟨rfl, rfl, trivial⟩, ⟨rfl, (by first | exact low_osl fun _ => rfl | exact low_oslr fun _ => rfl), trivial⟩, trivial⟩)) | (rotate_left 2; (focus exact ⟨⟨rfl, rfl, trivial⟩, ⟨rfl, (by first | exact low_osl fun _ => rfl | exact low_oslr fun _ => rfl), trivial⟩, trivial⟩)) | (rotate_left 3; (focus exact ⟨⟨rfl, rfl, trivial⟩, ⟨rfl, (by first | exact low_osl fun _ => rfl | exact low_oslr fun _ => rfl), trivial⟩, trivial⟩)) | (rotate_left 4; (focus exact ⟨⟨rfl, rfl, trivial⟩, ⟨rfl, (by first | exact low_osl fun _ => rfl | exact low_oslr fun _ => rfl), trivial⟩, trivial⟩))); rintro _ _ _ ⟨rfl, rfl, rfl⟩)
          | ((with_reducible apply conN_mk2 ?_ (new_con _) ?_);(first | (focus exact ⟨rfl, trivial⟩) | (rotate_left 1; (focus exact ⟨rfl, trivial⟩))); skip)
          | ((with_reducible apply call_con2 ?_ (new_con _) ?_);(first | (focus exact ⟨rfl, trivial⟩) | (rotate_left 1; (focus exact ⟨rfl, trivial⟩))); rintro _ _ _ ⟨rfl, rfl, rfl⟩)
          | ((with_reducible apply conN_mk2 ?_ (rsame_con _ _ [] [] (Nat.zero_le _)) ?_);(first | (focus exact ⟨⟨rfl, .inr ⟨3, rfl⟩, trivial⟩, ⟨rfl, .inr ⟨3, rfl⟩, trivial⟩, trivial⟩) | (rotate_left 1; (focus exact ⟨⟨rfl, .inr ⟨3, rfl⟩, trivial⟩, ⟨rfl, .inr ⟨3, rfl⟩, trivial⟩, trivial⟩)) | (rotate_left 2; (focus exact ⟨⟨rfl, .inr ⟨3, rfl⟩, trivial⟩, ⟨rfl, .inr ⟨3, rfl⟩, trivial⟩, trivial⟩)) | (rotate_left 3; (focus exact ⟨⟨rfl, .inr ⟨3, rfl⟩, trivial⟩, ⟨rfl, .inr ⟨3, rfl⟩, trivial⟩, trivial⟩))); skip)
          | ((with_reducible apply call_con2 ?_ (rsame_con _ _ [] [] (Nat.zero_le _)) ?_);(first | (focus exact ⟨⟨rfl, .inr ⟨3, rfl⟩, trivial⟩, ⟨rfl, .inr ⟨3, rfl⟩, trivial⟩, trivial⟩) | (rotate_left 1; (focus exact ⟨⟨rfl, .inr ⟨3, rfl⟩, trivial⟩, ⟨rfl, .inr ⟨3, rfl⟩, trivial⟩, trivial⟩)) | (rotate_left 2; (focus exact ⟨⟨rfl, .inr ⟨3, rfl⟩, trivial⟩, ⟨rfl, .inr ⟨3, rfl⟩, trivial⟩, trivial⟩)) | (rotate_left 3; (focus exact ⟨⟨rfl, .inr ⟨3, rfl⟩, trivial⟩, ⟨rfl, .inr ⟨3, rfl⟩, trivial⟩, trivial⟩))); rintro _ _ _ ⟨rfl, rfl, rfl⟩)
          | ((with_reducible apply conN_mk2 ?_ (latest_f _ _ hr hk) ?_);(first | (focus exact ⟨⟨rfl, (by first | exact low_osl fun _ => rfl | exact low_oslr fun _ => rfl), trivial⟩, trivial⟩) | (rotate_left 1; (focus exact ⟨⟨rfl, (by first | exact low_osl fun _ => rfl | exact low_oslr fun _ => rfl), trivial⟩, trivial⟩)) | (rotate_left 2; (focus exact ⟨⟨rfl, (by first | exact low_osl fun _ => rfl | exact low_oslr fun _ => rfl), trivial⟩, trivial⟩))); skip)
          | ((with_reducible apply call_con2 ?_ (latest_f _ _ hr hk) ?_);(first | (focus exact ⟨⟨rfl, (by first | exact low_osl fun _ => rfl | exact low_oslr fun _ => rfl), trivial⟩, trivial⟩) | (rotate_left 1; (focus exact ⟨⟨rfl, (by first | exact low_osl fun _ => rfl | exact low_oslr fun _ => rfl), trivial⟩, trivial⟩)) | (rotate_left 2; (focus exact ⟨⟨rfl, (by first | exact low_osl fun _ => rfl | exact low_oslr fun _ => rfl), trivial⟩, trivial⟩))); rintro _ _ _ ⟨rfl, rfl, rfl⟩)
          | ((with_reducible apply conN_mk2 ?_ (next_f _ _ hr hk) ?_);(first | (focus exact ⟨⟨rfl, (by first | exact low_osl fun _ => rfl | exact low_oslr fun _ => rfl), trivial⟩, trivial⟩) | (rotate_left 1; (focus exact ⟨⟨rfl, (by first | exact low_osl fun _ => rfl | exact low_oslr fun _ => rfl), trivial⟩, trivial⟩)) | (rotate_left 2; (focus exact ⟨⟨rfl, (by first | exact low_osl fun _ => rfl | exact low_oslr fun _ => rfl), trivial⟩, trivial⟩))); skip)
          | ((with_reducible apply call_con2 ?_ (next_f _ _ hr hk) ?_);(first | (focus exact ⟨⟨rfl, (by first | exact low_osl fun _ => rfl | exact low_oslr fun _ => rfl), trivial⟩, trivial⟩) | (rotate_left 1; (focus exact ⟨⟨rfl, (by first | exact low_osl fun _ => rfl | exact low_oslr fun _ => rfl), trivial⟩, trivial⟩)) | (rotate_left 2; (focus exact ⟨⟨rfl, (by first | exact low_osl fun _ => rfl | exact low_oslr fun _ => rfl), trivial⟩, trivial⟩))); rintro _ _ _ ⟨rfl, rfl, rfl⟩)
          | ((with_reducible apply conN_mk2 ?_ (saves_f _ _ hr hk) ?_);(first | (focus exact ⟨⟨rfl, (by first | exact low_osl fun _ => rfl | exact low_oslr fun _ => rfl), trivial⟩, trivial⟩) | (rotate_left 1; (focus exact ⟨⟨rfl, (by first | exact low_osl fun _ => rfl | exact low_oslr fun _ => rfl), trivial⟩, trivial⟩)) | (rotate_left 2; (focus exact ⟨⟨rfl, (by first | exact low_osl fun _ => rfl | exact low_oslr fun _ => rfl), trivial⟩, trivial⟩))); skip)
          | ((with_reducible apply call_con2 ?_ (saves_f _ _ hr hk) ?_);(first | (focus exact ⟨⟨rfl, (by first | exact low_osl fun _ => rfl | exact low_oslr fun _ => rfl), trivial⟩, trivial⟩) | (rotate_left 1; (focus exact ⟨⟨rfl, (by first | exact low_osl fun _ => rfl | exact low_oslr fun _ => rfl), trivial⟩, trivial⟩)) | (rotate_left 2; (focus exact ⟨⟨rfl, (by first | exact low_osl fun _ => rfl | exact low_oslr fun _ => rfl), trivial⟩, trivial⟩))); rintro _ _ _ ⟨rfl, rfl, rfl⟩))
        all_goals (try (conv => whnf))
        all_goals try (refine ret0 _ rfl _ rfl (fun _ => rfl) rfl ⟨?_, rfl, rfl⟩; rfl)
      · have c1 := new_con kp
        simp only [if_neg (show ¬ (1 ≤ kp ∧ kp ≤ 4) by omega)] at c1
        refine con_of tabOk 194 Try.f5 _ Try.func5 (by kernel_rfl) rfl rfl rfl rfl (fun W => ?_)
        repeat' ((conv => whnf); first
          | with_reducible refine spB_t ?_
          | ((with_reducible apply spB_cong); (focus (simp only [beq_self_eq_true, bne_self_eq_false, Bool.true_bne, Bool.false_bne, Bool.bne_true, Bool.bne_false, Bool.true_beq, Bool.false_beq, Bool.not_true, Bool.not_false, Bool.not_not, Int.reduceBEq, Int.reduceBNe, Int.reduceLE, Int.reduceLT, Int.reduceEq, decide_true, decide_false, eq_self, and_self, List.length_nil, List.length_map, if_true, if_false]; rfl)))
          | with_reducible refine spB_yes (by decide) ?_
          | with_reducible refine spB_no (by decide) ?_
          | with_reducible refine spB_f ?_
          | with_reducible refine spB_not ?_
          | with_reducible refine spB_yes (by assumption) ?_
          | with_reducible refine spB_no (by assumption) ?_
          | (with_reducible refine spB_dec ?_ ?_ <;> intro _ <;> (try (exfalso; first | contradiction | omega | (rename_i hz; with_reducible exact absurd rfl hz))))
          | (with_reducible refine spB_beq ?_ ?_ <;> intro _ <;> (try (exfalso; first | contradiction | omega | (rename_i hz; with_reducible exact absurd rfl hz))))
          | (with_reducible refine spB_bne ?_ ?_ <;> intro _ <;> (try (exfalso; first | contradiction | omega | (rename_i hz; with_reducible exact absurd rfl hz))))
          | (with_reducible refine spB_mk ?_ ?_ <;> intro _ <;> (try (exfalso; first | contradiction | omega | (rename_i hz; with_reducible exact absurd rfl hz))))
          | ((with_reducible apply rowN_mk); (focus rfl))
          | ((with_reducible refine ixN_mk 0 ?_ ?_ ?_); (focus rfl); (focus (exact Nat.le_of_ble_eq_true rfl)))
          | ((with_reducible refine ixN_mk 1 ?_ ?_ ?_); (focus rfl); (focus (exact Nat.le_of_ble_eq_true rfl)))
          | ((with_reducible refine ixN_mk 2 ?_ ?_ ?_); (focus rfl); (focus (exact Nat.le_of_ble_eq_true rfl)))
          | ((with_reducible refine ixN_mk 3 ?_ ?_ ?_); (focus rfl); (focus (exact Nat.le_of_ble_eq_true rfl)))
          | ((with_reducible refine ixN_mk 4 ?_ ?_ ?_); (focus rfl); (focus (exact Nat.le_of_ble_eq_true rfl)))
          | ((with_reducible refine ixN_mk 5 ?_ ?_ ?_); (focus rfl); (focus (exact Nat.le_of_ble_eq_true rfl)))
          | ((with_reducible refine ixN_mk 6 ?_ ?_ ?_); (focus rfl); (focus (exact Nat.le_of_ble_eq_true rfl)))
          | ((with_reducible refine ixN_mk 7 ?_ ?_ ?_); (focus rfl); (focus (exact Nat.le_of_ble_eq_true rfl)))
          | ((with_reducible refine eqN_mk2 ?_ ?_); (focus rfl))
          | ((with_reducible refine posN_mk2 ?_ ?_); (focus (first | decide | ((try simp only [List.length_replicate, List.length_map, List.length_append, List.length_nil, List.length_cons, maxLen] at *); omega))))
          | ((with_reducible refine apdN.mk ?_ ?_ ?_ ?_ ?_ ?_); (focus (first | rfl | (simp; done))); (focus (first | exact one_all (by rfl) | exact one_map (fun _ => rfl) | exact one_map2 (fun _ => rfl))); (focus ((try simp only [List.length_replicate, List.length_map, List.length_append, List.length_nil, List.length_cons, maxLen] at *); omega)); (focus ((try simp only [List.length_replicate, List.length_map, List.length_append, List.length_nil, List.length_cons, maxLen] at *); omega)); (focus ((try simp only [List.length_replicate, List.length_map, List.length_append, List.length_nil, List.length_cons, maxLen] at *); omega)))
          | ((with_reducible refine cpyN.mk ?_ ?_ ?_ ?_); (focus (first | rfl | (simp; done))); (focus (first | exact one_all (by rfl) | exact one_map (fun _ => rfl) | exact one_map2 (fun _ => rfl))); (focus ((try simp only [List.length_replicate, List.length_map, List.length_append, List.length_nil, List.length_cons, maxLen] at *); omega)))
          | with_reducible refine wr_i64 (by first | omega | (simp only [List.length_map] at *; omega)) ?_
          | with_reducible refine wr_u64 (by omega) ?_
          | with_reducible refine wr_u8 (by omega) ?_
          | with_reducible refine wr_u32 (by omega) ?_
          | with_reducible refine wr_mk _ rfl ?_
          | ((with_reducible refine ixN_nat ?_ ?_); (focus ((try simp only [List.length_map] at *); omega)))
          | ((with_reducible refine rowN_map ?_ ?_); (focus ((try simp only [List.length_map] at *); omega)); intro x hx)
          | ((with_reducible refine ixN_mk 0 ?_ ?_ ?_); (focus rfl); (focus decide))
          | ((with_reducible refine ixN_mk 1 ?_ ?_ ?_); (focus rfl); (focus decide))
          | ((with_reducible refine ixN_mk 2 ?_ ?_ ?_); (focus rfl); (focus decide))
          | ((with_reducible refine ixN_mk 3 ?_ ?_ ?_); (focus rfl); (focus decide))
          | ((with_reducible refine ixN_mk 4 ?_ ?_ ?_); (focus rfl); (focus decide))
          | ((with_reducible refine ixN_mk 5 ?_ ?_ ?_); (focus rfl); (focus decide))
          | ((with_reducible refine ixN_mk 6 ?_ ?_ ?_); (focus rfl); (focus decide))
          | ((with_reducible refine ixN_mk 7 ?_ ?_ ?_); (focus rfl); (focus decide))
          | ((with_reducible refine posE_nil (by rfl) ?_))
          | ((with_reducible refine posE_pos (by decide) ?_))
          | with_reducible refine vN_mod (by omega) ?_
          | with_reducible refine vN_mk ?_
          | with_reducible refine nzN_mk (by omega) ?_
          | with_reducible refine eqN_dec (by omega) ?_
          | with_reducible refine draw_rule tabOk mixOk ?_
          | with_reducible refine apN_mk (by kernel_rfl) ?_
          | ((with_reducible apply conN_mk2 ?_ (c1) ?_);(first | (focus exact ⟨rfl, trivial⟩)); skip)
          | ((with_reducible apply call_con2 ?_ (c1) ?_);(first | (focus exact ⟨rfl, trivial⟩)); rintro _ _ _ ⟨rfl, rfl, rfl⟩)
          | ((with_reducible apply conN_mk2 ?_ (wakes_con) ?_);(first | (focus exact trivial)); skip)
          | ((with_reducible apply call_con2 ?_ (wakes_con) ?_);(first | (focus exact trivial)); rintro _ _ _ ⟨rfl, rfl, rfl⟩)
          | ((with_reducible apply conN_mk2 ?_ (right_f _ _ hr hk) ?_);(first | (focus exact ⟨⟨rfl, rfl, trivial⟩, trivial⟩) | (rotate_left 1; (focus exact ⟨⟨rfl, rfl, trivial⟩, trivial⟩)) | (rotate_left 2; (focus exact ⟨⟨rfl, rfl, trivial⟩, trivial⟩))); skip)
          | ((with_reducible apply call_con2 ?_ (right_f _ _ hr hk) ?_);(first | (focus exact ⟨⟨rfl, rfl, trivial⟩, trivial⟩) | (rotate_left 1; (focus exact ⟨⟨rfl, rfl, trivial⟩, trivial⟩)) | (rotate_left 2; (focus exact ⟨⟨rfl, rfl, trivial⟩, trivial⟩))); rintro _ _ _ ⟨rfl, rfl, rfl⟩)
          | ((with_reducible apply conN_mk2 ?_ (copied_con _ _ hr) ?_);(first | (focus exact ⟨⟨rfl, rfl, trivial⟩, trivial⟩) | (rotate_left 1; (focus exact ⟨⟨rfl, rfl, trivial⟩, trivial⟩)) | (rotate_left 2; (focus exact ⟨⟨rfl, rfl, trivial⟩, trivial⟩))); skip)
          | ((with_reducible apply call_con2 ?_ (copied_con _ _ hr) ?_);(first | (focus exact ⟨⟨rfl, rfl, trivial⟩, trivial⟩) | (rotate_left 1; (focus exact ⟨⟨rfl, rfl, trivial⟩, trivial⟩)) | (rotate_left 2; (focus exact ⟨⟨rfl, rfl, trivial⟩, trivial⟩))); rintro _ _ _ ⟨rfl, rfl, rfl⟩)
          | ((with_reducible apply conN_mk2 ?_ (check_f _ _ hr hk) ?_);(first | (focus exact ⟨⟨rfl, (by first | exact low_osl fun _ => rfl | exact low_oslr fun _ => rfl), trivial⟩, trivial⟩) | (rotate_left 1; (focus exact ⟨⟨rfl, (by first | exact low_osl fun _ => rfl | exact low_oslr fun _ => rfl), trivial⟩, trivial⟩)) | (rotate_left 2; (focus exact ⟨⟨rfl, (by first | exact low_osl fun _ => rfl | exact low_oslr fun _ => rfl), trivial⟩, trivial⟩))); skip)
          | ((with_reducible apply call_con2 ?_ (check_f _ _ hr hk) ?_);(first | (focus exact ⟨⟨rfl, (by first | exact low_osl fun _ => rfl | exact low_oslr fun _ => rfl), trivial⟩, trivial⟩) | (rotate_left 1; (focus exact ⟨⟨rfl, (by first | exact low_osl fun _ => rfl | exact low_oslr fun _ => rfl), trivial⟩, trivial⟩)) | (rotate_left 2; (focus exact ⟨⟨rfl, (by first | exact low_osl fun _ => rfl | exact low_oslr fun _ => rfl), trivial⟩, trivial⟩))); rintro _ _ _ ⟨rfl, rfl, rfl⟩)
          | ((with_reducible apply conN_mk2 ?_ (same_con _ _ _ _ hr) ?_);(first | (focus exact ⟨⟨rfl, rfl, trivial⟩, ⟨rfl, rfl, trivial⟩, trivial⟩) | (rotate_left 1; (focus exact ⟨⟨rfl, rfl, trivial⟩, ⟨rfl, rfl, trivial⟩, trivial⟩)) | (rotate_left 2; (focus exact ⟨⟨rfl, rfl, trivial⟩, ⟨rfl, rfl, trivial⟩, trivial⟩)) | (rotate_left 3; (focus exact ⟨⟨rfl, rfl, trivial⟩, ⟨rfl, rfl, trivial⟩, trivial⟩)) | (rotate_left 4; (focus exact ⟨⟨rfl, rfl, trivial⟩, ⟨rfl, rfl, trivial⟩, trivial⟩))); skip)
          | ((with_reducible apply call_con2 ?_ (same_con _ _ _ _ hr) ?_);(first | (focus exact ⟨⟨rfl, rfl, trivial⟩, ⟨rfl, rfl, trivial⟩, trivial⟩) | (rotate_left 1; (focus exact ⟨⟨rfl, rfl, trivial⟩, ⟨rfl, rfl, trivial⟩, trivial⟩)) | (rotate_left 2; (focus exact ⟨⟨rfl, rfl, trivial⟩, ⟨rfl, rfl, trivial⟩, trivial⟩)) | (rotate_left 3; (focus exact ⟨⟨rfl, rfl, trivial⟩, ⟨rfl, rfl, trivial⟩, trivial⟩)) | (rotate_left 4; (focus exact ⟨⟨rfl, rfl, trivial⟩, ⟨rfl, rfl, trivial⟩, trivial⟩))); rintro _ _ _ ⟨rfl, rfl, rfl⟩)
          | ((with_reducible apply conN_mk2 ?_ (rsame_con _ _ _ _ hr) ?_);(first | (focus exact ⟨⟨rfl, rfl, trivial⟩, ⟨rfl, rfl, trivial⟩, trivial⟩) | (rotate_left 1; (focus exact ⟨⟨rfl, rfl, trivial⟩, ⟨rfl, rfl, trivial⟩, trivial⟩)) | (rotate_left 2; (focus exact ⟨⟨rfl, rfl, trivial⟩, ⟨rfl, rfl, trivial⟩, trivial⟩)) | (rotate_left 3; (focus exact ⟨⟨rfl, rfl, trivial⟩, ⟨rfl, rfl, trivial⟩, trivial⟩)) | (rotate_left 4; (focus exact ⟨⟨rfl, rfl, trivial⟩, ⟨rfl, rfl, trivial⟩, trivial⟩))); skip)
          | ((with_reducible apply call_con2 ?_ (rsame_con _ _ _ _ hr) ?_);(first | (focus exact ⟨⟨rfl, rfl, trivial⟩, ⟨rfl, rfl, trivial⟩, trivial⟩) | (rotate_left 1; (focus exact ⟨⟨rfl, rfl, trivial⟩, ⟨rfl, rfl, trivial⟩, trivial⟩)) | (rotate_left 2; (focus exact ⟨⟨rfl, rfl, trivial⟩, ⟨rfl, rfl, trivial⟩, trivial⟩)) | (rotate_left 3; (focus exact ⟨⟨rfl, rfl, trivial⟩, ⟨rfl, rfl, trivial⟩, trivial⟩)) | (rotate_left 4; (focus exact ⟨⟨rfl, rfl, trivial⟩, ⟨rfl, rfl, trivial⟩, trivial⟩))); rintro _ _ _ ⟨rfl, rfl, rfl⟩)
          | ((with_reducible apply conN_mk2 ?_ (same_con _ _ _ _ hr) ?_);(first | (focus exact ⟨⟨rfl, rfl, trivial⟩, ⟨rfl, (by first | exact low_osl fun _ => rfl | exact low_oslr fun _ => rfl), trivial⟩, trivial⟩) | (rotate_left 1; (focus exact ⟨⟨rfl, rfl, trivial⟩, ⟨rfl, (by first | exact low_osl fun _ => rfl | exact low_oslr fun _ => rfl), trivial⟩, trivial⟩)) | (rotate_left 2; (focus exact ⟨⟨rfl, rfl, trivial⟩, ⟨rfl, (by first | exact low_osl fun _ => rfl | exact low_oslr fun _ => rfl), trivial⟩, trivial⟩)) | (rotate_left 3; (focus exact ⟨⟨rfl, rfl, trivial⟩, ⟨rfl, (by first | exact low_osl fun _ => rfl | exact low_oslr fun _ => rfl), trivial⟩, trivial⟩)) | (rotate_left 4; (focus exact ⟨⟨rfl, rfl, trivial⟩, ⟨rfl, (by first | exact low_osl fun _ => rfl | exact low_oslr fun _ => rfl), trivial⟩, trivial⟩))); skip)
          | ((with_reducible apply call_con2 ?_ (same_con _ _ _ _ hr) ?_);(first | (focus exact ⟨⟨rfl, rfl, trivial⟩, ⟨rfl, (by first | exact low_osl fun _ => rfl | exact low_oslr fun _ => rfl), trivial⟩, trivial⟩) | (rotate_left 1; (focus exact ⟨⟨rfl, rfl, trivial⟩, ⟨rfl, (by first | exact low_osl fun _ => rfl | exact low_oslr fun _ => rfl), trivial⟩, trivial⟩)) | (rotate_left 2; (focus exact ⟨⟨rfl, rfl, trivial⟩, ⟨rfl, (by first | exact low_osl fun _ => rfl | exact low_oslr fun _ => rfl), trivial⟩, trivial⟩)) | (rotate_left 3; (focus exact ⟨⟨rfl, rfl, trivial⟩, ⟨rfl, (by first | exact low_osl fun _ => rfl | exact low_oslr fun _ => rfl), trivial⟩, trivial⟩)) | (rotate_left 4; (focus exact ⟨⟨rfl, rfl, trivial⟩, ⟨rfl, (by first | exact low_osl fun _ => rfl | exact low_oslr fun _ => rfl), trivial⟩, trivial⟩))); rintro _ _ _ ⟨rfl, rfl, rfl⟩)
          | ((with_reducible apply conN_mk2 ?_ (new_con _) ?_);(first | (focus exact ⟨rfl, trivial⟩) | (rotate_left 1; (focus exact ⟨rfl, trivial⟩))); skip)
          | ((with_reducible apply call_con2 ?_ (new_con _) ?_);(first | (focus exact ⟨rfl, trivial⟩) | (rotate_left 1; (focus exact ⟨rfl, trivial⟩))); rintro _ _ _ ⟨rfl, rfl, rfl⟩)
          | ((with_reducible apply conN_mk2 ?_ (rsame_con _ _ [] [] (Nat.zero_le _)) ?_);(first | (focus exact ⟨⟨rfl, .inr ⟨3, rfl⟩, trivial⟩, ⟨rfl, .inr ⟨3, rfl⟩, trivial⟩, trivial⟩) | (rotate_left 1; (focus exact ⟨⟨rfl, .inr ⟨3, rfl⟩, trivial⟩, ⟨rfl, .inr ⟨3, rfl⟩, trivial⟩, trivial⟩)) | (rotate_left 2; (focus exact ⟨⟨rfl, .inr ⟨3, rfl⟩, trivial⟩, ⟨rfl, .inr ⟨3, rfl⟩, trivial⟩, trivial⟩)) | (rotate_left 3; (focus exact ⟨⟨rfl, .inr ⟨3, rfl⟩, trivial⟩, ⟨rfl, .inr ⟨3, rfl⟩, trivial⟩, trivial⟩))); skip)
          | ((with_reducible apply call_con2 ?_ (rsame_con _ _ [] [] (Nat.zero_le _)) ?_);(first | (focus exact ⟨⟨rfl, .inr ⟨3, rfl⟩, trivial⟩, ⟨rfl, .inr ⟨3, rfl⟩, trivial⟩, trivial⟩) | (rotate_left 1; (focus exact ⟨⟨rfl, .inr ⟨3, rfl⟩, trivial⟩, ⟨rfl, .inr ⟨3, rfl⟩, trivial⟩, trivial⟩)) | (rotate_left 2; (focus exact ⟨⟨rfl, .inr ⟨3, rfl⟩, trivial⟩, ⟨rfl, .inr ⟨3, rfl⟩, trivial⟩, trivial⟩)) | (rotate_left 3; (focus exact ⟨⟨rfl, .inr ⟨3, rfl⟩, trivial⟩, ⟨rfl, .inr ⟨3, rfl⟩, trivial⟩, trivial⟩))); rintro _ _ _ ⟨rfl, rfl, rfl⟩)
          | ((with_reducible apply conN_mk2 ?_ (latest_f _ _ hr hk) ?_);(first | (focus exact ⟨⟨rfl, (by first | exact low_osl fun _ => rfl | exact low_oslr fun _ => rfl), trivial⟩, trivial⟩) | (rotate_left 1; (focus exact ⟨⟨rfl, (by first | exact low_osl fun _ => rfl | exact low_oslr fun _ => rfl), trivial⟩, trivial⟩)) | (rotate_left 2; (focus exact ⟨⟨rfl, (by first | exact low_osl fun _ => rfl | exact low_oslr fun _ => rfl), trivial⟩, trivial⟩))); skip)
          | ((with_reducible apply call_con2 ?_ (latest_f _ _ hr hk) ?_);(first | (focus exact ⟨⟨rfl, (by first | exact low_osl fun _ => rfl | exact low_oslr fun _ => rfl), trivial⟩, trivial⟩) | (rotate_left 1; (focus exact ⟨⟨rfl, (by first | exact low_osl fun _ => rfl | exact low_oslr fun _ => rfl), trivial⟩, trivial⟩)) | (rotate_left 2; (focus exact ⟨⟨rfl, (by first | exact low_osl fun _ => rfl | exact low_oslr fun _ => rfl), trivial⟩, trivial⟩))); rintro _ _ _ ⟨rfl, rfl, rfl⟩)
          | ((with_reducible apply conN_mk2 ?_ (next_f _ _ hr hk) ?_);(first | (focus exact ⟨⟨rfl, (by first | exact low_osl fun _ => rfl | exact low_oslr fun _ => rfl), trivial⟩, trivial⟩) | (rotate_left 1; (focus exact ⟨⟨rfl, (by first | exact low_osl fun _ => rfl | exact low_oslr fun _ => rfl), trivial⟩, trivial⟩)) | (rotate_left 2; (focus exact ⟨⟨rfl, (by first | exact low_osl fun _ => rfl | exact low_oslr fun _ => rfl), trivial⟩, trivial⟩))); skip)
          | ((with_reducible apply call_con2 ?_ (next_f _ _ hr hk) ?_);(first | (focus exact ⟨⟨rfl, (by first | exact low_osl fun _ => rfl | exact low_oslr fun _ => rfl), trivial⟩, trivial⟩) | (rotate_left 1; (focus exact ⟨⟨rfl, (by first | exact low_osl fun _ => rfl | exact low_oslr fun _ => rfl), trivial⟩, trivial⟩)) | (rotate_left 2; (focus exact ⟨⟨rfl, (by first | exact low_osl fun _ => rfl | exact low_oslr fun _ => rfl), trivial⟩, trivial⟩))); rintro _ _ _ ⟨rfl, rfl, rfl⟩)
          | ((with_reducible apply conN_mk2 ?_ (saves_f _ _ hr hk) ?_);(first | (focus exact ⟨⟨rfl, (by first | exact low_osl fun _ => rfl | exact low_oslr fun _ => rfl), trivial⟩, trivial⟩) | (rotate_left 1; (focus exact ⟨⟨rfl, (by first | exact low_osl fun _ => rfl | exact low_oslr fun _ => rfl), trivial⟩, trivial⟩)) | (rotate_left 2; (focus exact ⟨⟨rfl, (by first | exact low_osl fun _ => rfl | exact low_oslr fun _ => rfl), trivial⟩, trivial⟩))); skip)
          | ((with_reducible apply call_con2 ?_ (saves_f _ _ hr hk) ?_);(first | (focus exact ⟨⟨rfl, (by first | exact low_osl fun _ => rfl | exact low_oslr fun _ => rfl), trivial⟩, trivial⟩) | (rotate_left 1; (focus exact ⟨⟨rfl, (by first | exact low_osl fun _ => rfl | exact low_oslr fun _ => rfl), trivial⟩, trivial⟩)) | (rotate_left 2; (focus exact ⟨⟨rfl, (by first | exact low_osl fun _ => rfl | exact low_oslr fun _ => rfl), trivial⟩, trivial⟩))); rintro _ _ _ ⟨rfl, rfl, rfl⟩))
        all_goals (try (conv => whnf))
        all_goals try (refine ret0 _ rfl _ rfl (fun _ => rfl) rfl ⟨?_, rfl, rfl⟩; rfl)
    · rcases (by omega : (1 ≤ kp ∧ kp ≤ 4) ∨ (1 ≤ kp ∧ ¬ kp ≤ 4) ∨ ¬ 1 ≤ kp) with hj | hj | hj
      · have c1 := new_con kp
        simp only [if_pos (show (1 ≤ kp ∧ kp ≤ 4) by omega)] at c1
        refine con_of tabOk 194 Try.f5 _ Try.func5 (by kernel_rfl) rfl rfl rfl rfl (fun W => ?_)
        repeat' ((conv => whnf); first
          | with_reducible refine spB_t ?_
          | ((with_reducible apply spB_cong); (focus (simp only [beq_self_eq_true, bne_self_eq_false, Bool.true_bne, Bool.false_bne, Bool.bne_true, Bool.bne_false, Bool.true_beq, Bool.false_beq, Bool.not_true, Bool.not_false, Bool.not_not, Int.reduceBEq, Int.reduceBNe, Int.reduceLE, Int.reduceLT, Int.reduceEq, decide_true, decide_false, eq_self, and_self, List.length_nil, List.length_map, if_true, if_false]; rfl)))
          | with_reducible refine spB_yes (by decide) ?_
          | with_reducible refine spB_no (by decide) ?_
          | with_reducible refine spB_f ?_
          | with_reducible refine spB_not ?_
          | with_reducible refine spB_yes (by assumption) ?_
          | with_reducible refine spB_no (by assumption) ?_
          | (with_reducible refine spB_dec ?_ ?_ <;> intro _ <;> (try (exfalso; first | contradiction | omega | (rename_i hz; with_reducible exact absurd rfl hz))))
          | (with_reducible refine spB_beq ?_ ?_ <;> intro _ <;> (try (exfalso; first | contradiction | omega | (rename_i hz; with_reducible exact absurd rfl hz))))
          | (with_reducible refine spB_bne ?_ ?_ <;> intro _ <;> (try (exfalso; first | contradiction | omega | (rename_i hz; with_reducible exact absurd rfl hz))))
          | (with_reducible refine spB_mk ?_ ?_ <;> intro _ <;> (try (exfalso; first | contradiction | omega | (rename_i hz; with_reducible exact absurd rfl hz))))
          | ((with_reducible apply rowN_mk); (focus rfl))
          | ((with_reducible refine ixN_mk 0 ?_ ?_ ?_); (focus rfl); (focus (exact Nat.le_of_ble_eq_true rfl)))
          | ((with_reducible refine ixN_mk 1 ?_ ?_ ?_); (focus rfl); (focus (exact Nat.le_of_ble_eq_true rfl)))
          | ((with_reducible refine ixN_mk 2 ?_ ?_ ?_); (focus rfl); (focus (exact Nat.le_of_ble_eq_true rfl)))
          | ((with_reducible refine ixN_mk 3 ?_ ?_ ?_); (focus rfl); (focus (exact Nat.le_of_ble_eq_true rfl)))
          | ((with_reducible refine ixN_mk 4 ?_ ?_ ?_); (focus rfl); (focus (exact Nat.le_of_ble_eq_true rfl)))
          | ((with_reducible refine ixN_mk 5 ?_ ?_ ?_); (focus rfl); (focus (exact Nat.le_of_ble_eq_true rfl)))
          | ((with_reducible refine ixN_mk 6 ?_ ?_ ?_); (focus rfl); (focus (exact Nat.le_of_ble_eq_true rfl)))
          | ((with_reducible refine ixN_mk 7 ?_ ?_ ?_); (focus rfl); (focus (exact Nat.le_of_ble_eq_true rfl)))
          | ((with_reducible refine eqN_mk2 ?_ ?_); (focus rfl))
          | ((with_reducible refine posN_mk2 ?_ ?_); (focus (first | decide | ((try simp only [List.length_replicate, List.length_map, List.length_append, List.length_nil, List.length_cons, maxLen] at *); omega))))
          | ((with_reducible refine apdN.mk ?_ ?_ ?_ ?_ ?_ ?_); (focus (first | rfl | (simp; done))); (focus (first | exact one_all (by rfl) | exact one_map (fun _ => rfl) | exact one_map2 (fun _ => rfl))); (focus ((try simp only [List.length_replicate, List.length_map, List.length_append, List.length_nil, List.length_cons, maxLen] at *); omega)); (focus ((try simp only [List.length_replicate, List.length_map, List.length_append, List.length_nil, List.length_cons, maxLen] at *); omega)); (focus ((try simp only [List.length_replicate, List.length_map, List.length_append, List.length_nil, List.length_cons, maxLen] at *); omega)))
          | ((with_reducible refine cpyN.mk ?_ ?_ ?_ ?_); (focus (first | rfl | (simp; done))); (focus (first | exact one_all (by rfl) | exact one_map (fun _ => rfl) | exact one_map2 (fun _ => rfl))); (focus ((try simp only [List.length_replicate, List.length_map, List.length_append, List.length_nil, List.length_cons, maxLen] at *); omega)))
          | with_reducible refine wr_i64 (by first | omega | (simp only [List.length_map] at *; omega)) ?_
          | with_reducible refine wr_u64 (by omega) ?_
          | with_reducible refine wr_u8 (by omega) ?_
          | with_reducible refine wr_u32 (by omega) ?_
          | with_reducible refine wr_mk _ rfl ?_
          | ((with_reducible refine ixN_nat ?_ ?_); (focus ((try simp only [List.length_map] at *); omega)))
          | ((with_reducible refine rowN_map ?_ ?_); (focus ((try simp only [List.length_map] at *); omega)); intro x hx)
          | ((with_reducible refine ixN_mk 0 ?_ ?_ ?_); (focus rfl); (focus decide))
          | ((with_reducible refine ixN_mk 1 ?_ ?_ ?_); (focus rfl); (focus decide))
          | ((with_reducible refine ixN_mk 2 ?_ ?_ ?_); (focus rfl); (focus decide))
          | ((with_reducible refine ixN_mk 3 ?_ ?_ ?_); (focus rfl); (focus decide))
          | ((with_reducible refine ixN_mk 4 ?_ ?_ ?_); (focus rfl); (focus decide))
          | ((with_reducible refine ixN_mk 5 ?_ ?_ ?_); (focus rfl); (focus decide))
          | ((with_reducible refine ixN_mk 6 ?_ ?_ ?_); (focus rfl); (focus decide))
          | ((with_reducible refine ixN_mk 7 ?_ ?_ ?_); (focus rfl); (focus decide))
          | ((with_reducible refine posE_nil (by rfl) ?_))
          | ((with_reducible refine posE_pos (by decide) ?_))
          | with_reducible refine vN_mod (by omega) ?_
          | with_reducible refine vN_mk ?_
          | with_reducible refine nzN_mk (by omega) ?_
          | with_reducible refine eqN_dec (by omega) ?_
          | with_reducible refine draw_rule tabOk mixOk ?_
          | with_reducible refine apN_mk (by kernel_rfl) ?_
          | ((with_reducible apply conN_mk2 ?_ (c1) ?_);(first | (focus exact ⟨rfl, trivial⟩)); skip)
          | ((with_reducible apply call_con2 ?_ (c1) ?_);(first | (focus exact ⟨rfl, trivial⟩)); rintro _ _ _ ⟨rfl, rfl, rfl⟩)
          | ((with_reducible apply conN_mk2 ?_ (wakes_con) ?_);(first | (focus exact trivial)); skip)
          | ((with_reducible apply call_con2 ?_ (wakes_con) ?_);(first | (focus exact trivial)); rintro _ _ _ ⟨rfl, rfl, rfl⟩)
          | ((with_reducible apply conN_mk2 ?_ (right_t _ _ hr hk) ?_);(first | (focus exact ⟨⟨rfl, rfl, trivial⟩, trivial⟩) | (rotate_left 1; (focus exact ⟨⟨rfl, rfl, trivial⟩, trivial⟩)) | (rotate_left 2; (focus exact ⟨⟨rfl, rfl, trivial⟩, trivial⟩))); skip)
          | ((with_reducible apply call_con2 ?_ (right_t _ _ hr hk) ?_);(first | (focus exact ⟨⟨rfl, rfl, trivial⟩, trivial⟩) | (rotate_left 1; (focus exact ⟨⟨rfl, rfl, trivial⟩, trivial⟩)) | (rotate_left 2; (focus exact ⟨⟨rfl, rfl, trivial⟩, trivial⟩))); rintro _ _ _ ⟨rfl, rfl, rfl⟩)
          | ((with_reducible apply conN_mk2 ?_ (copied_con _ _ hr) ?_);(first | (focus exact ⟨⟨rfl, rfl, trivial⟩, trivial⟩) | (rotate_left 1; (focus exact ⟨⟨rfl, rfl, trivial⟩, trivial⟩)) | (rotate_left 2; (focus exact ⟨⟨rfl, rfl, trivial⟩, trivial⟩))); skip)
          | ((with_reducible apply call_con2 ?_ (copied_con _ _ hr) ?_);(first | (focus exact ⟨⟨rfl, rfl, trivial⟩, trivial⟩) | (rotate_left 1; (focus exact ⟨⟨rfl, rfl, trivial⟩, trivial⟩)) | (rotate_left 2; (focus exact ⟨⟨rfl, rfl, trivial⟩, trivial⟩))); rintro _ _ _ ⟨rfl, rfl, rfl⟩)
          | ((with_reducible apply conN_mk2 ?_ (check_t _ _ hr hk) ?_);(first | (focus exact ⟨⟨rfl, (by first | exact low_osl fun _ => rfl | exact low_oslr fun _ => rfl), trivial⟩, trivial⟩) | (rotate_left 1; (focus exact ⟨⟨rfl, (by first | exact low_osl fun _ => rfl | exact low_oslr fun _ => rfl), trivial⟩, trivial⟩)) | (rotate_left 2; (focus exact ⟨⟨rfl, (by first | exact low_osl fun _ => rfl | exact low_oslr fun _ => rfl), trivial⟩, trivial⟩))); skip)
          | ((with_reducible apply call_con2 ?_ (check_t _ _ hr hk) ?_);(first | (focus exact ⟨⟨rfl, (by first | exact low_osl fun _ => rfl | exact low_oslr fun _ => rfl), trivial⟩, trivial⟩) | (rotate_left 1; (focus exact ⟨⟨rfl, (by first | exact low_osl fun _ => rfl | exact low_oslr fun _ => rfl), trivial⟩, trivial⟩)) | (rotate_left 2; (focus exact ⟨⟨rfl, (by first | exact low_osl fun _ => rfl | exact low_oslr fun _ => rfl), trivial⟩, trivial⟩))); rintro _ _ _ ⟨rfl, rfl, rfl⟩)
          | ((with_reducible apply conN_mk2 ?_ (same_con _ _ _ _ hr) ?_);(first | (focus exact ⟨⟨rfl, rfl, trivial⟩, ⟨rfl, rfl, trivial⟩, trivial⟩) | (rotate_left 1; (focus exact ⟨⟨rfl, rfl, trivial⟩, ⟨rfl, rfl, trivial⟩, trivial⟩)) | (rotate_left 2; (focus exact ⟨⟨rfl, rfl, trivial⟩, ⟨rfl, rfl, trivial⟩, trivial⟩)) | (rotate_left 3; (focus exact ⟨⟨rfl, rfl, trivial⟩, ⟨rfl, rfl, trivial⟩, trivial⟩)) | (rotate_left 4; (focus exact ⟨⟨rfl, rfl, trivial⟩, ⟨rfl, rfl, trivial⟩, trivial⟩))); skip)
          | ((with_reducible apply call_con2 ?_ (same_con _ _ _ _ hr) ?_);(first | (focus exact ⟨⟨rfl, rfl, trivial⟩, ⟨rfl, rfl, trivial⟩, trivial⟩) | (rotate_left 1; (focus exact ⟨⟨rfl, rfl, trivial⟩, ⟨rfl, rfl, trivial⟩, trivial⟩)) | (rotate_left 2; (focus exact ⟨⟨rfl, rfl, trivial⟩, ⟨rfl, rfl, trivial⟩, trivial⟩)) | (rotate_left 3; (focus exact ⟨⟨rfl, rfl, trivial⟩, ⟨rfl, rfl, trivial⟩, trivial⟩)) | (rotate_left 4; (focus exact ⟨⟨rfl, rfl, trivial⟩, ⟨rfl, rfl, trivial⟩, trivial⟩))); rintro _ _ _ ⟨rfl, rfl, rfl⟩)
          | ((with_reducible apply conN_mk2 ?_ (rsame_con _ _ _ _ hr) ?_);(first | (focus exact ⟨⟨rfl, rfl, trivial⟩, ⟨rfl, rfl, trivial⟩, trivial⟩) | (rotate_left 1; (focus exact ⟨⟨rfl, rfl, trivial⟩, ⟨rfl, rfl, trivial⟩, trivial⟩)) | (rotate_left 2; (focus exact ⟨⟨rfl, rfl, trivial⟩, ⟨rfl, rfl, trivial⟩, trivial⟩)) | (rotate_left 3; (focus exact ⟨⟨rfl, rfl, trivial⟩, ⟨rfl, rfl, trivial⟩, trivial⟩)) | (rotate_left 4; (focus exact ⟨⟨rfl, rfl, trivial⟩, ⟨rfl, rfl, trivial⟩, trivial⟩))); skip)
          | ((with_reducible apply call_con2 ?_ (rsame_con _ _ _ _ hr) ?_);(first | (focus exact ⟨⟨rfl, rfl, trivial⟩, ⟨rfl, rfl, trivial⟩, trivial⟩) | (rotate_left 1; (focus exact ⟨⟨rfl, rfl, trivial⟩, ⟨rfl, rfl, trivial⟩, trivial⟩)) | (rotate_left 2; (focus exact ⟨⟨rfl, rfl, trivial⟩, ⟨rfl, rfl, trivial⟩, trivial⟩)) | (rotate_left 3; (focus exact ⟨⟨rfl, rfl, trivial⟩, ⟨rfl, rfl, trivial⟩, trivial⟩)) | (rotate_left 4; (focus exact ⟨⟨rfl, rfl, trivial⟩, ⟨rfl, rfl, trivial⟩, trivial⟩))); rintro _ _ _ ⟨rfl, rfl, rfl⟩)
          | ((with_reducible apply conN_mk2 ?_ (same_con _ _ _ _ hr) ?_);(first | (focus exact ⟨⟨rfl, rfl, trivial⟩, ⟨rfl, (by first | exact low_osl fun _ => rfl | exact low_oslr fun _ => rfl), trivial⟩, trivial⟩) | (rotate_left 1; (focus exact ⟨⟨rfl, rfl, trivial⟩, ⟨rfl, (by first | exact low_osl fun _ => rfl | exact low_oslr fun _ => rfl), trivial⟩, trivial⟩)) | (rotate_left 2; (focus exact ⟨⟨rfl, rfl, trivial⟩, ⟨rfl, (by first | exact low_osl fun _ => rfl | exact low_oslr fun _ => rfl), trivial⟩, trivial⟩)) | (rotate_left 3; (focus exact ⟨⟨rfl, rfl, trivial⟩, ⟨rfl, (by first | exact low_osl fun _ => rfl | exact low_oslr fun _ => rfl), trivial⟩, trivial⟩)) | (rotate_left 4; (focus exact ⟨⟨rfl, rfl, trivial⟩, ⟨rfl, (by first | exact low_osl fun _ => rfl | exact low_oslr fun _ => rfl), trivial⟩, trivial⟩))); skip)
          | ((with_reducible apply call_con2 ?_ (same_con _ _ _ _ hr) ?_);(first | (focus exact ⟨⟨rfl, rfl, trivial⟩, ⟨rfl, (by first | exact low_osl fun _ => rfl | exact low_oslr fun _ => rfl), trivial⟩, trivial⟩) | (rotate_left 1; (focus exact ⟨⟨rfl, rfl, trivial⟩, ⟨rfl, (by first | exact low_osl fun _ => rfl | exact low_oslr fun _ => rfl), trivial⟩, trivial⟩)) | (rotate_left 2; (focus exact ⟨⟨rfl, rfl, trivial⟩, ⟨rfl, (by first | exact low_osl fun _ => rfl | exact low_oslr fun _ => rfl), trivial⟩, trivial⟩)) | (rotate_left 3; (focus exact ⟨⟨rfl, rfl, trivial⟩, ⟨rfl, (by first | exact low_osl fun _ => rfl | exact low_oslr fun _ => rfl), trivial⟩, trivial⟩)) | (rotate_left 4; (focus exact ⟨⟨rfl, rfl, trivial⟩, ⟨rfl, (by first | exact low_osl fun _ => rfl | exact low_oslr fun _ => rfl), trivial⟩, trivial⟩))); rintro _ _ _ ⟨rfl, rfl, rfl⟩)
          | ((with_reducible apply conN_mk2 ?_ (new_con _) ?_);(first | (focus exact ⟨rfl, trivial⟩) | (rotate_left 1; (focus exact ⟨rfl, trivial⟩))); skip)
          | ((with_reducible apply call_con2 ?_ (new_con _) ?_);(first | (focus exact ⟨rfl, trivial⟩) | (rotate_left 1; (focus exact ⟨rfl, trivial⟩))); rintro _ _ _ ⟨rfl, rfl, rfl⟩)
          | ((with_reducible apply conN_mk2 ?_ (rsame_con _ _ [] [] (Nat.zero_le _)) ?_);(first | (focus exact ⟨⟨rfl, .inr ⟨3, rfl⟩, trivial⟩, ⟨rfl, .inr ⟨3, rfl⟩, trivial⟩, trivial⟩) | (rotate_left 1; (focus exact ⟨⟨rfl, .inr ⟨3, rfl⟩, trivial⟩, ⟨rfl, .inr ⟨3, rfl⟩, trivial⟩, trivial⟩)) | (rotate_left 2; (focus exact ⟨⟨rfl, .inr ⟨3, rfl⟩, trivial⟩, ⟨rfl, .inr ⟨3, rfl⟩, trivial⟩, trivial⟩)) | (rotate_left 3; (focus exact ⟨⟨rfl, .inr ⟨3, rfl⟩, trivial⟩, ⟨rfl, .inr ⟨3, rfl⟩, trivial⟩, trivial⟩))); skip)
          | ((with_reducible apply call_con2 ?_ (rsame_con _ _ [] [] (Nat.zero_le _)) ?_);(first | (focus exact ⟨⟨rfl, .inr ⟨3, rfl⟩, trivial⟩, ⟨rfl, .inr ⟨3, rfl⟩, trivial⟩, trivial⟩) | (rotate_left 1; (focus exact ⟨⟨rfl, .inr ⟨3, rfl⟩, trivial⟩, ⟨rfl, .inr ⟨3, rfl⟩, trivial⟩, trivial⟩)) | (rotate_left 2; (focus exact ⟨⟨rfl, .inr ⟨3, rfl⟩, trivial⟩, ⟨rfl, .inr ⟨3, rfl⟩, trivial⟩, trivial⟩)) | (rotate_left 3; (focus exact ⟨⟨rfl, .inr ⟨3, rfl⟩, trivial⟩, ⟨rfl, .inr ⟨3, rfl⟩, trivial⟩, trivial⟩))); rintro _ _ _ ⟨rfl, rfl, rfl⟩)
          | ((with_reducible apply conN_mk2 ?_ (latest_t _ _ hr hk) ?_);(first | (focus exact ⟨⟨rfl, (by first | exact low_osl fun _ => rfl | exact low_oslr fun _ => rfl), trivial⟩, trivial⟩) | (rotate_left 1; (focus exact ⟨⟨rfl, (by first | exact low_osl fun _ => rfl | exact low_oslr fun _ => rfl), trivial⟩, trivial⟩)) | (rotate_left 2; (focus exact ⟨⟨rfl, (by first | exact low_osl fun _ => rfl | exact low_oslr fun _ => rfl), trivial⟩, trivial⟩))); skip)
          | ((with_reducible apply call_con2 ?_ (latest_t _ _ hr hk) ?_);(first | (focus exact ⟨⟨rfl, (by first | exact low_osl fun _ => rfl | exact low_oslr fun _ => rfl), trivial⟩, trivial⟩) | (rotate_left 1; (focus exact ⟨⟨rfl, (by first | exact low_osl fun _ => rfl | exact low_oslr fun _ => rfl), trivial⟩, trivial⟩)) | (rotate_left 2; (focus exact ⟨⟨rfl, (by first | exact low_osl fun _ => rfl | exact low_oslr fun _ => rfl), trivial⟩, trivial⟩))); rintro _ _ _ ⟨rfl, rfl, rfl⟩)
          | ((with_reducible apply conN_mk2 ?_ (next_t _ _ hr hk) ?_);(first | (focus exact ⟨⟨rfl, (by first | exact low_osl fun _ => rfl | exact low_oslr fun _ => rfl), trivial⟩, trivial⟩) | (rotate_left 1; (focus exact ⟨⟨rfl, (by first | exact low_osl fun _ => rfl | exact low_oslr fun _ => rfl), trivial⟩, trivial⟩)) | (rotate_left 2; (focus exact ⟨⟨rfl, (by first | exact low_osl fun _ => rfl | exact low_oslr fun _ => rfl), trivial⟩, trivial⟩))); skip)
          | ((with_reducible apply call_con2 ?_ (next_t _ _ hr hk) ?_);(first | (focus exact ⟨⟨rfl, (by first | exact low_osl fun _ => rfl | exact low_oslr fun _ => rfl), trivial⟩, trivial⟩) | (rotate_left 1; (focus exact ⟨⟨rfl, (by first | exact low_osl fun _ => rfl | exact low_oslr fun _ => rfl), trivial⟩, trivial⟩)) | (rotate_left 2; (focus exact ⟨⟨rfl, (by first | exact low_osl fun _ => rfl | exact low_oslr fun _ => rfl), trivial⟩, trivial⟩))); rintro _ _ _ ⟨rfl, rfl, rfl⟩)
          | ((with_reducible apply conN_mk2 ?_ (saves_t _ _ hr hk) ?_);(first | (focus exact ⟨⟨rfl, (by first | exact low_osl fun _ => rfl | exact low_oslr fun _ => rfl), trivial⟩, trivial⟩) | (rotate_left 1; (focus exact ⟨⟨rfl, (by first | exact low_osl fun _ => rfl | exact low_oslr fun _ => rfl), trivial⟩, trivial⟩)) | (rotate_left 2; (focus exact ⟨⟨rfl, (by first | exact low_osl fun _ => rfl | exact low_oslr fun _ => rfl), trivial⟩, trivial⟩))); skip)
          | ((with_reducible apply call_con2 ?_ (saves_t _ _ hr hk) ?_);(first | (focus exact ⟨⟨rfl, (by first | exact low_osl fun _ => rfl | exact low_oslr fun _ => rfl), trivial⟩, trivial⟩) | (rotate_left 1; (focus exact ⟨⟨rfl, (by first | exact low_osl fun _ => rfl | exact low_oslr fun _ => rfl), trivial⟩, trivial⟩)) | (rotate_left 2; (focus exact ⟨⟨rfl, (by first | exact low_osl fun _ => rfl | exact low_oslr fun _ => rfl), trivial⟩, trivial⟩))); rintro _ _ _ ⟨rfl, rfl, rfl⟩))
        all_goals (try (conv => whnf))
        all_goals try (refine ret0 _ rfl _ rfl (fun _ => rfl) rfl ⟨?_, rfl, rfl⟩; rfl)

        refine loop_rule tabOk (fun q : Nat × List Int => ⟨[(146, .val (.int .i64 (q.1 : Int))), (145, .val (.int .i64 ((rs.map eK).length : Nat))), (144, .c (.ro false 3 (rs.map eK))), (19, .val (.int .u64 (nextN (rs.take q.1)))), (18, .c (.gsl 3 (q.2.map cU))), (17, .c (.own 2 0 0)), (16, .c (.ro true 1 ((saves rs).map eU))), (15, .val (.bool (rs.find? (fun r => r.op)).isSome)), (14, .val (.int .u64 (nextN rs))), (13, .val (.bool (decide (0 < rs.length)))), (12, .c (.own 1 0 0)), (3, .c (.own 0 0 0))], [(0, some ⟨[[.v (.int .i64 keep), .ro false 3 (rs.map eK)]], 2, 24, true⟩), (1, some ⟨[[.v (.int .u64 (lastK rs).num), .v (.bool (lastK rs).sv), .v (.bool (lastK rs).op)]], 3, 44, true⟩), (2, some ⟨[[.v (.int .u64 (lastK (rs.take q.1)).num), .v (.bool (lastK (rs.take q.1)).sv), .v (.bool (lastK (rs.take q.1)).op)]], 3, 44, true⟩), (3, gB 1 25 (q.2.map cU))], 4⟩) (fun q => q.1 ≤ rs.length ∧ q.2 = saves (rs.take q.1)) (fun q => rs.length - q.1) (0, []) ⟨Nat.zero_le _, rfl⟩ (Stp.trans (Stp.nilg 18 10 rfl (Nat.zero_le _)) (Wk.stp (l := [0, 6, 9, 10]) ⟨rfl, by decide, rfl, Nat.zero_le _, ⟨rfl, rfl, rfl, rfl, rfl, rfl, rfl, rfl, rfl, rfl, rfl, rfl, trivial⟩, ⟨fun b hb => (by cases hb; rfl), fun b hb => (by cases hb; rfl), fun b hb => (by cases hb; rfl), fun b hb => (by cases hb), trivial⟩⟩)) ?_
        rintro ⟨i, acc⟩ ⟨hi, hacc⟩
        dsimp only at hi hacc ⊢
        have hal : acc.length ≤ 100 := by rw [hacc]; exact Nat.le_trans (saves_len _) (by rw [List.length_take]; omega)
        have hsl : (saves rs).length ≤ 100 := Nat.le_trans (saves_len _) hr
        have hms := okK_mem (by decide) (okS_K hk)
        repeat' ((conv => whnf); first
          | with_reducible refine spB_t ?_
          | ((with_reducible apply spB_cong); (focus (simp only [beq_self_eq_true, bne_self_eq_false, Bool.true_bne, Bool.false_bne, Bool.bne_true, Bool.bne_false, Bool.true_beq, Bool.false_beq, Bool.not_true, Bool.not_false, Bool.not_not, Int.reduceBEq, Int.reduceBNe, Int.reduceLE, Int.reduceLT, Int.reduceEq, decide_true, decide_false, eq_self, and_self, List.length_nil, List.length_map, hin, if_true, if_false]; rfl)))
          | with_reducible refine spB_yes (by decide) ?_
          | with_reducible refine spB_no (by decide) ?_
          | with_reducible refine spB_f ?_
          | with_reducible refine spB_not ?_
          | with_reducible refine spB_yes (by assumption) ?_
          | with_reducible refine spB_no (by assumption) ?_
          | (with_reducible refine spB_dec ?_ ?_ <;> intro _ <;> (try (exfalso; first | contradiction | omega | (rename_i hz; with_reducible exact absurd rfl hz))))
          | (with_reducible refine spB_beq ?_ ?_ <;> intro _ <;> (try (exfalso; first | contradiction | omega | (rename_i hz; with_reducible exact absurd rfl hz))))
          | (with_reducible refine spB_bne ?_ ?_ <;> intro _ <;> (try (exfalso; first | contradiction | omega | (rename_i hz; with_reducible exact absurd rfl hz))))
          | (with_reducible refine spB_mk ?_ ?_ <;> intro _ <;> (try (exfalso; first | contradiction | omega | (rename_i hz; with_reducible exact absurd rfl hz))))
          | ((with_reducible apply rowN_mk); (focus rfl))
          | ((with_reducible refine ixN_mk 0 ?_ ?_ ?_); (focus rfl); (focus (exact Nat.le_of_ble_eq_true rfl)))
          | ((with_reducible refine ixN_mk 1 ?_ ?_ ?_); (focus rfl); (focus (exact Nat.le_of_ble_eq_true rfl)))
          | ((with_reducible refine ixN_mk 2 ?_ ?_ ?_); (focus rfl); (focus (exact Nat.le_of_ble_eq_true rfl)))
          | ((with_reducible refine ixN_mk 3 ?_ ?_ ?_); (focus rfl); (focus (exact Nat.le_of_ble_eq_true rfl)))
          | ((with_reducible refine ixN_mk 4 ?_ ?_ ?_); (focus rfl); (focus (exact Nat.le_of_ble_eq_true rfl)))
          | ((with_reducible refine ixN_mk 5 ?_ ?_ ?_); (focus rfl); (focus (exact Nat.le_of_ble_eq_true rfl)))
          | ((with_reducible refine ixN_mk 6 ?_ ?_ ?_); (focus rfl); (focus (exact Nat.le_of_ble_eq_true rfl)))
          | ((with_reducible refine ixN_mk 7 ?_ ?_ ?_); (focus rfl); (focus (exact Nat.le_of_ble_eq_true rfl)))
          | ((with_reducible refine eqN_mk2 ?_ ?_); (focus rfl))
          | ((with_reducible refine posN_mk2 ?_ ?_); (focus (first | decide | ((try simp only [List.length_replicate, List.length_map, List.length_append, List.length_nil, List.length_cons, maxLen] at *); omega))))
          | ((with_reducible refine apdN.mk ?_ ?_ ?_ ?_ ?_ ?_); (focus (first | rfl | (simp; done))); (focus (first | exact one_all (by rfl) | exact one_map (fun _ => rfl) | exact one_map2 (fun _ => rfl))); (focus ((try simp only [List.length_replicate, List.length_map, List.length_append, List.length_nil, List.length_cons, maxLen] at *); omega)); (focus ((try simp only [List.length_replicate, List.length_map, List.length_append, List.length_nil, List.length_cons, maxLen] at *); omega)); (focus ((try simp only [List.length_replicate, List.length_map, List.length_append, List.length_nil, List.length_cons, maxLen] at *); omega)))
          | ((with_reducible refine cpyN.mk ?_ ?_ ?_ ?_); (focus (first | rfl | (simp; done))); (focus (first | exact one_all (by rfl) | exact one_map (fun _ => rfl) | exact one_map2 (fun _ => rfl))); (focus ((try simp only [List.length_replicate, List.length_map, List.length_append, List.length_nil, List.length_cons, maxLen] at *); omega)))
          | with_reducible refine wr_i64 (by first | omega | (simp only [List.length_map] at *; omega)) ?_
          | with_reducible refine wr_u64 (by omega) ?_
          | with_reducible refine wr_u8 (by omega) ?_
          | with_reducible refine wr_u32 (by omega) ?_
          | with_reducible refine wr_mk _ rfl ?_
          | ((with_reducible refine ixN_nat ?_ ?_); (focus ((try simp only [List.length_map] at *); omega)))
          | ((with_reducible refine rowN_map ?_ ?_); (focus ((try simp only [List.length_map] at *); omega)); intro x hx)
          | ((with_reducible refine ixN_mk 0 ?_ ?_ ?_); (focus rfl); (focus decide))
          | ((with_reducible refine ixN_mk 1 ?_ ?_ ?_); (focus rfl); (focus decide))
          | ((with_reducible refine ixN_mk 2 ?_ ?_ ?_); (focus rfl); (focus decide))
          | ((with_reducible refine ixN_mk 3 ?_ ?_ ?_); (focus rfl); (focus decide))
          | ((with_reducible refine ixN_mk 4 ?_ ?_ ?_); (focus rfl); (focus decide))
          | ((with_reducible refine ixN_mk 5 ?_ ?_ ?_); (focus rfl); (focus decide))
          | ((with_reducible refine ixN_mk 6 ?_ ?_ ?_); (focus rfl); (focus decide))
          | ((with_reducible refine ixN_mk 7 ?_ ?_ ?_); (focus rfl); (focus decide))
          | ((with_reducible refine posE_nil (by rfl) ?_))
          | ((with_reducible refine posE_pos (by decide) ?_))
          | with_reducible refine vN_mod (by omega) ?_
          | with_reducible refine vN_mk ?_
          | with_reducible refine nzN_mk (by omega) ?_
          | with_reducible refine eqN_dec (by omega) ?_
          | with_reducible refine draw_rule tabOk mixOk ?_
          | with_reducible refine apN_mk (by kernel_rfl) ?_
          | ((with_reducible apply conN_mk2 ?_ (equ_con _ _ ?_) ?_);(first | (focus exact ⟨rfl, ⟨1, 25, _, rfl, rfl, by simp only [List.map_map]; rfl⟩, trivial⟩) | (rotate_left 1; (focus exact ⟨rfl, ⟨1, 25, _, rfl, rfl, by simp only [List.map_map]; rfl⟩, trivial⟩)) | (rotate_left 2; (focus exact ⟨rfl, ⟨1, 25, _, rfl, rfl, by simp only [List.map_map]; rfl⟩, trivial⟩))); (focus omega); skip)
          | ((with_reducible apply call_con2 ?_ (equ_con _ _ ?_) ?_);(first | (focus exact ⟨rfl, ⟨1, 25, _, rfl, rfl, by simp only [List.map_map]; rfl⟩, trivial⟩) | (rotate_left 1; (focus exact ⟨rfl, ⟨1, 25, _, rfl, rfl, by simp only [List.map_map]; rfl⟩, trivial⟩)) | (rotate_left 2; (focus exact ⟨rfl, ⟨1, 25, _, rfl, rfl, by simp only [List.map_map]; rfl⟩, trivial⟩))); (focus omega); rintro _ _ _ ⟨rfl, rfl, rfl⟩))
        all_goals (try (conv => whnf))
        all_goals first
          | (refine ⟨⟨(i + 1, acc ++ [x.num]), ⟨by (try simp only [List.length_map] at *); omega, ?_⟩, by (try simp only [List.length_map] at *); omega, (Wk.stp (l := [0, 1, 2, 6]) ⟨rfl, by decide, rfl, Nat.zero_le _, ⟨rfl, rfl, rfl, (by dsimp only; rw [next_new hx hms (by assumption) (by assumption)]; rfl), (by rw [List.map_append]; rfl), rfl, rfl, rfl, rfl, rfl, rfl, rfl, trivial⟩, ⟨fun b hb => (by cases hb; rfl), fun b hb => (by cases hb; rfl), (by dsimp only; rw [last_snoc hx]; exact fun b hb => (by cases hb; rfl)), gB_sub' rfl (by rw [List.map_append]; rfl) (ren_map fun _ => rfl), trivial⟩⟩)⟩⟩; dsimp only; rw [hacc, saves_yes hx (by assumption)]; done)
          | (refine ⟨⟨(i + 1, acc ++ [x.num]), ⟨by (try simp only [List.length_map] at *); omega, ?_⟩, by (try simp only [List.length_map] at *); omega, (Wk.stp (l := [0, 1, 2, 6]) ⟨rfl, by decide, rfl, Nat.zero_le _, ⟨rfl, rfl, rfl, (by dsimp only; rw [next_old hx (by first | exact .inl (by assumption) | exact .inr (by assumption))]; rfl), (by rw [List.map_append]; rfl), rfl, rfl, rfl, rfl, rfl, rfl, rfl, trivial⟩, ⟨fun b hb => (by cases hb; rfl), fun b hb => (by cases hb; rfl), (by dsimp only; rw [last_snoc hx]; exact fun b hb => (by cases hb; rfl)), gB_sub' rfl (by rw [List.map_append]; rfl) (ren_map fun _ => rfl), trivial⟩⟩)⟩⟩; dsimp only; rw [hacc, saves_yes hx (by assumption)]; done)
          | (refine ⟨⟨(i + 1, acc), ⟨by (try simp only [List.length_map] at *); omega, ?_⟩, by (try simp only [List.length_map] at *); omega, (Wk.stp (l := [0, 1, 2, 3]) ⟨rfl, by decide, rfl, Nat.zero_le _, ⟨rfl, rfl, rfl, (by dsimp only; rw [next_new hx hms (by assumption) (by assumption)]; rfl), rfl, rfl, rfl, rfl, rfl, rfl, rfl, rfl, trivial⟩, ⟨fun b hb => (by cases hb; rfl), fun b hb => (by cases hb; rfl), (by dsimp only; rw [last_snoc hx]; exact fun b hb => (by cases hb; rfl)), gB_sub rfl rfl (ren_map fun _ => rfl), trivial⟩⟩)⟩⟩; dsimp only; rw [hacc, saves_no hx (by assumption)]; done)
          | (refine ⟨⟨(i + 1, acc), ⟨by (try simp only [List.length_map] at *); omega, ?_⟩, by (try simp only [List.length_map] at *); omega, (Wk.stp (l := [0, 1, 2, 3]) ⟨rfl, by decide, rfl, Nat.zero_le _, ⟨rfl, rfl, rfl, (by dsimp only; rw [next_old hx (by first | exact .inl (by assumption) | exact .inr (by assumption))]; rfl), rfl, rfl, rfl, rfl, rfl, rfl, rfl, rfl, trivial⟩, ⟨fun b hb => (by cases hb; rfl), fun b hb => (by cases hb; rfl), (by dsimp only; rw [last_snoc hx]; exact fun b hb => (by cases hb; rfl)), gB_sub rfl rfl (ren_map fun _ => rfl), trivial⟩⟩)⟩⟩; dsimp only; rw [hacc, saves_no hx (by assumption)]; done)
          | (refine ret0 _ rfl _ rfl (fun _ => rfl) rfl ⟨?_, rfl, rfl⟩; have e : i = rs.length := (by (try simp only [List.length_map] at *); omega); subst e; rw [List.take_length] at *; first | (refine rv_bool ?_; simp [hacc]; done) | (exfalso; simp [open_eq hms] at *; done))
          | (trace_state; sorry)
      · have c1 := new_con kp
        simp only [if_neg (show ¬ (1 ≤ kp ∧ kp ≤ 4) by omega)] at c1
        refine con_of tabOk 194 Try.f5 _ Try.func5 (by kernel_rfl) rfl rfl rfl rfl (fun W => ?_)
        repeat' ((conv => whnf); first
          | with_reducible refine spB_t ?_
          | ((with_reducible apply spB_cong); (focus (simp only [beq_self_eq_true, bne_self_eq_false, Bool.true_bne, Bool.false_bne, Bool.bne_true, Bool.bne_false, Bool.true_beq, Bool.false_beq, Bool.not_true, Bool.not_false, Bool.not_not, Int.reduceBEq, Int.reduceBNe, Int.reduceLE, Int.reduceLT, Int.reduceEq, decide_true, decide_false, eq_self, and_self, List.length_nil, List.length_map, if_true, if_false]; rfl)))
          | with_reducible refine spB_yes (by decide) ?_
          | with_reducible refine spB_no (by decide) ?_
          | with_reducible refine spB_f ?_
          | with_reducible refine spB_not ?_
          | with_reducible refine spB_yes (by assumption) ?_
          | with_reducible refine spB_no (by assumption) ?_
          | (with_reducible refine spB_dec ?_ ?_ <;> intro _ <;> (try (exfalso; first | contradiction | omega | (rename_i hz; with_reducible exact absurd rfl hz))))
          | (with_reducible refine spB_beq ?_ ?_ <;> intro _ <;> (try (exfalso; first | contradiction | omega | (rename_i hz; with_reducible exact absurd rfl hz))))
          | (with_reducible refine spB_bne ?_ ?_ <;> intro _ <;> (try (exfalso; first | contradiction | omega | (rename_i hz; with_reducible exact absurd rfl hz))))
          | (with_reducible refine spB_mk ?_ ?_ <;> intro _ <;> (try (exfalso; first | contradiction | omega | (rename_i hz; with_reducible exact absurd rfl hz))))
          | ((with_reducible apply rowN_mk); (focus rfl))
          | ((with_reducible refine ixN_mk 0 ?_ ?_ ?_); (focus rfl); (focus (exact Nat.le_of_ble_eq_true rfl)))
          | ((with_reducible refine ixN_mk 1 ?_ ?_ ?_); (focus rfl); (focus (exact Nat.le_of_ble_eq_true rfl)))
          | ((with_reducible refine ixN_mk 2 ?_ ?_ ?_); (focus rfl); (focus (exact Nat.le_of_ble_eq_true rfl)))
          | ((with_reducible refine ixN_mk 3 ?_ ?_ ?_); (focus rfl); (focus (exact Nat.le_of_ble_eq_true rfl)))
          | ((with_reducible refine ixN_mk 4 ?_ ?_ ?_); (focus rfl); (focus (exact Nat.le_of_ble_eq_true rfl)))
          | ((with_reducible refine ixN_mk 5 ?_ ?_ ?_); (focus rfl); (focus (exact Nat.le_of_ble_eq_true rfl)))
          | ((with_reducible refine ixN_mk 6 ?_ ?_ ?_); (focus rfl); (focus (exact Nat.le_of_ble_eq_true rfl)))
          | ((with_reducible refine ixN_mk 7 ?_ ?_ ?_); (focus rfl); (focus (exact Nat.le_of_ble_eq_true rfl)))
          | ((with_reducible refine eqN_mk2 ?_ ?_); (focus rfl))
          | ((with_reducible refine posN_mk2 ?_ ?_); (focus (first | decide | ((try simp only [List.length_replicate, List.length_map, List.length_append, List.length_nil, List.length_cons, maxLen] at *); omega))))
          | ((with_reducible refine apdN.mk ?_ ?_ ?_ ?_ ?_ ?_); (focus (first | rfl | (simp; done))); (focus (first | exact one_all (by rfl) | exact one_map (fun _ => rfl) | exact one_map2 (fun _ => rfl))); (focus ((try simp only [List.length_replicate, List.length_map, List.length_append, List.length_nil, List.length_cons, maxLen] at *); omega)); (focus ((try simp only [List.length_replicate, List.length_map, List.length_append, List.length_nil, List.length_cons, maxLen] at *); omega)); (focus ((try simp only [List.length_replicate, List.length_map, List.length_append, List.length_nil, List.length_cons, maxLen] at *); omega)))
          | ((with_reducible refine cpyN.mk ?_ ?_ ?_ ?_); (focus (first | rfl | (simp; done))); (focus (first | exact one_all (by rfl) | exact one_map (fun _ => rfl) | exact one_map2 (fun _ => rfl))); (focus ((try simp only [List.length_replicate, List.length_map, List.length_append, List.length_nil, List.length_cons, maxLen] at *); omega)))
          | with_reducible refine wr_i64 (by first | omega | (simp only [List.length_map] at *; omega)) ?_
          | with_reducible refine wr_u64 (by omega) ?_
          | with_reducible refine wr_u8 (by omega) ?_
          | with_reducible refine wr_u32 (by omega) ?_
          | with_reducible refine wr_mk _ rfl ?_
          | ((with_reducible refine ixN_nat ?_ ?_); (focus ((try simp only [List.length_map] at *); omega)))
          | ((with_reducible refine rowN_map ?_ ?_); (focus ((try simp only [List.length_map] at *); omega)); intro x hx)
          | ((with_reducible refine ixN_mk 0 ?_ ?_ ?_); (focus rfl); (focus decide))
          | ((with_reducible refine ixN_mk 1 ?_ ?_ ?_); (focus rfl); (focus decide))
          | ((with_reducible refine ixN_mk 2 ?_ ?_ ?_); (focus rfl); (focus decide))
          | ((with_reducible refine ixN_mk 3 ?_ ?_ ?_); (focus rfl); (focus decide))
          | ((with_reducible refine ixN_mk 4 ?_ ?_ ?_); (focus rfl); (focus decide))
          | ((with_reducible refine ixN_mk 5 ?_ ?_ ?_); (focus rfl); (focus decide))
          | ((with_reducible refine ixN_mk 6 ?_ ?_ ?_); (focus rfl); (focus decide))
          | ((with_reducible refine ixN_mk 7 ?_ ?_ ?_); (focus rfl); (focus decide))
          | ((with_reducible refine posE_nil (by rfl) ?_))
          | ((with_reducible refine posE_pos (by decide) ?_))
          | with_reducible refine vN_mod (by omega) ?_
          | with_reducible refine vN_mk ?_
          | with_reducible refine nzN_mk (by omega) ?_
          | with_reducible refine eqN_dec (by omega) ?_
          | with_reducible refine draw_rule tabOk mixOk ?_
          | with_reducible refine apN_mk (by kernel_rfl) ?_
          | ((with_reducible apply conN_mk2 ?_ (c1) ?_);(first | (focus exact ⟨rfl, trivial⟩)); skip)
          | ((with_reducible apply call_con2 ?_ (c1) ?_);(first | (focus exact ⟨rfl, trivial⟩)); rintro _ _ _ ⟨rfl, rfl, rfl⟩)
          | ((with_reducible apply conN_mk2 ?_ (wakes_con) ?_);(first | (focus exact trivial)); skip)
          | ((with_reducible apply call_con2 ?_ (wakes_con) ?_);(first | (focus exact trivial)); rintro _ _ _ ⟨rfl, rfl, rfl⟩)
          | ((with_reducible apply conN_mk2 ?_ (right_t _ _ hr hk) ?_);(first | (focus exact ⟨⟨rfl, rfl, trivial⟩, trivial⟩) | (rotate_left 1; (focus exact ⟨⟨rfl, rfl, trivial⟩, trivial⟩)) | (rotate_left 2; (focus exact ⟨⟨rfl, rfl, trivial⟩, trivial⟩))); skip)
          | ((with_reducible apply call_con2 ?_ (right_t _ _ hr hk) ?_);(first | (focus exact ⟨⟨rfl, rfl, trivial⟩, trivial⟩) | (rotate_left 1; (focus exact ⟨⟨rfl, rfl, trivial⟩, trivial⟩)) | (rotate_left 2; (focus exact ⟨⟨rfl, rfl, trivial⟩, trivial⟩))); rintro _ _ _ ⟨rfl, rfl, rfl⟩)
          | ((with_reducible apply conN_mk2 ?_ (copied_con _ _ hr) ?_);(first | (focus exact ⟨⟨rfl, rfl, trivial⟩, trivial⟩) | (rotate_left 1; (focus exact ⟨⟨rfl, rfl, trivial⟩, trivial⟩)) | (rotate_left 2; (focus exact ⟨⟨rfl, rfl, trivial⟩, trivial⟩))); skip)
          | ((with_reducible apply call_con2 ?_ (copied_con _ _ hr) ?_);(first | (focus exact ⟨⟨rfl, rfl, trivial⟩, trivial⟩) | (rotate_left 1; (focus exact ⟨⟨rfl, rfl, trivial⟩, trivial⟩)) | (rotate_left 2; (focus exact ⟨⟨rfl, rfl, trivial⟩, trivial⟩))); rintro _ _ _ ⟨rfl, rfl, rfl⟩)
          | ((with_reducible apply conN_mk2 ?_ (check_t _ _ hr hk) ?_);(first | (focus exact ⟨⟨rfl, (by first | exact low_osl fun _ => rfl | exact low_oslr fun _ => rfl), trivial⟩, trivial⟩) | (rotate_left 1; (focus exact ⟨⟨rfl, (by first | exact low_osl fun _ => rfl | exact low_oslr fun _ => rfl), trivial⟩, trivial⟩)) | (rotate_left 2; (focus exact ⟨⟨rfl, (by first | exact low_osl fun _ => rfl | exact low_oslr fun _ => rfl), trivial⟩, trivial⟩))); skip)
          | ((with_reducible apply call_con2 ?_ (check_t _ _ hr hk) ?_);(first | (focus exact ⟨⟨rfl, (by first | exact low_osl fun _ => rfl | exact low_oslr fun _ => rfl), trivial⟩, trivial⟩) | (rotate_left 1; (focus exact ⟨⟨rfl, (by first | exact low_osl fun _ => rfl | exact low_oslr fun _ => rfl), trivial⟩, trivial⟩)) | (rotate_left 2; (focus exact ⟨⟨rfl, (by first | exact low_osl fun _ => rfl | exact low_oslr fun _ => rfl), trivial⟩, trivial⟩))); rintro _ _ _ ⟨rfl, rfl, rfl⟩)
          | ((with_reducible apply conN_mk2 ?_ (same_con _ _ _ _ hr) ?_);(first | (focus exact ⟨⟨rfl, rfl, trivial⟩, ⟨rfl, rfl, trivial⟩, trivial⟩) | (rotate_left 1; (focus exact ⟨⟨rfl, rfl, trivial⟩, ⟨rfl, rfl, trivial⟩, trivial⟩)) | (rotate_left 2; (focus exact ⟨⟨rfl, rfl, trivial⟩, ⟨rfl, rfl, trivial⟩, trivial⟩)) | (rotate_left 3; (focus exact ⟨⟨rfl, rfl, trivial⟩, ⟨rfl, rfl, trivial⟩, trivial⟩)) | (rotate_left 4; (focus exact ⟨⟨rfl, rfl, trivial⟩, ⟨rfl, rfl, trivial⟩, trivial⟩))); skip)
          | ((with_reducible apply call_con2 ?_ (same_con _ _ _ _ hr) ?_);(first | (focus exact ⟨⟨rfl, rfl, trivial⟩, ⟨rfl, rfl, trivial⟩, trivial⟩) | (rotate_left 1; (focus exact ⟨⟨rfl, rfl, trivial⟩, ⟨rfl, rfl, trivial⟩, trivial⟩)) | (rotate_left 2; (focus exact ⟨⟨rfl, rfl, trivial⟩, ⟨rfl, rfl, trivial⟩, trivial⟩)) | (rotate_left 3; (focus exact ⟨⟨rfl, rfl, trivial⟩, ⟨rfl, rfl, trivial⟩, trivial⟩)) | (rotate_left 4; (focus exact ⟨⟨rfl, rfl, trivial⟩, ⟨rfl, rfl, trivial⟩, trivial⟩))); rintro _ _ _ ⟨rfl, rfl, rfl⟩)
          | ((with_reducible apply conN_mk2 ?_ (rsame_con _ _ _ _ hr) ?_);(first | (focus exact ⟨⟨rfl, rfl, trivial⟩, ⟨rfl, rfl, trivial⟩, trivial⟩) | (rotate_left 1; (focus exact ⟨⟨rfl, rfl, trivial⟩, ⟨rfl, rfl, trivial⟩, trivial⟩)) | (rotate_left 2; (focus exact ⟨⟨rfl, rfl, trivial⟩, ⟨rfl, rfl, trivial⟩, trivial⟩)) | (rotate_left 3; (focus exact ⟨⟨rfl, rfl, trivial⟩, ⟨rfl, rfl, trivial⟩, trivial⟩)) | (rotate_left 4; (focus exact ⟨⟨rfl, rfl, trivial⟩, ⟨rfl, rfl, trivial⟩, trivial⟩))); skip)
          | ((with_reducible apply call_con2 ?_ (rsame_con _ _ _ _ hr) ?_);(first | (focus exact ⟨⟨rfl, rfl, trivial⟩, ⟨rfl, rfl, trivial⟩, trivial⟩) | (rotate_left 1; (focus exact ⟨⟨rfl, rfl, trivial⟩, ⟨rfl, rfl, trivial⟩, trivial⟩)) | (rotate_left 2; (focus exact ⟨⟨rfl, rfl, trivial⟩, ⟨rfl, rfl, trivial⟩, trivial⟩)) | (rotate_left 3; (focus exact ⟨⟨rfl, rfl, trivial⟩, ⟨rfl, rfl, trivial⟩, trivial⟩)) | (rotate_left 4; (focus exact ⟨⟨rfl, rfl, trivial⟩, ⟨rfl, rfl, trivial⟩, trivial⟩))); rintro _ _ _ ⟨rfl, rfl, rfl⟩)
          | ((with_reducible apply conN_mk2 ?_ (same_con _ _ _ _ hr) ?_);(first | (focus exact ⟨⟨rfl, rfl, trivial⟩, ⟨rfl, (by first | exact low_osl fun _ => rfl | exact low_oslr fun _ => rfl), trivial⟩, trivial⟩) | (rotate_left 1; (focus exact ⟨⟨rfl, rfl, trivial⟩, ⟨rfl, (by first | exact low_osl fun _ => rfl | exact low_oslr fun _ => rfl), trivial⟩, trivial⟩)) | (rotate_left 2; (focus exact ⟨⟨rfl, rfl, trivial⟩, ⟨rfl, (by first | exact low_osl fun _ => rfl | exact low_oslr fun _ => rfl), trivial⟩, trivial⟩)) | (rotate_left 3; (focus exact ⟨⟨rfl, rfl, trivial⟩, ⟨rfl, (by first | exact low_osl fun _ => rfl | exact low_oslr fun _ => rfl), trivial⟩, trivial⟩)) | (rotate_left 4; (focus exact ⟨⟨rfl, rfl, trivial⟩, ⟨rfl, (by first | exact low_osl fun _ => rfl | exact low_oslr fun _ => rfl), trivial⟩, trivial⟩))); skip)
          | ((with_reducible apply call_con2 ?_ (same_con _ _ _ _ hr) ?_);(first | (focus exact ⟨⟨rfl, rfl, trivial⟩, ⟨rfl, (by first | exact low_osl fun _ => rfl | exact low_oslr fun _ => rfl), trivial⟩, trivial⟩) | (rotate_left 1; (focus exact ⟨⟨rfl, rfl, trivial⟩, ⟨rfl, (by first | exact low_osl fun _ => rfl | exact low_oslr fun _ => rfl), trivial⟩, trivial⟩)) | (rotate_left 2; (focus exact ⟨⟨rfl, rfl, trivial⟩, ⟨rfl, (by first | exact low_osl fun _ => rfl | exact low_oslr fun _ => rfl), trivial⟩, trivial⟩)) | (rotate_left 3; (focus exact ⟨⟨rfl, rfl, trivial⟩, ⟨rfl, (by first | exact low_osl fun _ => rfl | exact low_oslr fun _ => rfl), trivial⟩, trivial⟩)) | (rotate_left 4; (focus exact ⟨⟨rfl, rfl, trivial⟩, ⟨rfl, (by first | exact low_osl fun _ => rfl | exact low_oslr fun _ => rfl), trivial⟩, trivial⟩))); rintro _ _ _ ⟨rfl, rfl, rfl⟩)
          | ((with_reducible apply conN_mk2 ?_ (new_con _) ?_);(first | (focus exact ⟨rfl, trivial⟩) | (rotate_left 1; (focus exact ⟨rfl, trivial⟩))); skip)
          | ((with_reducible apply call_con2 ?_ (new_con _) ?_);(first | (focus exact ⟨rfl, trivial⟩) | (rotate_left 1; (focus exact ⟨rfl, trivial⟩))); rintro _ _ _ ⟨rfl, rfl, rfl⟩)
          | ((with_reducible apply conN_mk2 ?_ (rsame_con _ _ [] [] (Nat.zero_le _)) ?_);(first | (focus exact ⟨⟨rfl, .inr ⟨3, rfl⟩, trivial⟩, ⟨rfl, .inr ⟨3, rfl⟩, trivial⟩, trivial⟩) | (rotate_left 1; (focus exact ⟨⟨rfl, .inr ⟨3, rfl⟩, trivial⟩, ⟨rfl, .inr ⟨3, rfl⟩, trivial⟩, trivial⟩)) | (rotate_left 2; (focus exact ⟨⟨rfl, .inr ⟨3, rfl⟩, trivial⟩, ⟨rfl, .inr ⟨3, rfl⟩, trivial⟩, trivial⟩)) | (rotate_left 3; (focus exact ⟨⟨rfl, .inr ⟨3, rfl⟩, trivial⟩, ⟨rfl, .inr ⟨3, rfl⟩, trivial⟩, trivial⟩))); skip)
          | ((with_reducible apply call_con2 ?_ (rsame_con _ _ [] [] (Nat.zero_le _)) ?_);(first | (focus exact ⟨⟨rfl, .inr ⟨3, rfl⟩, trivial⟩, ⟨rfl, .inr ⟨3, rfl⟩, trivial⟩, trivial⟩) | (rotate_left 1; (focus exact ⟨⟨rfl, .inr ⟨3, rfl⟩, trivial⟩, ⟨rfl, .inr ⟨3, rfl⟩, trivial⟩, trivial⟩)) | (rotate_left 2; (focus exact ⟨⟨rfl, .inr ⟨3, rfl⟩, trivial⟩, ⟨rfl, .inr ⟨3, rfl⟩, trivial⟩, trivial⟩)) | (rotate_left 3; (focus exact ⟨⟨rfl, .inr ⟨3, rfl⟩, trivial⟩, ⟨rfl, .inr ⟨3, rfl⟩, trivial⟩, trivial⟩))); rintro _ _ _ ⟨rfl, rfl, rfl⟩)
          | ((with_reducible apply conN_mk2 ?_ (latest_t _ _ hr hk) ?_);(first | (focus exact ⟨⟨rfl, (by first | exact low_osl fun _ => rfl | exact low_oslr fun _ => rfl), trivial⟩, trivial⟩) | (rotate_left 1; (focus exact ⟨⟨rfl, (by first | exact low_osl fun _ => rfl | exact low_oslr fun _ => rfl), trivial⟩, trivial⟩)) | (rotate_left 2; (focus exact ⟨⟨rfl, (by first | exact low_osl fun _ => rfl | exact low_oslr fun _ => rfl), trivial⟩, trivial⟩))); skip)
          | ((with_reducible apply call_con2 ?_ (latest_t _ _ hr hk) ?_);(first | (focus exact ⟨⟨rfl, (by first | exact low_osl fun _ => rfl | exact low_oslr fun _ => rfl), trivial⟩, trivial⟩) | (rotate_left 1; (focus exact ⟨⟨rfl, (by first | exact low_osl fun _ => rfl | exact low_oslr fun _ => rfl), trivial⟩, trivial⟩)) | (rotate_left 2; (focus exact ⟨⟨rfl, (by first | exact low_osl fun _ => rfl | exact low_oslr fun _ => rfl), trivial⟩, trivial⟩))); rintro _ _ _ ⟨rfl, rfl, rfl⟩)
          | ((with_reducible apply conN_mk2 ?_ (next_t _ _ hr hk) ?_);(first | (focus exact ⟨⟨rfl, (by first | exact low_osl fun _ => rfl | exact low_oslr fun _ => rfl), trivial⟩, trivial⟩) | (rotate_left 1; (focus exact ⟨⟨rfl, (by first | exact low_osl fun _ => rfl | exact low_oslr fun _ => rfl), trivial⟩, trivial⟩)) | (rotate_left 2; (focus exact ⟨⟨rfl, (by first | exact low_osl fun _ => rfl | exact low_oslr fun _ => rfl), trivial⟩, trivial⟩))); skip)
          | ((with_reducible apply call_con2 ?_ (next_t _ _ hr hk) ?_);(first | (focus exact ⟨⟨rfl, (by first | exact low_osl fun _ => rfl | exact low_oslr fun _ => rfl), trivial⟩, trivial⟩) | (rotate_left 1; (focus exact ⟨⟨rfl, (by first | exact low_osl fun _ => rfl | exact low_oslr fun _ => rfl), trivial⟩, trivial⟩)) | (rotate_left 2; (focus exact ⟨⟨rfl, (by first | exact low_osl fun _ => rfl | exact low_oslr fun _ => rfl), trivial⟩, trivial⟩))); rintro _ _ _ ⟨rfl, rfl, rfl⟩)
          | ((with_reducible apply conN_mk2 ?_ (saves_t _ _ hr hk) ?_);(first | (focus exact ⟨⟨rfl, (by first | exact low_osl fun _ => rfl | exact low_oslr fun _ => rfl), trivial⟩, trivial⟩) | (rotate_left 1; (focus exact ⟨⟨rfl, (by first | exact low_osl fun _ => rfl | exact low_oslr fun _ => rfl), trivial⟩, trivial⟩)) | (rotate_left 2; (focus exact ⟨⟨rfl, (by first | exact low_osl fun _ => rfl | exact low_oslr fun _ => rfl), trivial⟩, trivial⟩))); skip)
          | ((with_reducible apply call_con2 ?_ (saves_t _ _ hr hk) ?_);(first | (focus exact ⟨⟨rfl, (by first | exact low_osl fun _ => rfl | exact low_oslr fun _ => rfl), trivial⟩, trivial⟩) | (rotate_left 1; (focus exact ⟨⟨rfl, (by first | exact low_osl fun _ => rfl | exact low_oslr fun _ => rfl), trivial⟩, trivial⟩)) | (rotate_left 2; (focus exact ⟨⟨rfl, (by first | exact low_osl fun _ => rfl | exact low_oslr fun _ => rfl), trivial⟩, trivial⟩))); rintro _ _ _ ⟨rfl, rfl, rfl⟩))
        all_goals (try (conv => whnf))
        all_goals try (refine ret0 _ rfl _ rfl (fun _ => rfl) rfl ⟨?_, rfl, rfl⟩; rfl)

        refine loop_rule tabOk (fun q : Nat × List Int => ⟨[(146, .val (.int .i64 (q.1 : Int))), (145, .val (.int .i64 ((rs.map eK).length : Nat))), (144, .c (.ro false 3 (rs.map eK))), (19, .val (.int .u64 (nextN (rs.take q.1)))), (18, .c (.gsl 3 (q.2.map cU))), (17, .c (.own 2 0 0)), (16, .c (.ro true 1 ((saves rs).map eU))), (15, .val (.bool (rs.find? (fun r => r.op)).isSome)), (14, .val (.int .u64 (nextN rs))), (13, .val (.bool (decide (0 < rs.length)))), (12, .c (.own 1 0 0)), (3, .c (.own 0 0 0))], [(0, some ⟨[[.v (.int .i64 keep), .ro false 3 (rs.map eK)]], 2, 24, true⟩), (1, some ⟨[[.v (.int .u64 (lastK rs).num), .v (.bool (lastK rs).sv), .v (.bool (lastK rs).op)]], 3, 44, true⟩), (2, some ⟨[[.v (.int .u64 (lastK (rs.take q.1)).num), .v (.bool (lastK (rs.take q.1)).sv), .v (.bool (lastK (rs.take q.1)).op)]], 3, 44, true⟩), (3, gB 1 25 (q.2.map cU))], 4⟩) (fun q => q.1 ≤ rs.length ∧ q.2 = saves (rs.take q.1)) (fun q => rs.length - q.1) (0, []) ⟨Nat.zero_le _, rfl⟩ (Stp.trans (Stp.nilg 18 10 rfl (Nat.zero_le _)) (Wk.stp (l := [0, 6, 9, 10]) ⟨rfl, by decide, rfl, Nat.zero_le _, ⟨rfl, rfl, rfl, rfl, rfl, rfl, rfl, rfl, rfl, rfl, rfl, rfl, trivial⟩, ⟨fun b hb => (by cases hb; rfl), fun b hb => (by cases hb; rfl), fun b hb => (by cases hb; rfl), fun b hb => (by cases hb), trivial⟩⟩)) ?_
        rintro ⟨i, acc⟩ ⟨hi, hacc⟩
        dsimp only at hi hacc ⊢
        have hal : acc.length ≤ 100 := by rw [hacc]; exact Nat.le_trans (saves_len _) (by rw [List.length_take]; omega)
        have hsl : (saves rs).length ≤ 100 := Nat.le_trans (saves_len _) hr
        have hms := okK_mem (by decide) (okS_K hk)
        repeat' ((conv => whnf); first
          | with_reducible refine spB_t ?_
          | ((with_reducible apply spB_cong); (focus (simp only [beq_self_eq_true, bne_self_eq_false, Bool.true_bne, Bool.false_bne, Bool.bne_true, Bool.bne_false, Bool.true_beq, Bool.false_beq, Bool.not_true, Bool.not_false, Bool.not_not, Int.reduceBEq, Int.reduceBNe, Int.reduceLE, Int.reduceLT, Int.reduceEq, decide_true, decide_false, eq_self, and_self, List.length_nil, List.length_map, hin, if_true, if_false]; rfl)))
          | with_reducible refine spB_yes (by decide) ?_
          | with_reducible refine spB_no (by decide) ?_
          | with_reducible refine spB_f ?_
          | with_reducible refine spB_not ?_
          | with_reducible refine spB_yes (by assumption) ?_
          | with_reducible refine spB_no (by assumption) ?_
          | (with_reducible refine spB_dec ?_ ?_ <;> intro _ <;> (try (exfalso; first | contradiction | omega | (rename_i hz; with_reducible exact absurd rfl hz))))
          | (with_reducible refine spB_beq ?_ ?_ <;> intro _ <;> (try (exfalso; first | contradiction | omega | (rename_i hz; with_reducible exact absurd rfl hz))))
          | (with_reducible refine spB_bne ?_ ?_ <;> intro _ <;> (try (exfalso; first | contradiction | omega | (rename_i hz; with_reducible exact absurd rfl hz))))
          | (with_reducible refine spB_mk ?_ ?_ <;> intro _ <;> (try (exfalso; first | contradiction | omega | (rename_i hz; with_reducible exact absurd rfl hz))))
          | ((with_reducible apply rowN_mk); (focus rfl))
          | ((with_reducible refine ixN_mk 0 ?_ ?_ ?_); (focus rfl); (focus (exact Nat.le_of_ble_eq_true rfl)))
          | ((with_reducible refine ixN_mk 1 ?_ ?_ ?_); (focus rfl); (focus (exact Nat.le_of_ble_eq_true rfl)))
          | ((with_reducible refine ixN_mk 2 ?_ ?_ ?_); (focus rfl); (focus (exact Nat.le_of_ble_eq_true rfl)))
          | ((with_reducible refine ixN_mk 3 ?_ ?_ ?_); (focus rfl); (focus (exact Nat.le_of_ble_eq_true rfl)))
          | ((with_reducible refine ixN_mk 4 ?_ ?_ ?_); (focus rfl); (focus (exact Nat.le_of_ble_eq_true rfl)))
          | ((with_reducible refine ixN_mk 5 ?_ ?_ ?_); (focus rfl); (focus (exact Nat.le_of_ble_eq_true rfl)))
          | ((with_reducible refine ixN_mk 6 ?_ ?_ ?_); (focus rfl); (focus (exact Nat.le_of_ble_eq_true rfl)))
          | ((with_reducible refine ixN_mk 7 ?_ ?_ ?_); (focus rfl); (focus (exact Nat.le_of_ble_eq_true rfl)))
          | ((with_reducible refine eqN_mk2 ?_ ?_); (focus rfl))
          | ((with_reducible refine posN_mk2 ?_ ?_); (focus (first | decide | ((try simp only [List.length_replicate, List.length_map, List.length_append, List.length_nil, List.length_cons, maxLen] at *); omega))))
          | ((with_reducible refine apdN.mk ?_ ?_ ?_ ?_ ?_ ?_); (focus (first | rfl | (simp; done))); (focus (first | exact one_all (by rfl) | exact one_map (fun _ => rfl) | exact one_map2 (fun _ => rfl))); (focus ((try simp only [List.length_replicate, List.length_map, List.length_append, List.length_nil, List.length_cons, maxLen] at *); omega)); (focus ((try simp only [List.length_replicate, List.length_map, List.length_append, List.length_nil, List.length_cons, maxLen] at *); omega)); (focus ((try simp only [List.length_replicate, List.length_map, List.length_append, List.length_nil, List.length_cons, maxLen] at *); omega)))
          | ((with_reducible refine cpyN.mk ?_ ?_ ?_ ?_); (focus (first | rfl | (simp; done))); (focus (first | exact one_all (by rfl) | exact one_map (fun _ => rfl) | exact one_map2 (fun _ => rfl))); (focus ((try simp only [List.length_replicate, List.length_map, List.length_append, List.length_nil, List.length_cons, maxLen] at *); omega)))
          | with_reducible refine wr_i64 (by first | omega | (simp only [List.length_map] at *; omega)) ?_
          | with_reducible refine wr_u64 (by omega) ?_
          | with_reducible refine wr_u8 (by omega) ?_
          | with_reducible refine wr_u32 (by omega) ?_
          | with_reducible refine wr_mk _ rfl ?_
          | ((with_reducible refine ixN_nat ?_ ?_); (focus ((try simp only [List.length_map] at *); omega)))
          | ((with_reducible refine rowN_map ?_ ?_); (focus ((try simp only [List.length_map] at *); omega)); intro x hx)
          | ((with_reducible refine ixN_mk 0 ?_ ?_ ?_); (focus rfl); (focus decide))
          | ((with_reducible refine ixN_mk 1 ?_ ?_ ?_); (focus rfl); (focus decide))
          | ((with_reducible refine ixN_mk 2 ?_ ?_ ?_); (focus rfl); (focus decide))
          | ((with_reducible refine ixN_mk 3 ?_ ?_ ?_); (focus rfl); (focus decide))
          | ((with_reducible refine ixN_mk 4 ?_ ?_ ?_); (focus rfl); (focus decide))
          | ((with_reducible refine ixN_mk 5 ?_ ?_ ?_); (focus rfl); (focus decide))
          | ((with_reducible refine ixN_mk 6 ?_ ?_ ?_); (focus rfl); (focus decide))
          | ((with_reducible refine ixN_mk 7 ?_ ?_ ?_); (focus rfl); (focus decide))
          | ((with_reducible refine posE_nil (by rfl) ?_))
          | ((with_reducible refine posE_pos (by decide) ?_))
          | with_reducible refine vN_mod (by omega) ?_
          | with_reducible refine vN_mk ?_
          | with_reducible refine nzN_mk (by omega) ?_
          | with_reducible refine eqN_dec (by omega) ?_
          | with_reducible refine draw_rule tabOk mixOk ?_
          | with_reducible refine apN_mk (by kernel_rfl) ?_
          | ((with_reducible apply conN_mk2 ?_ (equ_con _ _ ?_) ?_);(first | (focus exact ⟨rfl, ⟨1, 25, _, rfl, rfl, by simp only [List.map_map]; rfl⟩, trivial⟩) | (rotate_left 1; (focus exact ⟨rfl, ⟨1, 25, _, rfl, rfl, by simp only [List.map_map]; rfl⟩, trivial⟩)) | (rotate_left 2; (focus exact ⟨rfl, ⟨1, 25, _, rfl, rfl, by simp only [List.map_map]; rfl⟩, trivial⟩))); (focus omega); skip)
          | ((with_reducible apply call_con2 ?_ (equ_con _ _ ?_) ?_);(first | (focus exact ⟨rfl, ⟨1, 25, _, rfl, rfl, by simp only [List.map_map]; rfl⟩, trivial⟩) | (rotate_left 1; (focus exact ⟨rfl, ⟨1, 25, _, rfl, rfl, by simp only [List.map_map]; rfl⟩, trivial⟩)) | (rotate_left 2; (focus exact ⟨rfl, ⟨1, 25, _, rfl, rfl, by simp only [List.map_map]; rfl⟩, trivial⟩))); (focus omega); rintro _ _ _ ⟨rfl, rfl, rfl⟩))
        all_goals (try (conv => whnf))
        all_goals first
          | (refine ⟨⟨(i + 1, acc ++ [x.num]), ⟨by (try simp only [List.length_map] at *); omega, ?_⟩, by (try simp only [List.length_map] at *); omega, (Wk.stp (l := [0, 1, 2, 6]) ⟨rfl, by decide, rfl, Nat.zero_le _, ⟨rfl, rfl, rfl, (by dsimp only; rw [next_new hx hms (by assumption) (by assumption)]; rfl), (by rw [List.map_append]; rfl), rfl, rfl, rfl, rfl, rfl, rfl, rfl, trivial⟩, ⟨fun b hb => (by cases hb; rfl), fun b hb => (by cases hb; rfl), (by dsimp only; rw [last_snoc hx]; exact fun b hb => (by cases hb; rfl)), gB_sub' rfl (by rw [List.map_append]; rfl) (ren_map fun _ => rfl), trivial⟩⟩)⟩⟩; dsimp only; rw [hacc, saves_yes hx (by assumption)]; done)
          | (refine ⟨⟨(i + 1, acc ++ [x.num]), ⟨by (try simp only [List.length_map] at *); omega, ?_⟩, by (try simp only [List.length_map] at *); omega, (Wk.stp (l := [0, 1, 2, 6]) ⟨rfl, by decide, rfl, Nat.zero_le _, ⟨rfl, rfl, rfl, (by dsimp only; rw [next_old hx (by first | exact .inl (by assumption) | exact .inr (by assumption))]; rfl), (by rw [List.map_append]; rfl), rfl, rfl, rfl, rfl, rfl, rfl, rfl, trivial⟩, ⟨fun b hb => (by cases hb; rfl), fun b hb => (by cases hb; rfl), (by dsimp only; rw [last_snoc hx]; exact fun b hb => (by cases hb; rfl)), gB_sub' rfl (by rw [List.map_append]; rfl) (ren_map fun _ => rfl), trivial⟩⟩)⟩⟩; dsimp only; rw [hacc, saves_yes hx (by assumption)]; done)
          | (refine ⟨⟨(i + 1, acc), ⟨by (try simp only [List.length_map] at *); omega, ?_⟩, by (try simp only [List.length_map] at *); omega, (Wk.stp (l := [0, 1, 2, 3]) ⟨rfl, by decide, rfl, Nat.zero_le _, ⟨rfl, rfl, rfl, (by dsimp only; rw [next_new hx hms (by assumption) (by assumption)]; rfl), rfl, rfl, rfl, rfl, rfl, rfl, rfl, rfl, trivial⟩, ⟨fun b hb => (by cases hb; rfl), fun b hb => (by cases hb; rfl), (by dsimp only; rw [last_snoc hx]; exact fun b hb => (by cases hb; rfl)), gB_sub rfl rfl (ren_map fun _ => rfl), trivial⟩⟩)⟩⟩; dsimp only; rw [hacc, saves_no hx (by assumption)]; done)
          | (refine ⟨⟨(i + 1, acc), ⟨by (try simp only [List.length_map] at *); omega, ?_⟩, by (try simp only [List.length_map] at *); omega, (Wk.stp (l := [0, 1, 2, 3]) ⟨rfl, by decide, rfl, Nat.zero_le _, ⟨rfl, rfl, rfl, (by dsimp only; rw [next_old hx (by first | exact .inl (by assumption) | exact .inr (by assumption))]; rfl), rfl, rfl, rfl, rfl, rfl, rfl, rfl, rfl, trivial⟩, ⟨fun b hb => (by cases hb; rfl), fun b hb => (by cases hb; rfl), (by dsimp only; rw [last_snoc hx]; exact fun b hb => (by cases hb; rfl)), gB_sub rfl rfl (ren_map fun _ => rfl), trivial⟩⟩)⟩⟩; dsimp only; rw [hacc, saves_no hx (by assumption)]; done)
          | (refine ret0 _ rfl _ rfl (fun _ => rfl) rfl ⟨?_, rfl, rfl⟩; have e : i = rs.length := (by (try simp only [List.length_map] at *); omega); subst e; rw [List.take_length] at *; first | (refine rv_bool ?_; simp [hacc]; done) | (exfalso; simp [open_eq hms] at *; done))
          | (trace_state; sorry)
      · have c1 := new_con kp
        simp only [if_neg (show ¬ (1 ≤ kp ∧ kp ≤ 4) by omega)] at c1
        refine con_of tabOk 194 Try.f5 _ Try.func5 (by kernel_rfl) rfl rfl rfl rfl (fun W => ?_)
        repeat' ((conv => whnf); first
          | with_reducible refine spB_t ?_
          | ((with_reducible apply spB_cong); (focus (simp only [beq_self_eq_true, bne_self_eq_false, Bool.true_bne, Bool.false_bne, Bool.bne_true, Bool.bne_false, Bool.true_beq, Bool.false_beq, Bool.not_true, Bool.not_false, Bool.not_not, Int.reduceBEq, Int.reduceBNe, Int.reduceLE, Int.reduceLT, Int.reduceEq, decide_true, decide_false, eq_self, and_self, List.length_nil, List.length_map, if_true, if_false]; rfl)))
          | with_reducible refine spB_yes (by decide) ?_
          | with_reducible refine spB_no (by decide) ?_
          | with_reducible refine spB_f ?_
          | with_reducible refine spB_not ?_
          | with_reducible refine spB_yes (by assumption) ?_
          | with_reducible refine spB_no (by assumption) ?_
          | (with_reducible refine spB_dec ?_ ?_ <;> intro _ <;> (try (exfalso; first | contradiction | omega | (rename_i hz; with_reducible exact absurd rfl hz))))
          | (with_reducible refine spB_beq ?_ ?_ <;> intro _ <;> (try (exfalso; first | contradiction | omega | (rename_i hz; with_reducible exact absurd rfl hz))))
          | (with_reducible refine spB_bne ?_ ?_ <;> intro _ <;> (try (exfalso; first | contradiction | omega | (rename_i hz; with_reducible exact absurd rfl hz))))
          | (with_reducible refine spB_mk ?_ ?_ <;> intro _ <;> (try (exfalso; first | contradiction | omega | (rename_i hz; with_reducible exact absurd rfl hz))))
          | ((with_reducible apply rowN_mk); (focus rfl))
          | ((with_reducible refine ixN_mk 0 ?_ ?_ ?_); (focus rfl); (focus (exact Nat.le_of_ble_eq_true rfl)))
          | ((with_reducible refine ixN_mk 1 ?_ ?_ ?_); (focus rfl); (focus (exact Nat.le_of_ble_eq_true rfl)))
          | ((with_reducible refine ixN_mk 2 ?_ ?_ ?_); (focus rfl); (focus (exact Nat.le_of_ble_eq_true rfl)))
          | ((with_reducible refine ixN_mk 3 ?_ ?_ ?_); (focus rfl); (focus (exact Nat.le_of_ble_eq_true rfl)))
          | ((with_reducible refine ixN_mk 4 ?_ ?_ ?_); (focus rfl); (focus (exact Nat.le_of_ble_eq_true rfl)))
          | ((with_reducible refine ixN_mk 5 ?_ ?_ ?_); (focus rfl); (focus (exact Nat.le_of_ble_eq_true rfl)))
          | ((with_reducible refine ixN_mk 6 ?_ ?_ ?_); (focus rfl); (focus (exact Nat.le_of_ble_eq_true rfl)))
          | ((with_reducible refine ixN_mk 7 ?_ ?_ ?_); (focus rfl); (focus (exact Nat.le_of_ble_eq_true rfl)))
          | ((with_reducible refine eqN_mk2 ?_ ?_); (focus rfl))
          | ((with_reducible refine posN_mk2 ?_ ?_); (focus (first | decide | ((try simp only [List.length_replicate, List.length_map, List.length_append, List.length_nil, List.length_cons, maxLen] at *); omega))))
          | ((with_reducible refine apdN.mk ?_ ?_ ?_ ?_ ?_ ?_); (focus (first | rfl | (simp; done))); (focus (first | exact one_all (by rfl) | exact one_map (fun _ => rfl) | exact one_map2 (fun _ => rfl))); (focus ((try simp only [List.length_replicate, List.length_map, List.length_append, List.length_nil, List.length_cons, maxLen] at *); omega)); (focus ((try simp only [List.length_replicate, List.length_map, List.length_append, List.length_nil, List.length_cons, maxLen] at *); omega)); (focus ((try simp only [List.length_replicate, List.length_map, List.length_append, List.length_nil, List.length_cons, maxLen] at *); omega)))
          | ((with_reducible refine cpyN.mk ?_ ?_ ?_ ?_); (focus (first | rfl | (simp; done))); (focus (first | exact one_all (by rfl) | exact one_map (fun _ => rfl) | exact one_map2 (fun _ => rfl))); (focus ((try simp only [List.length_replicate, List.length_map, List.length_append, List.length_nil, List.length_cons, maxLen] at *); omega)))
          | with_reducible refine wr_i64 (by first | omega | (simp only [List.length_map] at *; omega)) ?_
          | with_reducible refine wr_u64 (by omega) ?_
          | with_reducible refine wr_u8 (by omega) ?_
          | with_reducible refine wr_u32 (by omega) ?_
          | with_reducible refine wr_mk _ rfl ?_
          | ((with_reducible refine ixN_nat ?_ ?_); (focus ((try simp only [List.length_map] at *); omega)))
          | ((with_reducible refine rowN_map ?_ ?_); (focus ((try simp only [List.length_map] at *); omega)); intro x hx)
          | ((with_reducible refine ixN_mk 0 ?_ ?_ ?_); (focus rfl); (focus decide))
          | ((with_reducible refine ixN_mk 1 ?_ ?_ ?_); (focus rfl); (focus decide))
          | ((with_reducible refine ixN_mk 2 ?_ ?_ ?_); (focus rfl); (focus decide))
          | ((with_reducible refine ixN_mk 3 ?_ ?_ ?_); (focus rfl); (focus decide))
          | ((with_reducible refine ixN_mk 4 ?_ ?_ ?_); (focus rfl); (focus decide))
          | ((with_reducible refine ixN_mk 5 ?_ ?_ ?_); (focus rfl); (focus decide))
          | ((with_reducible refine ixN_mk 6 ?_ ?_ ?_); (focus rfl); (focus decide))
          | ((with_reducible refine ixN_mk 7 ?_ ?_ ?_); (focus rfl); (focus decide))
          | ((with_reducible refine posE_nil (by rfl) ?_))
          | ((with_reducible refine posE_pos (by decide) ?_))
          | with_reducible refine vN_mod (by omega) ?_
          | with_reducible refine vN_mk ?_
          | with_reducible refine nzN_mk (by omega) ?_
          | with_reducible refine eqN_dec (by omega) ?_
          | with_reducible refine draw_rule tabOk mixOk ?_
          | with_reducible refine apN_mk (by kernel_rfl) ?_
          | ((with_reducible apply conN_mk2 ?_ (c1) ?_);(first | (focus exact ⟨rfl, trivial⟩)); skip)
          | ((with_reducible apply call_con2 ?_ (c1) ?_);(first | (focus exact ⟨rfl, trivial⟩)); rintro _ _ _ ⟨rfl, rfl, rfl⟩)
          | ((with_reducible apply conN_mk2 ?_ (wakes_con) ?_);(first | (focus exact trivial)); skip)
          | ((with_reducible apply call_con2 ?_ (wakes_con) ?_);(first | (focus exact trivial)); rintro _ _ _ ⟨rfl, rfl, rfl⟩)
          | ((with_reducible apply conN_mk2 ?_ (right_t _ _ hr hk) ?_);(first | (focus exact ⟨⟨rfl, rfl, trivial⟩, trivial⟩) | (rotate_left 1; (focus exact ⟨⟨rfl, rfl, trivial⟩, trivial⟩)) | (rotate_left 2; (focus exact ⟨⟨rfl, rfl, trivial⟩, trivial⟩))); skip)
          | ((with_reducible apply call_con2 ?_ (right_t _ _ hr hk) ?_);(first | (focus exact ⟨⟨rfl, rfl, trivial⟩, trivial⟩) | (rotate_left 1; (focus exact ⟨⟨rfl, rfl, trivial⟩, trivial⟩)) | (rotate_left 2; (focus exact ⟨⟨rfl, rfl, trivial⟩, trivial⟩))); rintro _ _ _ ⟨rfl, rfl, rfl⟩)
          | ((with_reducible apply conN_mk2 ?_ (copied_con _ _ hr) ?_);(first | (focus exact ⟨⟨rfl, rfl, trivial⟩, trivial⟩) | (rotate_left 1; (focus exact ⟨⟨rfl, rfl, trivial⟩, trivial⟩)) | (rotate_left 2; (focus exact ⟨⟨rfl, rfl, trivial⟩, trivial⟩))); skip)
          | ((with_reducible apply call_con2 ?_ (copied_con _ _ hr) ?_);(first | (focus exact ⟨⟨rfl, rfl, trivial⟩, trivial⟩) | (rotate_left 1; (focus exact ⟨⟨rfl, rfl, trivial⟩, trivial⟩)) | (rotate_left 2; (focus exact ⟨⟨rfl, rfl, trivial⟩, trivial⟩))); rintro _ _ _ ⟨rfl, rfl, rfl⟩)
          | ((with_reducible apply conN_mk2 ?_ (check_t _ _ hr hk) ?_);(first | (focus exact ⟨⟨rfl, (by first | exact low_osl fun _ => rfl | exact low_oslr fun _ => rfl), trivial⟩, trivial⟩) | (rotate_left 1; (focus exact ⟨⟨rfl, (by first | exact low_osl fun _ => rfl | exact low_oslr fun _ => rfl), trivial⟩, trivial⟩)) | (rotate_left 2; (focus exact ⟨⟨rfl, (by first | exact low_osl fun _ => rfl | exact low_oslr fun _ => rfl), trivial⟩, trivial⟩))); skip)
          | ((with_reducible apply call_con2 ?_ (check_t _ _ hr hk) ?_);(first | (focus exact ⟨⟨rfl, (by first | exact low_osl fun _ => rfl | exact low_oslr fun _ => rfl), trivial⟩, trivial⟩) | (rotate_left 1; (focus exact ⟨⟨rfl, (by first | exact low_osl fun _ => rfl | exact low_oslr fun _ => rfl), trivial⟩, trivial⟩)) | (rotate_left 2; (focus exact ⟨⟨rfl, (by first | exact low_osl fun _ => rfl | exact low_oslr fun _ => rfl), trivial⟩, trivial⟩))); rintro _ _ _ ⟨rfl, rfl, rfl⟩)
          | ((with_reducible apply conN_mk2 ?_ (same_con _ _ _ _ hr) ?_);(first | (focus exact ⟨⟨rfl, rfl, trivial⟩, ⟨rfl, rfl, trivial⟩, trivial⟩) | (rotate_left 1; (focus exact ⟨⟨rfl, rfl, trivial⟩, ⟨rfl, rfl, trivial⟩, trivial⟩)) | (rotate_left 2; (focus exact ⟨⟨rfl, rfl, trivial⟩, ⟨rfl, rfl, trivial⟩, trivial⟩)) | (rotate_left 3; (focus exact ⟨⟨rfl, rfl, trivial⟩, ⟨rfl, rfl, trivial⟩, trivial⟩)) | (rotate_left 4; (focus exact ⟨⟨rfl, rfl, trivial⟩, ⟨rfl, rfl, trivial⟩, trivial⟩))); skip)
          | ((with_reducible apply call_con2 ?_ (same_con _ _ _ _ hr) ?_);(first | (focus exact ⟨⟨rfl, rfl, trivial⟩, ⟨rfl, rfl, trivial⟩, trivial⟩) | (rotate_left 1; (focus exact ⟨⟨rfl, rfl, trivial⟩, ⟨rfl, rfl, trivial⟩, trivial⟩)) | (rotate_left 2; (focus exact ⟨⟨rfl, rfl, trivial⟩, ⟨rfl, rfl, trivial⟩, trivial⟩)) | (rotate_left 3; (focus exact ⟨⟨rfl, rfl, trivial⟩, ⟨rfl, rfl, trivial⟩, trivial⟩)) | (rotate_left 4; (focus exact ⟨⟨rfl, rfl, trivial⟩, ⟨rfl, rfl, trivial⟩, trivial⟩))); rintro _ _ _ ⟨rfl, rfl, rfl⟩)
          | ((with_reducible apply conN_mk2 ?_ (rsame_con _ _ _ _ hr) ?_);(first | (focus exact ⟨⟨rfl, rfl, trivial⟩, ⟨rfl, rfl, trivial⟩, trivial⟩) | (rotate_left 1; (focus exact ⟨⟨rfl, rfl, trivial⟩, ⟨rfl, rfl, trivial⟩, trivial⟩)) | (rotate_left 2; (focus exact ⟨⟨rfl, rfl, trivial⟩, ⟨rfl, rfl, trivial⟩, trivial⟩)) | (rotate_left 3; (focus exact ⟨⟨rfl, rfl, trivial⟩, ⟨rfl, rfl, trivial⟩, trivial⟩)) | (rotate_left 4; (focus exact ⟨⟨rfl, rfl, trivial⟩, ⟨rfl, rfl, trivial⟩, trivial⟩))); skip)
          | ((with_reducible apply call_con2 ?_ (rsame_con _ _ _ _ hr) ?_);(first | (focus exact ⟨⟨rfl, rfl, trivial⟩, ⟨rfl, rfl, trivial⟩, trivial⟩) | (rotate_left 1; (focus exact ⟨⟨rfl, rfl, trivial⟩, ⟨rfl, rfl, trivial⟩, trivial⟩)) | (rotate_left 2; (focus exact ⟨⟨rfl, rfl, trivial⟩, ⟨rfl, rfl, trivial⟩, trivial⟩)) | (rotate_left 3; (focus exact ⟨⟨rfl, rfl, trivial⟩, ⟨rfl, rfl, trivial⟩, trivial⟩)) | (rotate_left 4; (focus exact ⟨⟨rfl, rfl, trivial⟩, ⟨rfl, rfl, trivial⟩, trivial⟩))); rintro _ _ _ ⟨rfl, rfl, rfl⟩)
          | ((with_reducible apply conN_mk2 ?_ (same_con _ _ _ _ hr) ?_);(first | (focus exact ⟨⟨rfl, rfl, trivial⟩, ⟨rfl, (by first | exact low_osl fun _ => rfl | exact low_oslr fun _ => rfl), trivial⟩, trivial⟩) | (rotate_left 1; (focus exact ⟨⟨rfl, rfl, trivial⟩, ⟨rfl, (by first | exact low_osl fun _ => rfl | exact low_oslr fun _ => rfl), trivial⟩, trivial⟩)) | (rotate_left 2; (focus exact ⟨⟨rfl, rfl, trivial⟩, ⟨rfl, (by first | exact low_osl fun _ => rfl | exact low_oslr fun _ => rfl), trivial⟩, trivial⟩)) | (rotate_left 3; (focus exact ⟨⟨rfl, rfl, trivial⟩, ⟨rfl, (by first | exact low_osl fun _ => rfl | exact low_oslr fun _ => rfl), trivial⟩, trivial⟩)) | (rotate_left 4; (focus exact ⟨⟨rfl, rfl, trivial⟩, ⟨rfl, (by first | exact low_osl fun _ => rfl | exact low_oslr fun _ => rfl), trivial⟩, trivial⟩))); skip)
          | ((with_reducible apply call_con2 ?_ (same_con _ _ _ _ hr) ?_);(first | (focus exact ⟨⟨rfl, rfl, trivial⟩, ⟨rfl, (by first | exact low_osl fun _ => rfl | exact low_oslr fun _ => rfl), trivial⟩, trivial⟩) | (rotate_left 1; (focus exact ⟨⟨rfl, rfl, trivial⟩, ⟨rfl, (by first | exact low_osl fun _ => rfl | exact low_oslr fun _ => rfl), trivial⟩, trivial⟩)) | (rotate_left 2; (focus exact ⟨⟨rfl, rfl, trivial⟩, ⟨rfl, (by first | exact low_osl fun _ => rfl | exact low_oslr fun _ => rfl), trivial⟩, trivial⟩)) | (rotate_left 3; (focus exact ⟨⟨rfl, rfl, trivial⟩, ⟨rfl, (by first | exact low_osl fun _ => rfl | exact low_oslr fun _ => rfl), trivial⟩, trivial⟩)) | (rotate_left 4; (focus exact ⟨⟨rfl, rfl, trivial⟩, ⟨rfl, (by first | exact low_osl fun _ => rfl | exact low_oslr fun _ => rfl), trivial⟩, trivial⟩))); rintro _ _ _ ⟨rfl, rfl, rfl⟩)
          | ((with_reducible apply conN_mk2 ?_ (new_con _) ?_);(first | (focus exact ⟨rfl, trivial⟩) | (rotate_left 1; (focus exact ⟨rfl, trivial⟩))); skip)
          | ((with_reducible apply call_con2 ?_ (new_con _) ?_);(first | (focus exact ⟨rfl, trivial⟩) | (rotate_left 1; (focus exact ⟨rfl, trivial⟩))); rintro _ _ _ ⟨rfl, rfl, rfl⟩)
          | ((with_reducible apply conN_mk2 ?_ (rsame_con _ _ [] [] (Nat.zero_le _)) ?_);(first | (focus exact ⟨⟨rfl, .inr ⟨3, rfl⟩, trivial⟩, ⟨rfl, .inr ⟨3, rfl⟩, trivial⟩, trivial⟩) | (rotate_left 1; (focus exact ⟨⟨rfl, .inr ⟨3, rfl⟩, trivial⟩, ⟨rfl, .inr ⟨3, rfl⟩, trivial⟩, trivial⟩)) | (rotate_left 2; (focus exact ⟨⟨rfl, .inr ⟨3, rfl⟩, trivial⟩, ⟨rfl, .inr ⟨3, rfl⟩, trivial⟩, trivial⟩)) | (rotate_left 3; (focus exact ⟨⟨rfl, .inr ⟨3, rfl⟩, trivial⟩, ⟨rfl, .inr ⟨3, rfl⟩, trivial⟩, trivial⟩))); skip)
          | ((with_reducible apply call_con2 ?_ (rsame_con _ _ [] [] (Nat.zero_le _)) ?_);(first | (focus exact ⟨⟨rfl, .inr ⟨3, rfl⟩, trivial⟩, ⟨rfl, .inr ⟨3, rfl⟩, trivial⟩, trivial⟩) | (rotate_left 1; (focus exact ⟨⟨rfl, .inr ⟨3, rfl⟩, trivial⟩, ⟨rfl, .inr ⟨3, rfl⟩, trivial⟩, trivial⟩)) | (rotate_left 2; (focus exact ⟨⟨rfl, .inr ⟨3, rfl⟩, trivial⟩, ⟨rfl, .inr ⟨3, rfl⟩, trivial⟩, trivial⟩)) | (rotate_left 3; (focus exact ⟨⟨rfl, .inr ⟨3, rfl⟩, trivial⟩, ⟨rfl, .inr ⟨3, rfl⟩, trivial⟩, trivial⟩))); rintro _ _ _ ⟨rfl, rfl, rfl⟩)
          | ((with_reducible apply conN_mk2 ?_ (latest_t _ _ hr hk) ?_);(first | (focus exact ⟨⟨rfl, (by first | exact low_osl fun _ => rfl | exact low_oslr fun _ => rfl), trivial⟩, trivial⟩) | (rotate_left 1; (focus exact ⟨⟨rfl, (by first | exact low_osl fun _ => rfl | exact low_oslr fun _ => rfl), trivial⟩, trivial⟩)) | (rotate_left 2; (focus exact ⟨⟨rfl, (by first | exact low_osl fun _ => rfl | exact low_oslr fun _ => rfl), trivial⟩, trivial⟩))); skip)
          | ((with_reducible apply call_con2 ?_ (latest_t _ _ hr hk) ?_);(first | (focus exact ⟨⟨rfl, (by first | exact low_osl fun _ => rfl | exact low_oslr fun _ => rfl), trivial⟩, trivial⟩) | (rotate_left 1; (focus exact ⟨⟨rfl, (by first | exact low_osl fun _ => rfl | exact low_oslr fun _ => rfl), trivial⟩, trivial⟩)) | (rotate_left 2; (focus exact ⟨⟨rfl, (by first | exact low_osl fun _ => rfl | exact low_oslr fun _ => rfl), trivial⟩, trivial⟩))); rintro _ _ _ ⟨rfl, rfl, rfl⟩)
          | ((with_reducible apply conN_mk2 ?_ (next_t _ _ hr hk) ?_);(first | (focus exact ⟨⟨rfl, (by first | exact low_osl fun _ => rfl | exact low_oslr fun _ => rfl), trivial⟩, trivial⟩) | (rotate_left 1; (focus exact ⟨⟨rfl, (by first | exact low_osl fun _ => rfl | exact low_oslr fun _ => rfl), trivial⟩, trivial⟩)) | (rotate_left 2; (focus exact ⟨⟨rfl, (by first | exact low_osl fun _ => rfl | exact low_oslr fun _ => rfl), trivial⟩, trivial⟩))); skip)
          | ((with_reducible apply call_con2 ?_ (next_t _ _ hr hk) ?_);(first | (focus exact ⟨⟨rfl, (by first | exact low_osl fun _ => rfl | exact low_oslr fun _ => rfl), trivial⟩, trivial⟩) | (rotate_left 1; (focus exact ⟨⟨rfl, (by first | exact low_osl fun _ => rfl | exact low_oslr fun _ => rfl), trivial⟩, trivial⟩)) | (rotate_left 2; (focus exact ⟨⟨rfl, (by first | exact low_osl fun _ => rfl | exact low_oslr fun _ => rfl), trivial⟩, trivial⟩))); rintro _ _ _ ⟨rfl, rfl, rfl⟩)
          | ((with_reducible apply conN_mk2 ?_ (saves_t _ _ hr hk) ?_);(first | (focus exact ⟨⟨rfl, (by first | exact low_osl fun _ => rfl | exact low_oslr fun _ => rfl), trivial⟩, trivial⟩) | (rotate_left 1; (focus exact ⟨⟨rfl, (by first | exact low_osl fun _ => rfl | exact low_oslr fun _ => rfl), trivial⟩, trivial⟩)) | (rotate_left 2; (focus exact ⟨⟨rfl, (by first | exact low_osl fun _ => rfl | exact low_oslr fun _ => rfl), trivial⟩, trivial⟩))); skip)
          | ((with_reducible apply call_con2 ?_ (saves_t _ _ hr hk) ?_);(first | (focus exact ⟨⟨rfl, (by first | exact low_osl fun _ => rfl | exact low_oslr fun _ => rfl), trivial⟩, trivial⟩) | (rotate_left 1; (focus exact ⟨⟨rfl, (by first | exact low_osl fun _ => rfl | exact low_oslr fun _ => rfl), trivial⟩, trivial⟩)) | (rotate_left 2; (focus exact ⟨⟨rfl, (by first | exact low_osl fun _ => rfl | exact low_oslr fun _ => rfl), trivial⟩, trivial⟩))); rintro _ _ _ ⟨rfl, rfl, rfl⟩))
        all_goals (try (conv => whnf))
        all_goals try (refine ret0 _ rfl _ rfl (fun _ => rfl) rfl ⟨?_, rfl, rfl⟩; rfl)

        refine loop_rule tabOk (fun q : Nat × List Int => ⟨[(146, .val (.int .i64 (q.1 : Int))), (145, .val (.int .i64 ((rs.map eK).length : Nat))), (144, .c (.ro false 3 (rs.map eK))), (19, .val (.int .u64 (nextN (rs.take q.1)))), (18, .c (.gsl 3 (q.2.map cU))), (17, .c (.own 2 0 0)), (16, .c (.ro true 1 ((saves rs).map eU))), (15, .val (.bool (rs.find? (fun r => r.op)).isSome)), (14, .val (.int .u64 (nextN rs))), (13, .val (.bool (decide (0 < rs.length)))), (12, .c (.own 1 0 0)), (3, .c (.own 0 0 0))], [(0, some ⟨[[.v (.int .i64 keep), .ro false 3 (rs.map eK)]], 2, 24, true⟩), (1, some ⟨[[.v (.int .u64 (lastK rs).num), .v (.bool (lastK rs).sv), .v (.bool (lastK rs).op)]], 3, 44, true⟩), (2, some ⟨[[.v (.int .u64 (lastK (rs.take q.1)).num), .v (.bool (lastK (rs.take q.1)).sv), .v (.bool (lastK (rs.take q.1)).op)]], 3, 44, true⟩), (3, gB 1 25 (q.2.map cU))], 4⟩) (fun q => q.1 ≤ rs.length ∧ q.2 = saves (rs.take q.1)) (fun q => rs.length - q.1) (0, []) ⟨Nat.zero_le _, rfl⟩ (Stp.trans (Stp.nilg 18 10 rfl (Nat.zero_le _)) (Wk.stp (l := [0, 6, 9, 10]) ⟨rfl, by decide, rfl, Nat.zero_le _, ⟨rfl, rfl, rfl, rfl, rfl, rfl, rfl, rfl, rfl, rfl, rfl, rfl, trivial⟩, ⟨fun b hb => (by cases hb; rfl), fun b hb => (by cases hb; rfl), fun b hb => (by cases hb; rfl), fun b hb => (by cases hb), trivial⟩⟩)) ?_
        rintro ⟨i, acc⟩ ⟨hi, hacc⟩
        dsimp only at hi hacc ⊢
        have hal : acc.length ≤ 100 := by rw [hacc]; exact Nat.le_trans (saves_len _) (by rw [List.length_take]; omega)
        have hsl : (saves rs).length ≤ 100 := Nat.le_trans (saves_len _) hr
        have hms := okK_mem (by decide) (okS_K hk)
        repeat' ((conv => whnf); first
          | with_reducible refine spB_t ?_
          | ((with_reducible apply spB_cong); (focus (simp only [beq_self_eq_true, bne_self_eq_false, Bool.true_bne, Bool.false_bne, Bool.bne_true, Bool.bne_false, Bool.true_beq, Bool.false_beq, Bool.not_true, Bool.not_false, Bool.not_not, Int.reduceBEq, Int.reduceBNe, Int.reduceLE, Int.reduceLT, Int.reduceEq, decide_true, decide_false, eq_self, and_self, List.length_nil, List.length_map, hin, if_true, if_false]; rfl)))
          | with_reducible refine spB_yes (by decide) ?_
          | with_reducible refine spB_no (by decide) ?_
          | with_reducible refine spB_f ?_
          | with_reducible refine spB_not ?_
          | with_reducible refine spB_yes (by assumption) ?_
          | with_reducible refine spB_no (by assumption) ?_
          | (with_reducible refine spB_dec ?_ ?_ <;> intro _ <;> (try (exfalso; first | contradiction | omega | (rename_i hz; with_reducible exact absurd rfl hz))))
          | (with_reducible refine spB_beq ?_ ?_ <;> intro _ <;> (try (exfalso; first | contradiction | omega | (rename_i hz; with_reducible exact absurd rfl hz))))
          | (with_reducible refine spB_bne ?_ ?_ <;> intro _ <;> (try (exfalso; first | contradiction | omega | (rename_i hz; with_reducible exact absurd rfl hz))))
          | (with_reducible refine spB_mk ?_ ?_ <;> intro _ <;> (try (exfalso; first | contradiction | omega | (rename_i hz; with_reducible exact absurd rfl hz))))
          | ((with_reducible apply rowN_mk); (focus rfl))
          | ((with_reducible refine ixN_mk 0 ?_ ?_ ?_); (focus rfl); (focus (exact Nat.le_of_ble_eq_true rfl)))
          | ((with_reducible refine ixN_mk 1 ?_ ?_ ?_); (focus rfl); (focus (exact Nat.le_of_ble_eq_true rfl)))
          | ((with_reducible refine ixN_mk 2 ?_ ?_ ?_); (focus rfl); (focus (exact Nat.le_of_ble_eq_true rfl)))
          | ((with_reducible refine ixN_mk 3 ?_ ?_ ?_); (focus rfl); (focus (exact Nat.le_of_ble_eq_true rfl)))
          | ((with_reducible refine ixN_mk 4 ?_ ?_ ?_); (focus rfl); (focus (exact Nat.le_of_ble_eq_true rfl)))
          | ((with_reducible refine ixN_mk 5 ?_ ?_ ?_); (focus rfl); (focus (exact Nat.le_of_ble_eq_true rfl)))
          | ((with_reducible refine ixN_mk 6 ?_ ?_ ?_); (focus rfl); (focus (exact Nat.le_of_ble_eq_true rfl)))
          | ((with_reducible refine ixN_mk 7 ?_ ?_ ?_); (focus rfl); (focus (exact Nat.le_of_ble_eq_true rfl)))
          | ((with_reducible refine eqN_mk2 ?_ ?_); (focus rfl))
          | ((with_reducible refine posN_mk2 ?_ ?_); (focus (first | decide | ((try simp only [List.length_replicate, List.length_map, List.length_append, List.length_nil, List.length_cons, maxLen] at *); omega))))
          | ((with_reducible refine apdN.mk ?_ ?_ ?_ ?_ ?_ ?_); (focus (first | rfl | (simp; done))); (focus (first | exact one_all (by rfl) | exact one_map (fun _ => rfl) | exact one_map2 (fun _ => rfl))); (focus ((try simp only [List.length_replicate, List.length_map, List.length_append, List.length_nil, List.length_cons, maxLen] at *); omega)); (focus ((try simp only [List.length_replicate, List.length_map, List.length_append, List.length_nil, List.length_cons, maxLen] at *); omega)); (focus ((try simp only [List.length_replicate, List.length_map, List.length_append, List.length_nil, List.length_cons, maxLen] at *); omega)))
          | ((with_reducible refine cpyN.mk ?_ ?_ ?_ ?_); (focus (first | rfl | (simp; done))); (focus (first | exact one_all (by rfl) | exact one_map (fun _ => rfl) | exact one_map2 (fun _ => rfl))); (focus ((try simp only [List.length_replicate, List.length_map, List.length_append, List.length_nil, List.length_cons, maxLen] at *); omega)))
          | with_reducible refine wr_i64 (by first | omega | (simp only [List.length_map] at *; omega)) ?_
          | with_reducible refine wr_u64 (by omega) ?_
          | with_reducible refine wr_u8 (by omega) ?_
          | with_reducible refine wr_u32 (by omega) ?_
          | with_reducible refine wr_mk _ rfl ?_
          | ((with_reducible refine ixN_nat ?_ ?_); (focus ((try simp only [List.length_map] at *); omega)))
          | ((with_reducible refine rowN_map ?_ ?_); (focus ((try simp only [List.length_map] at *); omega)); intro x hx)
          | ((with_reducible refine ixN_mk 0 ?_ ?_ ?_); (focus rfl); (focus decide))
          | ((with_reducible refine ixN_mk 1 ?_ ?_ ?_); (focus rfl); (focus decide))
          | ((with_reducible refine ixN_mk 2 ?_ ?_ ?_); (focus rfl); (focus decide))
          | ((with_reducible refine ixN_mk 3 ?_ ?_ ?_); (focus rfl); (focus decide))
          | ((with_reducible refine ixN_mk 4 ?_ ?_ ?_); (focus rfl); (focus decide))
          | ((with_reducible refine ixN_mk 5 ?_ ?_ ?_); (focus rfl); (focus decide))
          | ((with_reducible refine ixN_mk 6 ?_ ?_ ?_); (focus rfl); (focus decide))
          | ((with_reducible refine ixN_mk 7 ?_ ?_ ?_); (focus rfl); (focus decide))
          | ((with_reducible refine posE_nil (by rfl) ?_))
          | ((with_reducible refine posE_pos (by decide) ?_))
          | with_reducible refine vN_mod (by omega) ?_
          | with_reducible refine vN_mk ?_
          | with_reducible refine nzN_mk (by omega) ?_
          | with_reducible refine eqN_dec (by omega) ?_
          | with_reducible refine draw_rule tabOk mixOk ?_
          | with_reducible refine apN_mk (by kernel_rfl) ?_
          | ((with_reducible apply conN_mk2 ?_ (equ_con _ _ ?_) ?_);(first | (focus exact ⟨rfl, ⟨1, 25, _, rfl, rfl, by simp only [List.map_map]; rfl⟩, trivial⟩) | (rotate_left 1; (focus exact ⟨rfl, ⟨1, 25, _, rfl, rfl, by simp only [List.map_map]; rfl⟩, trivial⟩)) | (rotate_left 2; (focus exact ⟨rfl, ⟨1, 25, _, rfl, rfl, by simp only [List.map_map]; rfl⟩, trivial⟩))); (focus omega); skip)
          | ((with_reducible apply call_con2 ?_ (equ_con _ _ ?_) ?_);(first | (focus exact ⟨rfl, ⟨1, 25, _, rfl, rfl, by simp only [List.map_map]; rfl⟩, trivial⟩) | (rotate_left 1; (focus exact ⟨rfl, ⟨1, 25, _, rfl, rfl, by simp only [List.map_map]; rfl⟩, trivial⟩)) | (rotate_left 2; (focus exact ⟨rfl, ⟨1, 25, _, rfl, rfl, by simp only [List.map_map]; rfl⟩, trivial⟩))); (focus omega); rintro _ _ _ ⟨rfl, rfl, rfl⟩))
        all_goals (try (conv => whnf))
        all_goals first
          | (refine ⟨⟨(i + 1, acc ++ [x.num]), ⟨by (try simp only [List.length_map] at *); omega, ?_⟩, by (try simp only [List.length_map] at *); omega, (Wk.stp (l := [0, 1, 2, 6]) ⟨rfl, by decide, rfl, Nat.zero_le _, ⟨rfl, rfl, rfl, (by dsimp only; rw [next_new hx hms (by assumption) (by assumption)]; rfl), (by rw [List.map_append]; rfl), rfl, rfl, rfl, rfl, rfl, rfl, rfl, trivial⟩, ⟨fun b hb => (by cases hb; rfl), fun b hb => (by cases hb; rfl), (by dsimp only; rw [last_snoc hx]; exact fun b hb => (by cases hb; rfl)), gB_sub' rfl (by rw [List.map_append]; rfl) (ren_map fun _ => rfl), trivial⟩⟩)⟩⟩; dsimp only; rw [hacc, saves_yes hx (by assumption)]; done)
          | (refine ⟨⟨(i + 1, acc ++ [x.num]), ⟨by (try simp only [List.length_map] at *); omega, ?_⟩, by (try simp only [List.length_map] at *); omega, (Wk.stp (l := [0, 1, 2, 6]) ⟨rfl, by decide, rfl, Nat.zero_le _, ⟨rfl, rfl, rfl, (by dsimp only; rw [next_old hx (by first | exact .inl (by assumption) | exact .inr (by assumption))]; rfl), (by rw [List.map_append]; rfl), rfl, rfl, rfl, rfl, rfl, rfl, rfl, trivial⟩, ⟨fun b hb => (by cases hb; rfl), fun b hb => (by cases hb; rfl), (by dsimp only; rw [last_snoc hx]; exact fun b hb => (by cases hb; rfl)), gB_sub' rfl (by rw [List.map_append]; rfl) (ren_map fun _ => rfl), trivial⟩⟩)⟩⟩; dsimp only; rw [hacc, saves_yes hx (by assumption)]; done)
          | (refine ⟨⟨(i + 1, acc), ⟨by (try simp only [List.length_map] at *); omega, ?_⟩, by (try simp only [List.length_map] at *); omega, (Wk.stp (l := [0, 1, 2, 3]) ⟨rfl, by decide, rfl, Nat.zero_le _, ⟨rfl, rfl, rfl, (by dsimp only; rw [next_new hx hms (by assumption) (by assumption)]; rfl), rfl, rfl, rfl, rfl, rfl, rfl, rfl, rfl, trivial⟩, ⟨fun b hb => (by cases hb; rfl), fun b hb => (by cases hb; rfl), (by dsimp only; rw [last_snoc hx]; exact fun b hb => (by cases hb; rfl)), gB_sub rfl rfl (ren_map fun _ => rfl), trivial⟩⟩)⟩⟩; dsimp only; rw [hacc, saves_no hx (by assumption)]; done)
          | (refine ⟨⟨(i + 1, acc), ⟨by (try simp only [List.length_map] at *); omega, ?_⟩, by (try simp only [List.length_map] at *); omega, (Wk.stp (l := [0, 1, 2, 3]) ⟨rfl, by decide, rfl, Nat.zero_le _, ⟨rfl, rfl, rfl, (by dsimp only; rw [next_old hx (by first | exact .inl (by assumption) | exact .inr (by assumption))]; rfl), rfl, rfl, rfl, rfl, rfl, rfl, rfl, rfl, trivial⟩, ⟨fun b hb => (by cases hb; rfl), fun b hb => (by cases hb; rfl), (by dsimp only; rw [last_snoc hx]; exact fun b hb => (by cases hb; rfl)), gB_sub rfl rfl (ren_map fun _ => rfl), trivial⟩⟩)⟩⟩; dsimp only; rw [hacc, saves_no hx (by assumption)]; done)
          | (refine ret0 _ rfl _ rfl (fun _ => rfl) rfl ⟨?_, rfl, rfl⟩; have e : i = rs.length := (by (try simp only [List.length_map] at *); omega); subst e; rw [List.take_length] at *; first | (refine rv_bool ?_; simp [hacc]; done) | (exfalso; simp [open_eq hms] at *; done))
          | (trace_state; sorry)
  · refine con_of tabOk 194 Try.f5 _ Try.func5 (by kernel_rfl) rfl rfl rfl rfl (fun W => ?_)
    repeat' ((conv => whnf); first
      | with_reducible refine spB_t ?_
      | ((with_reducible apply spB_cong); (focus (simp only [beq_self_eq_true, bne_self_eq_false, Bool.true_bne, Bool.false_bne, Bool.bne_true, Bool.bne_false, Bool.true_beq, Bool.false_beq, Bool.not_true, Bool.not_false, Bool.not_not, Int.reduceBEq, Int.reduceBNe, Int.reduceLE, Int.reduceLT, Int.reduceEq, decide_true, decide_false, eq_self, and_self, List.length_nil, List.length_map, if_true, if_false]; rfl)))
      | with_reducible refine spB_yes (by decide) ?_
      | with_reducible refine spB_no (by decide) ?_
      | with_reducible refine spB_f ?_
      | with_reducible refine spB_not ?_
      | with_reducible refine spB_yes (by assumption) ?_
      | with_reducible refine spB_no (by assumption) ?_
      | (with_reducible refine spB_dec ?_ ?_ <;> intro _ <;> (try (exfalso; first | contradiction | omega | (rename_i hz; with_reducible exact absurd rfl hz))))
      | (with_reducible refine spB_beq ?_ ?_ <;> intro _ <;> (try (exfalso; first | contradiction | omega | (rename_i hz; with_reducible exact absurd rfl hz))))
      | (with_reducible refine spB_bne ?_ ?_ <;> intro _ <;> (try (exfalso; first | contradiction | omega | (rename_i hz; with_reducible exact absurd rfl hz))))
      | (with_reducible refine spB_mk ?_ ?_ <;> intro _ <;> (try (exfalso; first | contradiction | omega | (rename_i hz; with_reducible exact absurd rfl hz))))
      | ((with_reducible apply rowN_mk); (focus rfl))
      | ((with_reducible refine ixN_mk 0 ?_ ?_ ?_); (focus rfl); (focus (exact Nat.le_of_ble_eq_true rfl)))
      | ((with_reducible refine ixN_mk 1 ?_ ?_ ?_); (focus rfl); (focus (exact Nat.le_of_ble_eq_true rfl)))
      | ((with_reducible refine ixN_mk 2 ?_ ?_ ?_); (focus rfl); (focus (exact Nat.le_of_ble_eq_true rfl)))
      | ((with_reducible refine ixN_mk 3 ?_ ?_ ?_); (focus rfl); (focus (exact Nat.le_of_ble_eq_true rfl)))
      | ((with_reducible refine ixN_mk 4 ?_ ?_ ?_); (focus rfl); (focus (exact Nat.le_of_ble_eq_true rfl)))
      | ((with_reducible refine ixN_mk 5 ?_ ?_ ?_); (focus rfl); (focus (exact Nat.le_of_ble_eq_true rfl)))
      | ((with_reducible refine ixN_mk 6 ?_ ?_ ?_); (focus rfl); (focus (exact Nat.le_of_ble_eq_true rfl)))
      | ((with_reducible refine ixN_mk 7 ?_ ?_ ?_); (focus rfl); (focus (exact Nat.le_of_ble_eq_true rfl)))
      | ((with_reducible refine eqN_mk2 ?_ ?_); (focus rfl))
      | ((with_reducible refine posN_mk2 ?_ ?_); (focus (first | decide | ((try simp only [List.length_replicate, List.length_map, List.length_append, List.length_nil, List.length_cons, maxLen] at *); omega))))
      | ((with_reducible refine apdN.mk ?_ ?_ ?_ ?_ ?_ ?_); (focus (first | rfl | (simp; done))); (focus (first | exact one_all (by rfl) | exact one_map (fun _ => rfl) | exact one_map2 (fun _ => rfl))); (focus ((try simp only [List.length_replicate, List.length_map, List.length_append, List.length_nil, List.length_cons, maxLen] at *); omega)); (focus ((try simp only [List.length_replicate, List.length_map, List.length_append, List.length_nil, List.length_cons, maxLen] at *); omega)); (focus ((try simp only [List.length_replicate, List.length_map, List.length_append, List.length_nil, List.length_cons, maxLen] at *); omega)))
      | ((with_reducible refine cpyN.mk ?_ ?_ ?_ ?_); (focus (first | rfl | (simp; done))); (focus (first | exact one_all (by rfl) | exact one_map (fun _ => rfl) | exact one_map2 (fun _ => rfl))); (focus ((try simp only [List.length_replicate, List.length_map, List.length_append, List.length_nil, List.length_cons, maxLen] at *); omega)))
      | with_reducible refine wr_i64 (by first | omega | (simp only [List.length_map] at *; omega)) ?_
      | with_reducible refine wr_u64 (by omega) ?_
      | with_reducible refine wr_u8 (by omega) ?_
      | with_reducible refine wr_u32 (by omega) ?_
      | with_reducible refine wr_mk _ rfl ?_
      | ((with_reducible refine ixN_nat ?_ ?_); (focus ((try simp only [List.length_map] at *); omega)))
      | ((with_reducible refine rowN_map ?_ ?_); (focus ((try simp only [List.length_map] at *); omega)); intro x hx)
      | ((with_reducible refine ixN_mk 0 ?_ ?_ ?_); (focus rfl); (focus decide))
      | ((with_reducible refine ixN_mk 1 ?_ ?_ ?_); (focus rfl); (focus decide))
      | ((with_reducible refine ixN_mk 2 ?_ ?_ ?_); (focus rfl); (focus decide))
      | ((with_reducible refine ixN_mk 3 ?_ ?_ ?_); (focus rfl); (focus decide))
      | ((with_reducible refine ixN_mk 4 ?_ ?_ ?_); (focus rfl); (focus decide))
      | ((with_reducible refine ixN_mk 5 ?_ ?_ ?_); (focus rfl); (focus decide))
      | ((with_reducible refine ixN_mk 6 ?_ ?_ ?_); (focus rfl); (focus decide))
      | ((with_reducible refine ixN_mk 7 ?_ ?_ ?_); (focus rfl); (focus decide))
      | ((with_reducible refine posE_nil (by rfl) ?_))
      | ((with_reducible refine posE_pos (by decide) ?_))
      | with_reducible refine vN_mod (by omega) ?_
      | with_reducible refine vN_mk ?_
      | with_reducible refine nzN_mk (by omega) ?_
      | with_reducible refine eqN_dec (by omega) ?_
      | with_reducible refine draw_rule tabOk mixOk ?_
      | with_reducible refine apN_mk (by kernel_rfl) ?_
      | ((with_reducible apply conN_mk2 ?_ (wakes_con) ?_);(first | (focus exact trivial)); skip)
      | ((with_reducible apply call_con2 ?_ (wakes_con) ?_);(first | (focus exact trivial)); rintro _ _ _ ⟨rfl, rfl, rfl⟩))
    all_goals (try (conv => whnf))
    all_goals (refine ret0 _ rfl _ rfl (fun _ => rfl) rfl ⟨?_, rfl, rfl⟩; rfl)
end Go.Proofs.Ytnlcmncfbiognaa
