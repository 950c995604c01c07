import Derived.Test.YtibjpohankaoeaaEq0
namespace Go.Proofs.Ytibjpohankaoeaa
open Go Go.RowKit Wx
set_option linter.unusedVariables false
set_option linter.unusedSimpArgs false
set_option maxHeartbeats 4000000
def f40 (l : List Int) : List Int := (fw l).take (min (fw l).length 40)
theorem f40_len (l : List Int) : (f40 l).length ≤ 40 := by simp only [f40, List.length_take]; omega
theorem f40_mem {l : List Int} {z : Int} (h : z ∈ f40 l) : z ∈ l := List.mem_of_mem_take (List.mem_of_mem_take h)
theorem tk_eq {l : List Int} : List.take (min (fw l).length 40 - 0) (List.drop 0 ((fw l).map eI)) = (f40 l).map eI := by simp [f40, List.map_take]
theorem modE_8 (x : Int) : 0 ≤ modE x 8 ∧ modE x 8 ≤ 7 := by
  have h1 := Int.tmod_lt_of_pos x (show (0 : Int) < 8 by decide)
  have h2 : -8 < x.tmod 8 := Int.neg_lt_of_neg_lt (by rw [← Int.neg_tmod]; exact Int.tmod_lt_of_pos _ (by decide))
  unfold modE
  rw [if_neg (by decide)]
  split
  · have : IntKind.i64.wrap (x.tmod 8 + 8) = W (x.tmod 8 + 8) := rfl
    rw [this, W_def]; omega
  · omega
theorem redg {L : List Int} {i : Nat} {x : Int} (h : (fs 4 0 0 (0, 0) L).2[i]? = some x) : x = W (lsum (L.take (i + 1))) := by
  have h4 := (fs4 (l := L) L.length (Nat.le_refl _)).2
  rw [List.take_length] at h4
  rw [h4, List.getElem?_map] at h
  simp only [Option.map_eq_some_iff] at h
  obtain ⟨j, hj, rfl⟩ := h
  obtain ⟨hlt, hj'⟩ := List.getElem?_eq_some_iff.1 hj
  simp only [List.getElem_range] at hj'
  rw [hj']
theorem redg1 {L : List Int} {i : Nat} {x : Int} (h : (fs 4 0 0 (0, 0) L).2[i - 1]? = some x) (hp : 0 < i) : x = W (lsum (L.take i)) := by
  have := redg h
  rwa [show i - 1 + 1 = i by omega] at this
theorem red_len {L : List Int} : (fs 4 0 0 (0, 0) L).2.length = L.length := by
  have h4 := (fs4 (l := L) L.length (Nat.le_refl _)).2
  rw [List.take_length] at h4
  rw [h4]; simp
theorem sub_ok {p z : Int} (hz : W z = z) : IntKind.i64.wrap (W (p + z) - W p) = z := by
  show W _ = z
  simp only [W_def] at *; omega
theorem sub_ok0 {p z : Int} (hz : W z = z) (hp : p = 0) : IntKind.i64.wrap (W (p + z) - 0) = z := by
  show W _ = z
  simp only [W_def] at *; omega
theorem lw {l : List Int} (hw : ∀ z ∈ l, (Lit.int .i64 z).wf = true) {i : Nat} {z : Int} (h : (f40 l)[i]? = some z) : W z = z ∧ lsum ((f40 l).take (i + 1)) = lsum ((f40 l).take i) + z := by
  refine ⟨?_, lsum_step h⟩
  have := hw z (f40_mem (List.mem_of_getElem? h))
  simp [Lit.wf, IntKind.min, IntKind.max, IntKind.signed, IntKind.bits] at this
  rw [W_def]; omega
theorem fin0 {L : List Int} {i : Nat} {x z : Int} (h0 : i = 0) (hx : x = W (lsum (L.take (i + 1)))) (hz : W z = z ∧ lsum (L.take (i - 1 + 1)) = lsum (L.take (i - 1)) + z) : IntKind.i64.wrap (x - 0) = z := by
  subst h0 hx
  have h2 : lsum (L.take (0 + 1)) = lsum (L.take 0) + z := hz.2
  rw [h2]
  exact sub_ok0 hz.1 (by simp [lsum])
theorem sum_eq {A : Int} {L : List Int} {sm : Int} (h1 : W sm = sm) (h2 : W sm = W ((fs 5 A 0 (0, 0) L).1.2 + lsum (fs 5 A 0 (0, 0) L).2)) : sm = (fs 4 0 0 (0, 0) L).1.2 := by
  have h5 := (fs5 (a := A) (l := L) L.length (Nat.le_refl _)).2
  have h4 := (fs4 (l := L) L.length (Nat.le_refl _)).1
  rw [List.take_length] at h4 h5
  rw [h4, ← h1, h2, h5]
  by_cases h0 : L.length = 0
  · have : L = [] := List.eq_nil_of_length_eq_zero h0
    subst this; simp [lsum, W_def]
  · simp only [if_neg h0]
theorem run5 (A : Int) (hA : 1 ≤ A ∧ A ≤ 8) (l : List Int) : runF 5 1 [0] A 0 0 0 (f40 l) = ((fs 5 A 0 (0, 0) (f40 l)).1, (fs 5 A 0 (0, 0) (f40 l)).2, 0) := by
  have ht : tagP 5 1 A 0 := by unfold tagP; omega
  have hok : okO 5 1 [0] A 0 = true := by unfold okO; rw [decide_eq_true (by decide), decide_eq_true (show tagP 5 (([0] : List Int).length) A 0 from ht)]; rfl
  have hf : fitP 5 A (0, 0) := by unfold fitP; simp
  unfold runF runG
  rw [if_neg (by have := f40_len l; omega), if_neg (by rw [hok]; simp), if_neg (not_not_intro hf), low_full ht (by decide) hf, if_neg (by simp)]
theorem run4 (l : List Int) : runF 4 1 [0] 0 0 0 0 (f40 l) = ((fs 4 0 0 (0, 0) (f40 l)).1, (fs 4 0 0 (0, 0) (f40 l)).2, 0) := by
  have hok : okO 4 1 [0] 0 0 = true := by decide
  have hf : fitP 4 0 (0, 0) := by decide
  unfold runF runG
  rw [if_neg (by have := f40_len l; omega), if_neg (by rw [hok]; simp), if_neg (not_not_intro hf), full_f (fun j hj he => by
    have := (fs4 (l := f40 l) j (by omega)).1
    rw [this] at he; have := f40_len l; simp only at he; omega), if_neg (by simp)]
theorem sums_con (a0 : Int) (l : List Int) (hl : l.length ≤ 9223372036854775807) (hw : ∀ z ∈ l, (Lit.int .i64 z).wf = true) : Con Try.prog 9 [.one (.v (.int .i64 a0)), .one (.ro false 1 (l.map eI))] (fun rx rK rt => rx = .val (.bool true) ∧ rK = [] ∧ rt = 0) := by
  have hA := modE_8 a0
  have c5 := Run_con 5 1 (1 + modE a0 8) 0 0 0 [0] (f40 l) (by simp) (by decide) (by have := f40_len l; omega)
  have c4 := Run_con 4 1 0 0 0 0 [0] (f40 l) (by simp) (by decide) (by have := f40_len l; omega)
  rw [run5 _ (by omega)] at c5
  rw [run4] at c4
  have hLen := f40_len l
  refine con_of tabOk 106 Try.f9 _ Try.func9 (by kernel_rfl) rfl rfl rfl rfl (fun W0 => ?_)
  repeat' ((conv => whnf); first
    | with_reducible refine spB_t ?_
    | ((with_reducible apply spB_cong); (focus (simp only [beq_self_eq_true, bne_self_eq_false, Bool.true_bne, Bool.false_bne, Bool.bne_true, Bool.bne_false, Bool.true_beq, Bool.false_beq, Bool.not_true, Bool.not_false, Bool.not_not, Int.reduceBEq, Int.reduceBNe, Int.reduceLE, Int.reduceLT, Int.reduceEq, decide_true, decide_false]; rfl)))
    | with_reducible refine spB_yes (by decide) ?_
    | with_reducible refine spB_no (by decide) ?_
    | with_reducible refine spB_f ?_
    | with_reducible refine spB_not ?_
    | with_reducible refine spB_yes (by assumption) ?_
    | with_reducible refine spB_no (by assumption) ?_
    | (with_reducible refine spB_dec ?_ ?_ <;> intro _ <;> (try (exfalso; first | contradiction | omega | (rename_i hz; with_reducible exact absurd rfl hz))))
    | (with_reducible refine spB_beq ?_ ?_ <;> intro _ <;> (try (exfalso; first | contradiction | omega | (rename_i hz; with_reducible exact absurd rfl hz))))
    | (with_reducible refine spB_bne ?_ ?_ <;> intro _ <;> (try (exfalso; first | contradiction | omega | (rename_i hz; with_reducible exact absurd rfl hz))))
    | (with_reducible refine spB_mk ?_ ?_ <;> intro _ <;> (try (exfalso; first | contradiction | omega | (rename_i hz; with_reducible exact absurd rfl hz))))
    | ((with_reducible refine slN_hi (min (fw l).length 40) ?_ ?_ ?_); (focus ((try simp only [List.length_map]); omega)); (focus ((try simp only [List.length_map]); omega)); simp only [tk_eq])
    | ((with_reducible refine posE_pos ?_ ?_); (focus ((try simp only [List.length_replicate, List.length_map, List.length_append, List.length_nil, List.length_cons, maxLen] at *); omega)))
    | ((with_reducible apply rowN_mk); (focus rfl))
    | ((with_reducible refine ixN_mk 0 ?_ ?_ ?_); (focus rfl); (focus (exact Nat.le_of_ble_eq_true rfl)))
    | ((with_reducible refine ixN_mk 1 ?_ ?_ ?_); (focus rfl); (focus (exact Nat.le_of_ble_eq_true rfl)))
    | ((with_reducible refine ixN_mk 2 ?_ ?_ ?_); (focus rfl); (focus (exact Nat.le_of_ble_eq_true rfl)))
    | ((with_reducible refine ixN_mk 3 ?_ ?_ ?_); (focus rfl); (focus (exact Nat.le_of_ble_eq_true rfl)))
    | ((with_reducible refine ixN_mk 4 ?_ ?_ ?_); (focus rfl); (focus (exact Nat.le_of_ble_eq_true rfl)))
    | ((with_reducible refine ixN_mk 5 ?_ ?_ ?_); (focus rfl); (focus (exact Nat.le_of_ble_eq_true rfl)))
    | ((with_reducible refine ixN_mk 6 ?_ ?_ ?_); (focus rfl); (focus (exact Nat.le_of_ble_eq_true rfl)))
    | ((with_reducible refine ixN_mk 7 ?_ ?_ ?_); (focus rfl); (focus (exact Nat.le_of_ble_eq_true rfl)))
    | ((with_reducible refine eqN_mk2 ?_ ?_); (focus rfl))
    | ((with_reducible refine posN_mk2 ?_ ?_); (focus (first | decide | ((try simp only [List.length_replicate, List.length_map, List.length_append, List.length_nil, List.length_cons, maxLen] at *); omega))))
    | ((with_reducible refine apdN.mk ?_ ?_ ?_ ?_ ?_ ?_); (focus (first | rfl | (simp; done))); (focus (first | exact one_all (by rfl) | exact one_map (fun _ => rfl) | exact one_map2 (fun _ => rfl))); (focus ((try simp only [List.length_replicate, List.length_map, List.length_append, List.length_nil, List.length_cons, maxLen] at *); omega)); (focus ((try simp only [List.length_replicate, List.length_map, List.length_append, List.length_nil, List.length_cons, maxLen] at *); omega)); (focus ((try simp only [List.length_replicate, List.length_map, List.length_append, List.length_nil, List.length_cons, maxLen] at *); omega)))
    | ((with_reducible refine cpyN.mk ?_ ?_ ?_ ?_); (focus (first | rfl | (simp; done))); (focus (first | exact one_all (by rfl) | exact one_map (fun _ => rfl) | exact one_map2 (fun _ => rfl))); (focus ((try simp only [List.length_replicate, List.length_map, List.length_append, List.length_nil, List.length_cons, maxLen] at *); omega)))
    | with_reducible refine wr_i64 (by first | omega | (simp only [List.length_map] at *; omega)) ?_
    | with_reducible refine wr_u64 (by omega) ?_
    | with_reducible refine wr_u8 (by omega) ?_
    | with_reducible refine wr_u32 (by omega) ?_
    | with_reducible refine wr_mk _ rfl ?_
    | ((with_reducible refine ixN_nat ?_ ?_); (focus ((try simp only [List.length_map] at *); omega)))
    | ((with_reducible refine rowN_map ?_ ?_); (focus ((try simp only [List.length_map] at *); omega)); intro x hx)
    | ((with_reducible refine ixN_mk 0 ?_ ?_ ?_); (focus rfl); (focus decide))
    | ((with_reducible refine ixN_mk 1 ?_ ?_ ?_); (focus rfl); (focus decide))
    | ((with_reducible refine ixN_mk 2 ?_ ?_ ?_); (focus rfl); (focus decide))
    | ((with_reducible refine ixN_mk 3 ?_ ?_ ?_); (focus rfl); (focus decide))
    | ((with_reducible refine ixN_mk 4 ?_ ?_ ?_); (focus rfl); (focus decide))
    | ((with_reducible refine ixN_mk 5 ?_ ?_ ?_); (focus rfl); (focus decide))
    | ((with_reducible refine ixN_mk 6 ?_ ?_ ?_); (focus rfl); (focus decide))
    | ((with_reducible refine ixN_mk 7 ?_ ?_ ?_); (focus rfl); (focus decide))
    | ((with_reducible refine posE_nil (by rfl) ?_))
    | ((with_reducible refine posE_pos (by decide) ?_))
    | with_reducible refine vN_mod (by omega) ?_
    | with_reducible refine vN_mk ?_
    | with_reducible refine nzN_mk (by omega) ?_
    | with_reducible refine eqN_dec (by omega) ?_
    | with_reducible refine draw_rule tabOk mixOk ?_
    | with_reducible refine apN_mk (by kernel_rfl) ?_
    | ((with_reducible apply conN_mk2 ?_ (wakes_con) ?_);(first | (focus exact trivial)); skip)
    | ((with_reducible apply call_con2 ?_ (wakes_con) ?_);(first | (focus exact trivial)); rintro _ _ _ ⟨rfl, rfl, rfl⟩)
    | ((with_reducible apply conN_mk2 ?_ (few_con _ hl) ?_);(first | (focus exact ⟨rfl, trivial⟩) | (rotate_left 1; (focus exact ⟨rfl, trivial⟩))); skip)
    | ((with_reducible apply call_con2 ?_ (few_con _ hl) ?_);(first | (focus exact ⟨rfl, trivial⟩) | (rotate_left 1; (focus exact ⟨rfl, trivial⟩))); rintro _ _ _ ⟨rfl, rfl, rfl⟩)
    | ((with_reducible apply conN_mk2 ?_ (mod_con _ _) ?_);(first | (focus exact ⟨rfl, rfl, trivial⟩) | (rotate_left 1; (focus exact ⟨rfl, rfl, trivial⟩)) | (rotate_left 2; (focus exact ⟨rfl, rfl, trivial⟩))); skip)
    | ((with_reducible apply call_con2 ?_ (mod_con _ _) ?_);(first | (focus exact ⟨rfl, rfl, trivial⟩) | (rotate_left 1; (focus exact ⟨rfl, rfl, trivial⟩)) | (rotate_left 2; (focus exact ⟨rfl, rfl, trivial⟩))); rintro _ _ _ ⟨rfl, rfl, rfl⟩)
    | ((with_reducible apply conN_mk2 ?_ (c5) ?_);(first | (focus exact ⟨⟨rfl, rfl, ⟨[eI 0], rfl, rfl, rfl⟩, rfl, rfl, trivial⟩, ⟨rfl, rfl, trivial⟩, rfl, trivial⟩)); skip)
    | ((with_reducible apply call_con2 ?_ (c5) ?_);(first | (focus exact ⟨⟨rfl, rfl, ⟨[eI 0], rfl, rfl, rfl⟩, rfl, rfl, trivial⟩, ⟨rfl, rfl, trivial⟩, rfl, trivial⟩)); rintro _ _ _ ⟨rfl, rfl, rfl⟩)
    | ((with_reducible apply conN_mk2 ?_ (c4) ?_);(first | (focus exact ⟨⟨rfl, rfl, ⟨[eI 0], rfl, rfl, rfl⟩, rfl, rfl, trivial⟩, ⟨rfl, rfl, trivial⟩, rfl, trivial⟩)); skip)
    | ((with_reducible apply call_con2 ?_ (c4) ?_);(first | (focus exact ⟨⟨rfl, rfl, ⟨[eI 0], rfl, rfl, rfl⟩, rfl, rfl, trivial⟩, ⟨rfl, rfl, trivial⟩, rfl, trivial⟩)); rintro _ _ _ ⟨rfl, rfl, rfl⟩))
  all_goals (try (conv => whnf))
  generalize hAA : 1 + modE a0 8 = A at *
  have hol : ((fs 5 A 0 (0, 0) (f40 l)).2).length ≤ 40 := Nat.le_trans (fs_len _) hLen
  refine loop_rule tabOk (fun q : Nat × Int => ⟨[(56, .val (.int .i64 (q.1 : Int))), (55, .val (.int .i64 ((((fs 5 A 0 (0, 0) (f40 l)).2).map eI).length : Nat))), (54, .c (.ro true 1 (((fs 5 A 0 (0, 0) (f40 l)).2).map eI))), (14, .val (.int .i64 q.2)), (13, .val (.int .i64 0)), (12, .c (.ro true 1 (((fs 4 0 0 (0, 0) (f40 l)).2).map eI))), (11, .c (.own 0 0 0)), (10, .val (.int .i64 0)), (5, .c (.ro true 1 (((f40 l)).map eI)))], [(0, some ⟨[[.v (.int .i64 (fs 4 0 0 (0, 0) (f40 l)).1.1), .v (.int .i64 (fs 4 0 0 (0, 0) (f40 l)).1.2)]], 2, 29, true⟩)], 1⟩) (fun q => q.1 ≤ ((fs 5 A 0 (0, 0) (f40 l)).2).length ∧ W q.2 = q.2 ∧ W q.2 = W ((fs 5 A 0 (0, 0) (f40 l)).1.2 + lsum (((fs 5 A 0 (0, 0) (f40 l)).2).take q.1))) (fun q => ((fs 5 A 0 (0, 0) (f40 l)).2).length - q.1) (0, (fs 5 A 0 (0, 0) (f40 l)).1.2) ⟨Nat.zero_le _, ?_, by simp [lsum]⟩ (Wk.stp (l := [5]) ⟨rfl, by decide, rfl, Nat.zero_le _, ⟨rfl, rfl, rfl, rfl, rfl, rfl, rfl, rfl, rfl, trivial⟩, ⟨fun b hb => by cases hb; rfl, trivial⟩⟩) ?_
  · have := (fs5 (a := A) (l := (f40 l)) ((f40 l)).length (Nat.le_refl _)).1
    rwa [List.take_length] at this
  rintro ⟨i, sm⟩ ⟨hi, hs1, hs2⟩
  dsimp only at hi hs1 hs2 ⊢
  repeat' ((conv => whnf); first
    | with_reducible refine spB_t ?_
    | ((with_reducible apply spB_cong); (focus (simp only [beq_self_eq_true, bne_self_eq_false, Bool.true_bne, Bool.false_bne, Bool.bne_true, Bool.bne_false, Bool.true_beq, Bool.false_beq, Bool.not_true, Bool.not_false, Bool.not_not, Int.reduceBEq, Int.reduceBNe, Int.reduceLE, Int.reduceLT, Int.reduceEq, decide_true, decide_false]; rfl)))
    | with_reducible refine spB_yes (by decide) ?_
    | with_reducible refine spB_no (by decide) ?_
    | with_reducible refine spB_f ?_
    | with_reducible refine spB_not ?_
    | with_reducible refine spB_yes (by assumption) ?_
    | with_reducible refine spB_no (by assumption) ?_
    | (with_reducible refine spB_dec ?_ ?_ <;> intro _ <;> (try (exfalso; first | contradiction | omega | (rename_i hz; with_reducible exact absurd rfl hz))))
    | (with_reducible refine spB_beq ?_ ?_ <;> intro _ <;> (try (exfalso; first | contradiction | omega | (rename_i hz; with_reducible exact absurd rfl hz))))
    | (with_reducible refine spB_bne ?_ ?_ <;> intro _ <;> (try (exfalso; first | contradiction | omega | (rename_i hz; with_reducible exact absurd rfl hz))))
    | (with_reducible refine spB_mk ?_ ?_ <;> intro _ <;> (try (exfalso; first | contradiction | omega | (rename_i hz; with_reducible exact absurd rfl hz))))
    | ((with_reducible refine posE_pos ?_ ?_); (focus ((try simp only [List.length_replicate, List.length_map, List.length_append, List.length_nil, List.length_cons, maxLen] at *); omega)))
    | ((with_reducible apply rowN_mk); (focus rfl))
    | ((with_reducible refine ixN_mk 0 ?_ ?_ ?_); (focus rfl); (focus (exact Nat.le_of_ble_eq_true rfl)))
    | ((with_reducible refine ixN_mk 1 ?_ ?_ ?_); (focus rfl); (focus (exact Nat.le_of_ble_eq_true rfl)))
    | ((with_reducible refine ixN_mk 2 ?_ ?_ ?_); (focus rfl); (focus (exact Nat.le_of_ble_eq_true rfl)))
    | ((with_reducible refine ixN_mk 3 ?_ ?_ ?_); (focus rfl); (focus (exact Nat.le_of_ble_eq_true rfl)))
    | ((with_reducible refine ixN_mk 4 ?_ ?_ ?_); (focus rfl); (focus (exact Nat.le_of_ble_eq_true rfl)))
    | ((with_reducible refine ixN_mk 5 ?_ ?_ ?_); (focus rfl); (focus (exact Nat.le_of_ble_eq_true rfl)))
    | ((with_reducible refine ixN_mk 6 ?_ ?_ ?_); (focus rfl); (focus (exact Nat.le_of_ble_eq_true rfl)))
    | ((with_reducible refine ixN_mk 7 ?_ ?_ ?_); (focus rfl); (focus (exact Nat.le_of_ble_eq_true rfl)))
    | ((with_reducible refine eqN_mk2 ?_ ?_); (focus rfl))
    | ((with_reducible refine posN_mk2 ?_ ?_); (focus (first | decide | ((try simp only [List.length_replicate, List.length_map, List.length_append, List.length_nil, List.length_cons, maxLen] at *); omega))))
    | ((with_reducible refine apdN.mk ?_ ?_ ?_ ?_ ?_ ?_); (focus (first | rfl | (simp; done))); (focus (first | exact one_all (by rfl) | exact one_map (fun _ => rfl) | exact one_map2 (fun _ => rfl))); (focus ((try simp only [List.length_replicate, List.length_map, List.length_append, List.length_nil, List.length_cons, maxLen] at *); omega)); (focus ((try simp only [List.length_replicate, List.length_map, List.length_append, List.length_nil, List.length_cons, maxLen] at *); omega)); (focus ((try simp only [List.length_replicate, List.length_map, List.length_append, List.length_nil, List.length_cons, maxLen] at *); omega)))
    | ((with_reducible refine cpyN.mk ?_ ?_ ?_ ?_); (focus (first | rfl | (simp; done))); (focus (first | exact one_all (by rfl) | exact one_map (fun _ => rfl) | exact one_map2 (fun _ => rfl))); (focus ((try simp only [List.length_replicate, List.length_map, List.length_append, List.length_nil, List.length_cons, maxLen] at *); omega)))
    | with_reducible refine wr_i64 (by first | omega | (simp only [List.length_map] at *; omega)) ?_
    | with_reducible refine wr_u64 (by omega) ?_
    | with_reducible refine wr_u8 (by omega) ?_
    | with_reducible refine wr_u32 (by omega) ?_
    | with_reducible refine wr_mk _ rfl ?_
    | ((with_reducible refine ixN_nat ?_ ?_); (focus ((try simp only [List.length_map] at *); omega)))
    | ((with_reducible refine rowN_map ?_ ?_); (focus ((try simp only [List.length_map] at *); omega)); intro x hx)
    | ((with_reducible refine ixN_mk 0 ?_ ?_ ?_); (focus rfl); (focus decide))
    | ((with_reducible refine ixN_mk 1 ?_ ?_ ?_); (focus rfl); (focus decide))
    | ((with_reducible refine ixN_mk 2 ?_ ?_ ?_); (focus rfl); (focus decide))
    | ((with_reducible refine ixN_mk 3 ?_ ?_ ?_); (focus rfl); (focus decide))
    | ((with_reducible refine ixN_mk 4 ?_ ?_ ?_); (focus rfl); (focus decide))
    | ((with_reducible refine ixN_mk 5 ?_ ?_ ?_); (focus rfl); (focus decide))
    | ((with_reducible refine ixN_mk 6 ?_ ?_ ?_); (focus rfl); (focus decide))
    | ((with_reducible refine ixN_mk 7 ?_ ?_ ?_); (focus rfl); (focus decide))
    | ((with_reducible refine posE_nil (by rfl) ?_))
    | ((with_reducible refine posE_pos (by decide) ?_))
    | with_reducible refine vN_mod (by omega) ?_
    | with_reducible refine vN_mk ?_
    | with_reducible refine nzN_mk (by omega) ?_
    | with_reducible refine eqN_dec (by omega) ?_
    | with_reducible refine draw_rule tabOk mixOk ?_
    | with_reducible refine apN_mk (by kernel_rfl) ?_
    | ((with_reducible apply conN_mk2 ?_ (wakes_con) ?_);(first | (focus exact trivial)); skip)
    | ((with_reducible apply call_con2 ?_ (wakes_con) ?_);(first | (focus exact trivial)); rintro _ _ _ ⟨rfl, rfl, rfl⟩)
    | ((with_reducible apply conN_mk2 ?_ (few_con _ hl) ?_);(first | (focus exact ⟨rfl, trivial⟩) | (rotate_left 1; (focus exact ⟨rfl, trivial⟩))); skip)
    | ((with_reducible apply call_con2 ?_ (few_con _ hl) ?_);(first | (focus exact ⟨rfl, trivial⟩) | (rotate_left 1; (focus exact ⟨rfl, trivial⟩))); rintro _ _ _ ⟨rfl, rfl, rfl⟩)
    | ((with_reducible apply conN_mk2 ?_ (mod_con _ _) ?_);(first | (focus exact ⟨rfl, rfl, trivial⟩) | (rotate_left 1; (focus exact ⟨rfl, rfl, trivial⟩)) | (rotate_left 2; (focus exact ⟨rfl, rfl, trivial⟩))); skip)
    | ((with_reducible apply call_con2 ?_ (mod_con _ _) ?_);(first | (focus exact ⟨rfl, rfl, trivial⟩) | (rotate_left 1; (focus exact ⟨rfl, rfl, trivial⟩)) | (rotate_left 2; (focus exact ⟨rfl, rfl, trivial⟩))); rintro _ _ _ ⟨rfl, rfl, rfl⟩)
    | ((with_reducible apply conN_mk2 ?_ (c5) ?_);(first | (focus exact ⟨⟨rfl, rfl, ⟨[eI 0], rfl, rfl, rfl⟩, rfl, rfl, trivial⟩, ⟨rfl, rfl, trivial⟩, rfl, trivial⟩)); skip)
    | ((with_reducible apply call_con2 ?_ (c5) ?_);(first | (focus exact ⟨⟨rfl, rfl, ⟨[eI 0], rfl, rfl, rfl⟩, rfl, rfl, trivial⟩, ⟨rfl, rfl, trivial⟩, rfl, trivial⟩)); rintro _ _ _ ⟨rfl, rfl, rfl⟩)
    | ((with_reducible apply conN_mk2 ?_ (c4) ?_);(first | (focus exact ⟨⟨rfl, rfl, ⟨[eI 0], rfl, rfl, rfl⟩, rfl, rfl, trivial⟩, ⟨rfl, rfl, trivial⟩, rfl, trivial⟩)); skip)
    | ((with_reducible apply call_con2 ?_ (c4) ?_);(first | (focus exact ⟨⟨rfl, rfl, ⟨[eI 0], rfl, rfl, rfl⟩, rfl, rfl, trivial⟩, ⟨rfl, rfl, trivial⟩, rfl, trivial⟩)); rintro _ _ _ ⟨rfl, rfl, rfl⟩))
  all_goals (try (conv => whnf))
  · refine ⟨⟨(i + 1, IntKind.i64.wrap (sm + x)), ⟨by (try simp only [List.length_map] at *); omega, ?_, ?_⟩, by (try simp only [List.length_map] at *); (try dsimp only); omega, (Wk.stp (l := [0]) ⟨rfl, by decide, rfl, Nat.zero_le _, ⟨rfl, rfl, rfl, rfl, rfl, rfl, rfl, rfl, rfl, trivial⟩, ⟨fun b hb => by cases hb; rfl, trivial⟩⟩)⟩⟩
    · show W (W (sm + x)) = W (sm + x); simp only [W_def]; omega
    · show W (W (sm + x)) = _; dsimp only; rw [lsum_step hx]; simp only [W_def] at *; omega
  · exfalso
    have hend : i = ((fs 5 A 0 (0, 0) (f40 l)).2).length := by (try simp only [List.length_map] at *); omega
    rw [hend, List.take_length] at hs2
    exact ‹¬ sm = _› (sum_eq hs1 hs2)
  · exfalso
    exact ‹¬ ((List.length _ : Nat) : Int) = _› (by simp only [List.length_map]; rw [red_len])
  refine loop_rule tabOk (fun i : Nat => ⟨[(85, .val (.int .i64 (i : Int))), (84, .val (.int .i64 ((((fs 4 0 0 (0, 0) (f40 l)).2).map eI).length : Nat))), (83, .c (.ro true 1 (((fs 4 0 0 (0, 0) (f40 l)).2).map eI))), (12, .c (.ro true 1 (((fs 4 0 0 (0, 0) (f40 l)).2).map eI))), (5, .c (.ro true 1 (((f40 l)).map eI)))], [], 0⟩) (fun i => i ≤ ((fs 4 0 0 (0, 0) (f40 l)).2).length) (fun i => ((fs 4 0 0 (0, 0) (f40 l)).2).length - i) 0 (Nat.zero_le _) (Wk.stp (l := []) ⟨rfl, List.nodup_nil, rfl, Nat.zero_le _, ⟨rfl, rfl, rfl, rfl, rfl, trivial⟩, trivial⟩) ?_
  intro i hi
  dsimp only
  repeat' ((conv => whnf); first
    | with_reducible refine spB_t ?_
    | ((with_reducible apply spB_cong); (focus (simp only [beq_self_eq_true, bne_self_eq_false, Bool.true_bne, Bool.false_bne, Bool.bne_true, Bool.bne_false, Bool.true_beq, Bool.false_beq, Bool.not_true, Bool.not_false, Bool.not_not, Int.reduceBEq, Int.reduceBNe, Int.reduceLE, Int.reduceLT, Int.reduceEq, decide_true, decide_false]; rfl)))
    | with_reducible refine spB_yes (by decide) ?_
    | with_reducible refine spB_no (by decide) ?_
    | with_reducible refine spB_f ?_
    | with_reducible refine spB_not ?_
    | with_reducible refine spB_yes (by assumption) ?_
    | with_reducible refine spB_no (by assumption) ?_
    | (with_reducible refine spB_dec ?_ ?_ <;> intro _ <;> (try (exfalso; first | contradiction | omega | (rename_i hz; with_reducible exact absurd rfl hz))))
    | (with_reducible refine spB_beq ?_ ?_ <;> intro _ <;> (try (exfalso; first | contradiction | omega | (rename_i hz; with_reducible exact absurd rfl hz))))
    | (with_reducible refine spB_bne ?_ ?_ <;> intro _ <;> (try (exfalso; first | contradiction | omega | (rename_i hz; with_reducible exact absurd rfl hz))))
    | (with_reducible refine spB_mk ?_ ?_ <;> intro _ <;> (try (exfalso; first | contradiction | omega | (rename_i hz; with_reducible exact absurd rfl hz))))
    | ((with_reducible refine ixN_mk (i - 1) ?_ ?_ ?_); (focus omega); (focus ((try simp only [List.length_take, List.length_drop, List.length_map, List.length_nil, maxLen] at *); omega)))
    | ((with_reducible refine rowN_map (xs := (fs 4 0 0 (0, 0) (f40 l)).2) (i := i - 1) ?_ ?_); (focus ((try simp only [List.length_take, List.length_drop, List.length_map, List.length_nil, maxLen] at *); omega)); intro y hy; have hyy := redg1 hy (by omega))
    | ((with_reducible refine rowN_map (xs := (f40 l)) ?_ ?_); (focus ((try simp only [red_len] at *); (try simp only [List.length_take, List.length_drop, List.length_map, List.length_nil, maxLen] at *); omega)); intro z hz; have hzz := lw hw hz)
    | ((with_reducible refine posE_pos ?_ ?_); (focus ((try simp only [List.length_replicate, List.length_map, List.length_append, List.length_nil, List.length_cons, maxLen] at *); omega)))
    | ((with_reducible apply rowN_mk); (focus rfl))
    | ((with_reducible refine ixN_mk 0 ?_ ?_ ?_); (focus rfl); (focus (exact Nat.le_of_ble_eq_true rfl)))
    | ((with_reducible refine ixN_mk 1 ?_ ?_ ?_); (focus rfl); (focus (exact Nat.le_of_ble_eq_true rfl)))
    | ((with_reducible refine ixN_mk 2 ?_ ?_ ?_); (focus rfl); (focus (exact Nat.le_of_ble_eq_true rfl)))
    | ((with_reducible refine ixN_mk 3 ?_ ?_ ?_); (focus rfl); (focus (exact Nat.le_of_ble_eq_true rfl)))
    | ((with_reducible refine ixN_mk 4 ?_ ?_ ?_); (focus rfl); (focus (exact Nat.le_of_ble_eq_true rfl)))
    | ((with_reducible refine ixN_mk 5 ?_ ?_ ?_); (focus rfl); (focus (exact Nat.le_of_ble_eq_true rfl)))
    | ((with_reducible refine ixN_mk 6 ?_ ?_ ?_); (focus rfl); (focus (exact Nat.le_of_ble_eq_true rfl)))
    | ((with_reducible refine ixN_mk 7 ?_ ?_ ?_); (focus rfl); (focus (exact Nat.le_of_ble_eq_true rfl)))
    | ((with_reducible refine eqN_mk2 ?_ ?_); (focus rfl))
    | ((with_reducible refine posN_mk2 ?_ ?_); (focus (first | decide | ((try simp only [List.length_replicate, List.length_map, List.length_append, List.length_nil, List.length_cons, maxLen] at *); omega))))
    | ((with_reducible refine apdN.mk ?_ ?_ ?_ ?_ ?_ ?_); (focus (first | rfl | (simp; done))); (focus (first | exact one_all (by rfl) | exact one_map (fun _ => rfl) | exact one_map2 (fun _ => rfl))); (focus ((try simp only [List.length_replicate, List.length_map, List.length_append, List.length_nil, List.length_cons, maxLen] at *); omega)); (focus ((try simp only [List.length_replicate, List.length_map, List.length_append, List.length_nil, List.length_cons, maxLen] at *); omega)); (focus ((try simp only [List.length_replicate, List.length_map, List.length_append, List.length_nil, List.length_cons, maxLen] at *); omega)))
    | ((with_reducible refine cpyN.mk ?_ ?_ ?_ ?_); (focus (first | rfl | (simp; done))); (focus (first | exact one_all (by rfl) | exact one_map (fun _ => rfl) | exact one_map2 (fun _ => rfl))); (focus ((try simp only [List.length_replicate, List.length_map, List.length_append, List.length_nil, List.length_cons, maxLen] at *); omega)))
    | with_reducible refine wr_i64 (by first | omega | (simp only [List.length_map] at *; omega)) ?_
    | with_reducible refine wr_u64 (by omega) ?_
    | with_reducible refine wr_u8 (by omega) ?_
    | with_reducible refine wr_u32 (by omega) ?_
    | with_reducible refine wr_mk _ rfl ?_
    | ((with_reducible refine ixN_nat ?_ ?_); (focus ((try simp only [List.length_map] at *); omega)))
    | ((with_reducible refine rowN_map ?_ ?_); (focus ((try simp only [List.length_map] at *); omega)); intro x hx; have hxx := redg hx)
    | ((with_reducible refine ixN_mk 0 ?_ ?_ ?_); (focus rfl); (focus decide))
    | ((with_reducible refine ixN_mk 1 ?_ ?_ ?_); (focus rfl); (focus decide))
    | ((with_reducible refine ixN_mk 2 ?_ ?_ ?_); (focus rfl); (focus decide))
    | ((with_reducible refine ixN_mk 3 ?_ ?_ ?_); (focus rfl); (focus decide))
    | ((with_reducible refine ixN_mk 4 ?_ ?_ ?_); (focus rfl); (focus decide))
    | ((with_reducible refine ixN_mk 5 ?_ ?_ ?_); (focus rfl); (focus decide))
    | ((with_reducible refine ixN_mk 6 ?_ ?_ ?_); (focus rfl); (focus decide))
    | ((with_reducible refine ixN_mk 7 ?_ ?_ ?_); (focus rfl); (focus decide))
    | ((with_reducible refine posE_nil (by rfl) ?_))
    | ((with_reducible refine posE_pos (by decide) ?_))
    | with_reducible refine vN_mod (by omega) ?_
    | with_reducible refine vN_mk ?_
    | with_reducible refine nzN_mk (by omega) ?_
    | with_reducible refine eqN_dec (by omega) ?_
    | with_reducible refine draw_rule tabOk mixOk ?_
    | with_reducible refine apN_mk (by kernel_rfl) ?_
    | ((with_reducible apply conN_mk2 ?_ (wakes_con) ?_);(first | (focus exact trivial)); skip)
    | ((with_reducible apply call_con2 ?_ (wakes_con) ?_);(first | (focus exact trivial)); rintro _ _ _ ⟨rfl, rfl, rfl⟩)
    | ((with_reducible apply conN_mk2 ?_ (few_con _ hl) ?_);(first | (focus exact ⟨rfl, trivial⟩) | (rotate_left 1; (focus exact ⟨rfl, trivial⟩))); skip)
    | ((with_reducible apply call_con2 ?_ (few_con _ hl) ?_);(first | (focus exact ⟨rfl, trivial⟩) | (rotate_left 1; (focus exact ⟨rfl, trivial⟩))); rintro _ _ _ ⟨rfl, rfl, rfl⟩)
    | ((with_reducible apply conN_mk2 ?_ (mod_con _ _) ?_);(first | (focus exact ⟨rfl, rfl, trivial⟩) | (rotate_left 1; (focus exact ⟨rfl, rfl, trivial⟩)) | (rotate_left 2; (focus exact ⟨rfl, rfl, trivial⟩))); skip)
    | ((with_reducible apply call_con2 ?_ (mod_con _ _) ?_);(first | (focus exact ⟨rfl, rfl, trivial⟩) | (rotate_left 1; (focus exact ⟨rfl, rfl, trivial⟩)) | (rotate_left 2; (focus exact ⟨rfl, rfl, trivial⟩))); rintro _ _ _ ⟨rfl, rfl, rfl⟩)
    | ((with_reducible apply conN_mk2 ?_ (c5) ?_);(first | (focus exact ⟨⟨rfl, rfl, ⟨[eI 0], rfl, rfl, rfl⟩, rfl, rfl, trivial⟩, ⟨rfl, rfl, trivial⟩, rfl, trivial⟩)); skip)
    | ((with_reducible apply call_con2 ?_ (c5) ?_);(first | (focus exact ⟨⟨rfl, rfl, ⟨[eI 0], rfl, rfl, rfl⟩, rfl, rfl, trivial⟩, ⟨rfl, rfl, trivial⟩, rfl, trivial⟩)); rintro _ _ _ ⟨rfl, rfl, rfl⟩)
    | ((with_reducible apply conN_mk2 ?_ (c4) ?_);(first | (focus exact ⟨⟨rfl, rfl, ⟨[eI 0], rfl, rfl, rfl⟩, rfl, rfl, trivial⟩, ⟨rfl, rfl, trivial⟩, rfl, trivial⟩)); skip)
    | ((with_reducible apply call_con2 ?_ (c4) ?_);(first | (focus exact ⟨⟨rfl, rfl, ⟨[eI 0], rfl, rfl, rfl⟩, rfl, rfl, trivial⟩, ⟨rfl, rfl, trivial⟩, rfl, trivial⟩)); rintro _ _ _ ⟨rfl, rfl, rfl⟩))
  all_goals (try (conv => whnf))
  all_goals first
    | (refine ⟨⟨i + 1, by (try simp only [List.length_map] at *); omega, by (try simp only [List.length_map] at *); omega, (Wk.stp (l := []) ⟨rfl, List.nodup_nil, rfl, Nat.zero_le _, ⟨rfl, rfl, rfl, rfl, rfl, trivial⟩, trivial⟩)⟩⟩)
    | (refine ret0 _ rfl _ rfl (fun _ => rfl) rfl ⟨?_, rfl, rfl⟩; rfl)
    | (exfalso; subst hyy; subst hxx; rw [hzz.2] at *; exact absurd (sub_ok hzz.1) (by assumption))
    | (exfalso; exact absurd (fin0 (by omega) hxx hzz) (by assumption))
    | (trace_state; sorry)
end Go.Proofs.Ytibjpohankaoeaa
