import Derived.Test.YtibjpohankaoeaaEq0
import Derived.Test.YtibjpohankaoeaaRu3
namespace Go.Proofs.Ytibjpohankaoeaa
open Go Go.RowKit Wx
set_option linter.unusedVariables false
set_option linter.unusedSimpArgs false
set_option maxHeartbeats 4000000
theorem blk_any {K : Kr} {r : Nat → Nat} {j sz : Nat} {ty : TypeId} {bx : Bool} {rows rows' : List (List Ce)} (h : kg K (r j) = some ⟨rows', sz, ty, bx⟩) (e : rows' = rows) (hf : rows.map (List.map (Ce.ren r)) = rows) : ∀ b', some (⟨rows, sz, ty, bx⟩ : Blk) = some b' → kg K (r j) = some (b'.ren r) := fun b' hb => by
  cases hb
  rw [h, e]
  unfold Blk.ren
  rw [hf]
theorem fs_3 {a b : Int} : ∀ {l : List Int} {c : Int × Int}, (fs 3 a b c l).1 = c ∧ ∀ v ∈ (fs 3 a b c l).2, modE v a = b ∧ v ∈ l
  | [], c => ⟨rfl, fun v hv => by simp [fs] at hv⟩
  | x :: l, c => by
    rw [fs_cons]
    obtain ⟨c1, c2⟩ := c
    by_cases h : modE x a = b
    · rw [stp3y h]
      obtain ⟨h1, h2⟩ := fs_3 (a := a) (b := b) (l := l) (c := (c1, c2))
      refine ⟨h1, fun v hv => ?_⟩
      simp only [List.cons_append, List.nil_append, List.mem_cons] at hv
      rcases hv with rfl | hv
      · exact ⟨h, List.mem_cons_self⟩
      · exact ⟨(h2 v hv).1, List.mem_cons_of_mem _ (h2 v hv).2⟩
    · rw [stp3n h]
      obtain ⟨h1, h2⟩ := fs_3 (a := a) (b := b) (l := l) (c := (c1, c2))
      refine ⟨h1, fun v hv => ?_⟩
      simp only [List.nil_append] at hv
      exact ⟨(h2 v hv).1, List.mem_cons_of_mem _ (h2 v hv).2⟩
theorem fs_4 {a b : Int} : ∀ {l : List Int} {c : Int × Int}, (fs 4 a b c l).1.1 = c.1 + l.length ∧ (fs 4 a b c l).2.length = l.length
  | [], c => by simp [fs]
  | x :: l, c => by
    rw [fs_cons]
    obtain ⟨h1, h2⟩ := fs_4 (a := a) (b := b) (l := l) (c := (stp 4 a b c x).1)
    rw [h1, List.length_append, h2]
    simp only [stp, if_neg (show ¬ (4 : Int) = 2 by decide), if_neg (show ¬ (4 : Int) = 3 by decide), if_true, List.length_cons, List.length_singleton, List.length_nil]
    omega
theorem fs_5 {a b : Int} : ∀ {l : List Int} {c s : Int}, 0 ≤ c → c < a → (((fs 5 a b (c, s) l).2.length : Nat) : Int) = (c + l.length) / a ∧ (fs 5 a b (c, s) l).1.1 = (c + l.length) % a
  | [], c, s, h0, h1 => by
    simp only [fs, List.foldl_nil, List.length_nil, Int.ofNat_zero, Int.add_zero]
    exact ⟨(Int.ediv_eq_zero_of_lt h0 h1).symm, (Int.emod_eq_of_lt h0 h1).symm⟩
  | x :: l, c, s, h0, h1 => by
    rw [fs_cons]
    by_cases h : c + 1 < a
    · rw [stp5y h]
      obtain ⟨e1, e2⟩ := fs_5 (a := a) (b := b) (l := l) (c := c + 1) (s := IntKind.i64.wrap (s + x)) (by omega) h
      simp only [List.nil_append, List.length_cons]
      rw [e1, e2, show c + 1 + (l.length : Int) = c + ((l.length + 1 : Nat) : Int) by omega]
      exact ⟨rfl, rfl⟩
    · rw [stp5n h]
      obtain ⟨e1, e2⟩ := fs_5 (a := a) (b := b) (l := l) (c := 0) (s := 0) (by omega) (by omega)
      simp only [List.cons_append, List.nil_append, List.length_cons]
      have hc : c + ((l.length + 1 : Nat) : Int) = (0 + (l.length : Int)) + a := by omega
      have hd := Int.add_mul_ediv_right (0 + (l.length : Int)) 1 (show a ≠ 0 by omega)
      have hm := Int.add_mul_emod_self_right (0 + (l.length : Int)) 1 a
      rw [Int.one_mul] at hd hm
      rw [hc, hd, hm, ← e1, ← e2]
      exact ⟨by omega, rfl⟩
theorem fs_o {t a b : Int} (h3 : t ≠ 3) (h4 : t ≠ 4) (h5 : t ≠ 5) : ∀ {l : List Int} {c : Int × Int}, (fs t a b c l).1 = c ∧ (fs t a b c l).2.length = l.length
  | [], c => ⟨rfl, rfl⟩
  | x :: l, c => by
    rw [fs_cons]
    have hs : (stp t a b c x).1 = c ∧ (stp t a b c x).2.length = 1 := by
      unfold stp
      rw [if_neg h3, if_neg h4, if_neg h5]
      split <;> exact ⟨rfl, rfl⟩
    obtain ⟨h1, h2⟩ := fs_o (a := a) (b := b) h3 h4 h5 (l := l) (c := (stp t a b c x).1)
    rw [h1, List.length_append, h2, hs.1, hs.2]
    exact ⟨rfl, by simp only [List.length_cons]; omega⟩
theorem runF_bad {t w a b c s : Int} {ins l : List Int} (h : (runF t w ins a b c s l).2.2 ≠ 0) : ∃ e, e ≠ 0 ∧ runF t w ins a b c s l = ((0, 0), [], e) := by
  unfold runF runG at h ⊢
  repeat' split
  all_goals first | exact ⟨_, by decide, rfl⟩ | (exfalso; simp_all; done)
theorem runF_ok {t w a b c s : Int} {ins l : List Int} (h : (runF t w ins a b c s l).2.2 = 0) : l.length ≤ 40 ∧ okO t w ins a b = true ∧ fitP t a (c, s) ∧ fullB t a b (c, s) l = false ∧ runF t w ins a b c s l = ((fs t a b (c, s) l).1, (fs t a b (c, s) l).2, 0) := by
  by_cases h1 : 40 < l.length
  · unfold runF at h; rw [if_pos h1] at h; cases h
  by_cases h2 : okO t w ins a b = false
  · unfold runF at h; rw [if_neg h1, if_pos h2] at h; cases h
  by_cases h3 : fitP t a (c, s)
  · by_cases h4 : fullB t a b (c, s) l = true
    · unfold runF runG at h; rw [if_neg h1, if_neg h2, if_neg (not_not_intro h3), if_pos h4] at h; cases h
    · refine ⟨by omega, by simpa using h2, h3, by simpa using h4, ?_⟩
      unfold runF runG; rw [if_neg h1, if_neg h2, if_neg (not_not_intro h3), if_neg h4]
  · unfold runF at h; rw [if_neg h1, if_neg h2, if_pos h3] at h; cases h
theorem cnt_max {a b : Int} : ∀ {l : List Int} {c : Int × Int}, c.1 ≤ 9223372036854775807 → fullB 4 a b c l = false → c.1 + l.length ≤ 9223372036854775807
  | [], c, h, _ => by simpa using h
  | x :: l, c, h, hf => by
    unfold fullB at hf
    simp only [Bool.or_eq_false_iff, decide_eq_false_iff_not] at hf
    have := cnt_max (a := a) (b := b) (l := l) (c := (stp 4 a b c x).1) (by simp [stp]; omega) hf.2
    simp [stp] at this
    simp only [List.length_cons]
    omega
theorem wq {a n c : Int} {k : Nat} (h0 : 0 ≤ c) (h1 : 1 ≤ a ∧ a ≤ 8) (hn : 0 ≤ n ∧ n ≤ 50) (hc : c < a) (hk : (k : Int) = (c + n) / a) : IntKind.i64.wrap ((c + n).tdiv a) = (k : Int) := by
  rw [Int.tdiv_eq_ediv_of_nonneg (by omega), ← hk]
  have hkk : (k : Int) ≤ 60 := by
    rw [hk]
    have := Int.ediv_le_self a (show 0 ≤ c + n by omega)
    omega
  show W _ = _
  rw [W_def]; omega
theorem index_con (l : List Int) (v : Int) (hm : v ∈ l) (hl : l.length ≤ 9223372036854775807) : Con Try.prog 39 [.one (.ro false 1 (l.map eI)), .one (.v (.int .i64 v))] (fun rx rK rt => ∃ j : Nat, (rx = .val (.int .i64 (j : Int)) ∧ rK = [] ∧ rt = 0)) := by
  refine con_of tabOk 19 Try.f39 _ Try.func39 (by kernel_rfl) rfl rfl rfl rfl (fun W0 => ?_)
  repeat' ((conv => whnf); first
    | with_reducible refine spB_t ?_
    | ((with_reducible apply spB_cong); (focus (simp only [beq_self_eq_true, bne_self_eq_false, Bool.true_bne, Bool.false_bne, Bool.bne_true, Bool.bne_false, Bool.true_beq, Bool.false_beq, Bool.not_true, Bool.not_false, Bool.not_not, Int.reduceBEq, Int.reduceBNe, Int.reduceLE, Int.reduceLT, Int.reduceEq, decide_true, decide_false]; rfl)))
    | with_reducible refine spB_yes (by decide) ?_
    | with_reducible refine spB_no (by decide) ?_
    | with_reducible refine spB_f ?_
    | with_reducible refine spB_not ?_
    | with_reducible refine spB_yes (by assumption) ?_
    | with_reducible refine spB_no (by assumption) ?_
    | (with_reducible refine spB_dec ?_ ?_ <;> intro _ <;> (try (exfalso; first | contradiction | omega | (rename_i hz; with_reducible exact absurd rfl hz))))
    | (with_reducible refine spB_beq ?_ ?_ <;> intro _ <;> (try (exfalso; first | contradiction | omega | (rename_i hz; with_reducible exact absurd rfl hz))))
    | (with_reducible refine spB_bne ?_ ?_ <;> intro _ <;> (try (exfalso; first | contradiction | omega | (rename_i hz; with_reducible exact absurd rfl hz))))
    | (with_reducible refine spB_mk ?_ ?_ <;> intro _ <;> (try (exfalso; first | contradiction | omega | (rename_i hz; with_reducible exact absurd rfl hz))))
    | ((with_reducible refine posE_pos ?_ ?_); (focus ((try simp only [List.length_replicate, List.length_map, List.length_append, List.length_nil, List.length_cons, maxLen] at *); omega)))
    | ((with_reducible refine posE_nil ?_ ?_); (focus rfl))
    | ((with_reducible apply rowN_mk); (focus rfl))
    | ((with_reducible refine ixN_mk 0 ?_ ?_ ?_); (focus rfl); (focus (exact Nat.le_of_ble_eq_true rfl)))
    | ((with_reducible refine ixN_mk 1 ?_ ?_ ?_); (focus rfl); (focus (exact Nat.le_of_ble_eq_true rfl)))
    | ((with_reducible refine ixN_mk 2 ?_ ?_ ?_); (focus rfl); (focus (exact Nat.le_of_ble_eq_true rfl)))
    | ((with_reducible refine ixN_mk 3 ?_ ?_ ?_); (focus rfl); (focus (exact Nat.le_of_ble_eq_true rfl)))
    | ((with_reducible refine ixN_mk 4 ?_ ?_ ?_); (focus rfl); (focus (exact Nat.le_of_ble_eq_true rfl)))
    | ((with_reducible refine ixN_mk 5 ?_ ?_ ?_); (focus rfl); (focus (exact Nat.le_of_ble_eq_true rfl)))
    | ((with_reducible refine ixN_mk 6 ?_ ?_ ?_); (focus rfl); (focus (exact Nat.le_of_ble_eq_true rfl)))
    | ((with_reducible refine ixN_mk 7 ?_ ?_ ?_); (focus rfl); (focus (exact Nat.le_of_ble_eq_true rfl)))
    | ((with_reducible refine eqN_mk2 ?_ ?_); (focus rfl))
    | ((with_reducible refine posN_mk2 ?_ ?_); (focus (first | decide | ((try simp only [List.length_replicate, List.length_map, List.length_append, List.length_nil, List.length_cons, maxLen] at *); omega))))
    | ((with_reducible refine apdN.mk ?_ ?_ ?_ ?_ ?_ ?_); (focus (first | rfl | (simp; done))); (focus (first | exact one_all (by rfl) | exact one_map (fun _ => rfl) | exact one_map2 (fun _ => rfl))); (focus ((try simp only [List.length_replicate, List.length_map, List.length_append, List.length_nil, List.length_cons, maxLen] at *); omega)); (focus ((try simp only [List.length_replicate, List.length_map, List.length_append, List.length_nil, List.length_cons, maxLen] at *); omega)); (focus ((try simp only [List.length_replicate, List.length_map, List.length_append, List.length_nil, List.length_cons, maxLen] at *); omega)))
    | ((with_reducible refine cpyN.mk ?_ ?_ ?_ ?_); (focus (first | rfl | (simp; done))); (focus (first | exact one_all (by rfl) | exact one_map (fun _ => rfl) | exact one_map2 (fun _ => rfl))); (focus ((try simp only [List.length_replicate, List.length_map, List.length_append, List.length_nil, List.length_cons, maxLen] at *); omega)))
    | with_reducible refine wr_i64 (by first | omega | (simp only [List.length_map] at *; omega)) ?_
    | with_reducible refine wr_u64 (by omega) ?_
    | with_reducible refine wr_u8 (by omega) ?_
    | with_reducible refine wr_u32 (by omega) ?_
    | with_reducible refine wr_mk _ rfl ?_
    | ((with_reducible refine ixN_nat ?_ ?_); (focus ((try simp only [List.length_map] at *); omega)))
    | ((with_reducible refine rowN_map ?_ ?_); (focus ((try simp only [List.length_map] at *); omega)); intro x hx)
    | ((with_reducible refine ixN_mk 0 ?_ ?_ ?_); (focus rfl); (focus decide))
    | ((with_reducible refine ixN_mk 1 ?_ ?_ ?_); (focus rfl); (focus decide))
    | ((with_reducible refine ixN_mk 2 ?_ ?_ ?_); (focus rfl); (focus decide))
    | ((with_reducible refine ixN_mk 3 ?_ ?_ ?_); (focus rfl); (focus decide))
    | ((with_reducible refine ixN_mk 4 ?_ ?_ ?_); (focus rfl); (focus decide))
    | ((with_reducible refine ixN_mk 5 ?_ ?_ ?_); (focus rfl); (focus decide))
    | ((with_reducible refine ixN_mk 6 ?_ ?_ ?_); (focus rfl); (focus decide))
    | ((with_reducible refine ixN_mk 7 ?_ ?_ ?_); (focus rfl); (focus decide))
    | ((with_reducible refine posE_nil (by rfl) ?_))
    | ((with_reducible refine posE_pos (by decide) ?_))
    | with_reducible refine vN_mod (by omega) ?_
    | with_reducible refine vN_mk ?_
    | with_reducible refine nzN_mk (by omega) ?_
    | with_reducible refine eqN_dec (by omega) ?_
    | with_reducible refine draw_rule tabOk mixOk ?_
    | with_reducible refine apN_mk (by kernel_rfl) ?_)
  all_goals (try (conv => whnf))
  refine loop_rule tabOk (fun i : Nat => ⟨[(8, .val (.int .i64 (i : Int))), (7, .val (.int .i64 ((l.map eI).length : Nat))), (1, .val (.int .i64 v)), (0, .c (.ro false 1 (l.map eI)))], [], 0⟩) (fun i => i ≤ l.length ∧ v ∉ l.take i) (fun i => l.length - i) 0 ⟨Nat.zero_le _, by simp⟩ (Wk.stp (l := []) ⟨rfl, by decide, rfl, Nat.zero_le _, ⟨rfl, rfl, rfl, rfl, trivial⟩, trivial⟩) ?_
  rintro i ⟨hi, hn⟩
  dsimp only
  repeat' ((conv => whnf); first
    | with_reducible refine spB_t ?_
    | ((with_reducible apply spB_cong); (focus (simp only [beq_self_eq_true, bne_self_eq_false, Bool.true_bne, Bool.false_bne, Bool.bne_true, Bool.bne_false, Bool.true_beq, Bool.false_beq, Bool.not_true, Bool.not_false, Bool.not_not, Int.reduceBEq, Int.reduceBNe, Int.reduceLE, Int.reduceLT, Int.reduceEq, decide_true, decide_false]; rfl)))
    | with_reducible refine spB_yes (by decide) ?_
    | with_reducible refine spB_no (by decide) ?_
    | with_reducible refine spB_f ?_
    | with_reducible refine spB_not ?_
    | with_reducible refine spB_yes (by assumption) ?_
    | with_reducible refine spB_no (by assumption) ?_
    | (with_reducible refine spB_dec ?_ ?_ <;> intro _ <;> (try (exfalso; first | contradiction | omega | (rename_i hz; with_reducible exact absurd rfl hz))))
    | (with_reducible refine spB_beq ?_ ?_ <;> intro _ <;> (try (exfalso; first | contradiction | omega | (rename_i hz; with_reducible exact absurd rfl hz))))
    | (with_reducible refine spB_bne ?_ ?_ <;> intro _ <;> (try (exfalso; first | contradiction | omega | (rename_i hz; with_reducible exact absurd rfl hz))))
    | (with_reducible refine spB_mk ?_ ?_ <;> intro _ <;> (try (exfalso; first | contradiction | omega | (rename_i hz; with_reducible exact absurd rfl hz))))
    | ((with_reducible refine posE_pos ?_ ?_); (focus ((try simp only [List.length_replicate, List.length_map, List.length_append, List.length_nil, List.length_cons, maxLen] at *); omega)))
    | ((with_reducible refine posE_nil ?_ ?_); (focus rfl))
    | ((with_reducible apply rowN_mk); (focus rfl))
    | ((with_reducible refine ixN_mk 0 ?_ ?_ ?_); (focus rfl); (focus (exact Nat.le_of_ble_eq_true rfl)))
    | ((with_reducible refine ixN_mk 1 ?_ ?_ ?_); (focus rfl); (focus (exact Nat.le_of_ble_eq_true rfl)))
    | ((with_reducible refine ixN_mk 2 ?_ ?_ ?_); (focus rfl); (focus (exact Nat.le_of_ble_eq_true rfl)))
    | ((with_reducible refine ixN_mk 3 ?_ ?_ ?_); (focus rfl); (focus (exact Nat.le_of_ble_eq_true rfl)))
    | ((with_reducible refine ixN_mk 4 ?_ ?_ ?_); (focus rfl); (focus (exact Nat.le_of_ble_eq_true rfl)))
    | ((with_reducible refine ixN_mk 5 ?_ ?_ ?_); (focus rfl); (focus (exact Nat.le_of_ble_eq_true rfl)))
    | ((with_reducible refine ixN_mk 6 ?_ ?_ ?_); (focus rfl); (focus (exact Nat.le_of_ble_eq_true rfl)))
    | ((with_reducible refine ixN_mk 7 ?_ ?_ ?_); (focus rfl); (focus (exact Nat.le_of_ble_eq_true rfl)))
    | ((with_reducible refine eqN_mk2 ?_ ?_); (focus rfl))
    | ((with_reducible refine posN_mk2 ?_ ?_); (focus (first | decide | ((try simp only [List.length_replicate, List.length_map, List.length_append, List.length_nil, List.length_cons, maxLen] at *); omega))))
    | ((with_reducible refine apdN.mk ?_ ?_ ?_ ?_ ?_ ?_); (focus (first | rfl | (simp; done))); (focus (first | exact one_all (by rfl) | exact one_map (fun _ => rfl) | exact one_map2 (fun _ => rfl))); (focus ((try simp only [List.length_replicate, List.length_map, List.length_append, List.length_nil, List.length_cons, maxLen] at *); omega)); (focus ((try simp only [List.length_replicate, List.length_map, List.length_append, List.length_nil, List.length_cons, maxLen] at *); omega)); (focus ((try simp only [List.length_replicate, List.length_map, List.length_append, List.length_nil, List.length_cons, maxLen] at *); omega)))
    | ((with_reducible refine cpyN.mk ?_ ?_ ?_ ?_); (focus (first | rfl | (simp; done))); (focus (first | exact one_all (by rfl) | exact one_map (fun _ => rfl) | exact one_map2 (fun _ => rfl))); (focus ((try simp only [List.length_replicate, List.length_map, List.length_append, List.length_nil, List.length_cons, maxLen] at *); omega)))
    | with_reducible refine wr_i64 (by first | omega | (simp only [List.length_map] at *; omega)) ?_
    | with_reducible refine wr_u64 (by omega) ?_
    | with_reducible refine wr_u8 (by omega) ?_
    | with_reducible refine wr_u32 (by omega) ?_
    | with_reducible refine wr_mk _ rfl ?_
    | ((with_reducible refine ixN_nat ?_ ?_); (focus ((try simp only [List.length_map] at *); omega)))
    | ((with_reducible refine rowN_map ?_ ?_); (focus ((try simp only [List.length_map] at *); omega)); intro x hx)
    | ((with_reducible refine ixN_mk 0 ?_ ?_ ?_); (focus rfl); (focus decide))
    | ((with_reducible refine ixN_mk 1 ?_ ?_ ?_); (focus rfl); (focus decide))
    | ((with_reducible refine ixN_mk 2 ?_ ?_ ?_); (focus rfl); (focus decide))
    | ((with_reducible refine ixN_mk 3 ?_ ?_ ?_); (focus rfl); (focus decide))
    | ((with_reducible refine ixN_mk 4 ?_ ?_ ?_); (focus rfl); (focus decide))
    | ((with_reducible refine ixN_mk 5 ?_ ?_ ?_); (focus rfl); (focus decide))
    | ((with_reducible refine ixN_mk 6 ?_ ?_ ?_); (focus rfl); (focus decide))
    | ((with_reducible refine ixN_mk 7 ?_ ?_ ?_); (focus rfl); (focus decide))
    | ((with_reducible refine posE_nil (by rfl) ?_))
    | ((with_reducible refine posE_pos (by decide) ?_))
    | with_reducible refine vN_mod (by omega) ?_
    | with_reducible refine vN_mk ?_
    | with_reducible refine nzN_mk (by omega) ?_
    | with_reducible refine eqN_dec (by omega) ?_
    | with_reducible refine draw_rule tabOk mixOk ?_
    | with_reducible refine apN_mk (by kernel_rfl) ?_)
  all_goals (try (conv => whnf))
  all_goals first
    | (refine ⟨⟨i + 1, ⟨by (try simp only [List.length_map] at *); omega, ?_⟩, by (try simp only [List.length_map] at *); (try dsimp only); omega, (Wk.stp (l := []) ⟨rfl, by decide, rfl, Nat.zero_le _, ⟨rfl, rfl, rfl, rfl, trivial⟩, trivial⟩)⟩⟩
       rw [take_snoc hx]; simp only [List.mem_append, List.mem_singleton, not_or]; exact ⟨hn, by assumption⟩)
    | (refine ret0 _ rfl _ rfl (fun _ => rfl) rfl ⟨i, rfl, rfl, rfl⟩)
    | (exfalso; rw [List.take_of_length_le (by (try simp only [List.length_map] at *); omega)] at hn; exact hn hm)
    | (trace_state; sorry)
theorem contains_con (l : List Int) (v : Int) (hm : v ∈ l) (hl : l.length ≤ 9223372036854775807) : Con Try.prog 29 [.one (.ro false 1 (l.map eI)), .one (.v (.int .i64 v))] (fun rx rK rt => rx = .val (.bool true) ∧ rK = [] ∧ rt = 0) := by
  refine con_of tabOk 9 Try.f29 _ Try.func29 (by kernel_rfl) rfl rfl rfl rfl (fun W0 => ?_)
  (conv => whnf)
  refine call_con2 ?_ (index_con l v hm hl) ?_
  · exact ⟨rfl, rfl, trivial⟩
  rintro _ _ _ ⟨j, rfl, rfl, rfl⟩
  repeat' ((conv => whnf); first
    | with_reducible refine spB_t ?_
    | ((with_reducible apply spB_cong); (focus (simp only [beq_self_eq_true, bne_self_eq_false, Bool.true_bne, Bool.false_bne, Bool.bne_true, Bool.bne_false, Bool.true_beq, Bool.false_beq, Bool.not_true, Bool.not_false, Bool.not_not, Int.reduceBEq, Int.reduceBNe, Int.reduceLE, Int.reduceLT, Int.reduceEq, decide_true, decide_false]; rfl)))
    | with_reducible refine spB_yes (by decide) ?_
    | with_reducible refine spB_no (by decide) ?_
    | with_reducible refine spB_f ?_
    | with_reducible refine spB_not ?_
    | with_reducible refine spB_yes (by assumption) ?_
    | with_reducible refine spB_no (by assumption) ?_
    | (with_reducible refine spB_dec ?_ ?_ <;> intro _ <;> (try (exfalso; first | contradiction | omega | (rename_i hz; with_reducible exact absurd rfl hz))))
    | (with_reducible refine spB_beq ?_ ?_ <;> intro _ <;> (try (exfalso; first | contradiction | omega | (rename_i hz; with_reducible exact absurd rfl hz))))
    | (with_reducible refine spB_bne ?_ ?_ <;> intro _ <;> (try (exfalso; first | contradiction | omega | (rename_i hz; with_reducible exact absurd rfl hz))))
    | (with_reducible refine spB_mk ?_ ?_ <;> intro _ <;> (try (exfalso; first | contradiction | omega | (rename_i hz; with_reducible exact absurd rfl hz))))
    | ((with_reducible refine posE_pos ?_ ?_); (focus ((try simp only [List.length_replicate, List.length_map, List.length_append, List.length_nil, List.length_cons, maxLen] at *); omega)))
    | ((with_reducible refine posE_nil ?_ ?_); (focus rfl))
    | ((with_reducible apply rowN_mk); (focus rfl))
    | ((with_reducible refine ixN_mk 0 ?_ ?_ ?_); (focus rfl); (focus (exact Nat.le_of_ble_eq_true rfl)))
    | ((with_reducible refine ixN_mk 1 ?_ ?_ ?_); (focus rfl); (focus (exact Nat.le_of_ble_eq_true rfl)))
    | ((with_reducible refine ixN_mk 2 ?_ ?_ ?_); (focus rfl); (focus (exact Nat.le_of_ble_eq_true rfl)))
    | ((with_reducible refine ixN_mk 3 ?_ ?_ ?_); (focus rfl); (focus (exact Nat.le_of_ble_eq_true rfl)))
    | ((with_reducible refine ixN_mk 4 ?_ ?_ ?_); (focus rfl); (focus (exact Nat.le_of_ble_eq_true rfl)))
    | ((with_reducible refine ixN_mk 5 ?_ ?_ ?_); (focus rfl); (focus (exact Nat.le_of_ble_eq_true rfl)))
    | ((with_reducible refine ixN_mk 6 ?_ ?_ ?_); (focus rfl); (focus (exact Nat.le_of_ble_eq_true rfl)))
    | ((with_reducible refine ixN_mk 7 ?_ ?_ ?_); (focus rfl); (focus (exact Nat.le_of_ble_eq_true rfl)))
    | ((with_reducible refine eqN_mk2 ?_ ?_); (focus rfl))
    | ((with_reducible refine posN_mk2 ?_ ?_); (focus (first | decide | ((try simp only [List.length_replicate, List.length_map, List.length_append, List.length_nil, List.length_cons, maxLen] at *); omega))))
    | ((with_reducible refine apdN.mk ?_ ?_ ?_ ?_ ?_ ?_); (focus (first | rfl | (simp; done))); (focus (first | exact one_all (by rfl) | exact one_map (fun _ => rfl) | exact one_map2 (fun _ => rfl))); (focus ((try simp only [List.length_replicate, List.length_map, List.length_append, List.length_nil, List.length_cons, maxLen] at *); omega)); (focus ((try simp only [List.length_replicate, List.length_map, List.length_append, List.length_nil, List.length_cons, maxLen] at *); omega)); (focus ((try simp only [List.length_replicate, List.length_map, List.length_append, List.length_nil, List.length_cons, maxLen] at *); omega)))
    | ((with_reducible refine cpyN.mk ?_ ?_ ?_ ?_); (focus (first | rfl | (simp; done))); (focus (first | exact one_all (by rfl) | exact one_map (fun _ => rfl) | exact one_map2 (fun _ => rfl))); (focus ((try simp only [List.length_replicate, List.length_map, List.length_append, List.length_nil, List.length_cons, maxLen] at *); omega)))
    | with_reducible refine wr_i64 (by first | omega | (simp only [List.length_map] at *; omega)) ?_
    | with_reducible refine wr_u64 (by omega) ?_
    | with_reducible refine wr_u8 (by omega) ?_
    | with_reducible refine wr_u32 (by omega) ?_
    | with_reducible refine wr_mk _ rfl ?_
    | ((with_reducible refine ixN_nat ?_ ?_); (focus ((try simp only [List.length_map] at *); omega)))
    | ((with_reducible refine rowN_map ?_ ?_); (focus ((try simp only [List.length_map] at *); omega)); intro x hx)
    | ((with_reducible refine ixN_mk 0 ?_ ?_ ?_); (focus rfl); (focus decide))
    | ((with_reducible refine ixN_mk 1 ?_ ?_ ?_); (focus rfl); (focus decide))
    | ((with_reducible refine ixN_mk 2 ?_ ?_ ?_); (focus rfl); (focus decide))
    | ((with_reducible refine ixN_mk 3 ?_ ?_ ?_); (focus rfl); (focus decide))
    | ((with_reducible refine ixN_mk 4 ?_ ?_ ?_); (focus rfl); (focus decide))
    | ((with_reducible refine ixN_mk 5 ?_ ?_ ?_); (focus rfl); (focus decide))
    | ((with_reducible refine ixN_mk 6 ?_ ?_ ?_); (focus rfl); (focus decide))
    | ((with_reducible refine ixN_mk 7 ?_ ?_ ?_); (focus rfl); (focus decide))
    | ((with_reducible refine posE_nil (by rfl) ?_))
    | ((with_reducible refine posE_pos (by decide) ?_))
    | with_reducible refine vN_mod (by omega) ?_
    | with_reducible refine vN_mk ?_
    | with_reducible refine nzN_mk (by omega) ?_
    | with_reducible refine eqN_dec (by omega) ?_
    | with_reducible refine draw_rule tabOk mixOk ?_
    | with_reducible refine apN_mk (by kernel_rfl) ?_)
  all_goals (try (conv => whnf))
  all_goals first | (refine ret0 _ rfl _ rfl (fun _ => rfl) rfl ⟨?_, rfl, rfl⟩; rfl) | (trace_state; sorry)
end Go.Proofs.Ytibjpohankaoeaa
