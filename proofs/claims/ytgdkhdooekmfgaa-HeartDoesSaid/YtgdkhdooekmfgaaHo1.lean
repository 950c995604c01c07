import Derived.Test.YtgdkhdooekmfgaaHo0
import Derived.Test.YtgdkhdooekmfgaaHp6
namespace Go.Proofs.Ytgdkhdooekmfgaa
open Go Go.RowKit Wx
set_option linter.unusedVariables false
set_option linter.unusedSimpArgs false
set_option maxHeartbeats 4000000
theorem hear_own (now span w : Int) (l : List Pu) (hk : okH now span l = true) (he : (hearR now span w l).err = 0) : ∃ (cap : Option Nat) (tl : List Pu), Con Try.prog 24 [.agg [.v (.int .i64 now), .v (.int .i64 span), .ro false 3 ((l).map eP)], .one (.v (.int .i64 w))] (fun rx rK rt => rx = .tup [.agg [.v (.int .i64 (hearR now span w l).now), .v (.int .i64 (hearR now span w l).span), .osl 0 0 (hearR now span w l).rows.length cap], .one (.v (.bool (hearR now span w l).came)), .one (.v (.int .i64 (hearR now span w l).err))] ∧ rK = [(0, some ⟨((hearR now span w l).rows ++ tl).map cP, 3, 37, false⟩)] ∧ rt = 1) := by
  have hl := okH_len hk
  revert he
  by_cases hw : 1 ≤ w ∧ w ≤ 4
  · intro _
    cases hx : l[srch w l]? with
    | none =>
      have hi : srch w l = l.length := by
        have h1 := srch_le (t := w) (l := l)
        have h2 := List.getElem?_eq_none_iff.1 hx
        omega
      have h := hear_e_o now span w l hl hk hw (by unfold thereW; rw [hx]; rfl) (by rw [List.length_map]; exact hi)
      refine ⟨none, [], ?_⟩
      unfold hearR insP; rw [decide_eq_true hw, hx]; dsimp only [cond_true]
      rw [hi, List.take_length, List.drop_length]; exact h
    | some x =>
      have hlt := (List.getElem?_eq_some_iff.1 hx).1
      by_cases hn : x.wk = w
      · have h := hear_t_o now span w l _ x hl hk hw (by unfold thereW; rw [hx]; exact beq_iff_eq.2 hn) rfl hx
        refine ⟨some (l.map eP).length, [], ?_⟩
        unfold hearR; rw [decide_eq_true hw, hx]; dsimp only [cond_true]
        rw [show (x.wk == w) = true from beq_iff_eq.2 hn]; exact h
      · have h := hear_n_o now span w l _ hl hk hw (by unfold thereW; rw [hx]; exact beq_eq_false_iff_ne.2 hn) rfl hlt
        refine ⟨none, [], ?_⟩
        unfold hearR insP; rw [decide_eq_true hw, hx]; dsimp only [cond_true]
        rw [show (x.wk == w) = false from beq_eq_false_iff_ne.2 hn]; exact h
  · unfold hearR; rw [decide_eq_false hw]; intro he; simp [bad] at he
theorem drop_own (now span w : Int) (l : List Pu) (hk : okH now span l = true) (he : (dropR now span w l).err = 0) : ∃ (cap : Option Nat) (tl : List Pu), Con Try.prog 32 [.agg [.v (.int .i64 now), .v (.int .i64 span), .ro false 3 ((l).map eP)], .one (.v (.int .i64 w))] (fun rx rK rt => rx = .tup [.agg [.v (.int .i64 (dropR now span w l).now), .v (.int .i64 (dropR now span w l).span), .osl 0 0 (dropR now span w l).rows.length cap], .one (.v (.int .i64 (dropR now span w l).err))] ∧ rK = [(0, some ⟨((dropR now span w l).rows ++ tl).map cP, 3, 37, false⟩)] ∧ rt = 1) := by
  have hl := okH_len hk
  revert he
  cases ht : thereW w l with
  | false => unfold dropR; rw [ht]; intro he; simp [bad] at he
  | true =>
    intro _
    have hlt : srch w l < l.length := by
      unfold thereW at ht
      cases hx : l[srch w l]? with
      | none => rw [hx] at ht; cases ht
      | some x => exact (List.getElem?_eq_some_iff.1 hx).1
    refine ⟨some (l.map eP).length, [zP], ?_⟩
    unfold dropR; rw [ht]
    by_cases h1 : srch w l + 1 < l.length
    · exact drop_t1_o now span w l _ hl hk ht rfl h1
    · exact drop_t2_o now span w l _ hl hk ht rfl (by omega)
theorem pass_own (now span to : Int) (l : List Pu) (hk : okH now span l = true) (he : (passR now span to l).err = 0) : ∃ (cap : Option Nat) (tl : List Pu), Con Try.prog 26 [.agg [.v (.int .i64 now), .v (.int .i64 span), .ro false 3 ((l).map eP)], .one (.v (.int .i64 to))] (fun rx rK rt => rx = .tup [.agg [.v (.int .i64 (passR now span to l).now), .v (.int .i64 (passR now span to l).span), .osl 0 0 (passR now span to l).rows.length cap], .one (.ro true 1 ((passR now span to l).gone.map eI)), .one (.v (.int .i64 (passR now span to l).err))] ∧ rK = [(0, some ⟨((passR now span to l).rows ++ tl).map cP, 3, 37, false⟩)] ∧ rt = 1) := by
  have hl := okH_len hk
  revert he
  by_cases ht : now ≤ to ∧ to ≤ 1099511627776
  · intro _
    have h := pass_t_o now span to l hl hk ht
    refine ⟨some (l.map eP).length, [], ?_⟩
    unfold passR; rw [decide_eq_true ht]; exact h
  · unfold passR; rw [decide_eq_false ht]; intro he; simp [bad] at he
theorem run_oh (kd w tick : Int) (far : Bool) (now span : Int) (l : List Pu) (R : Hr) (hR : R = hearR now span w l) (hk : okH now span l = true) (he : R.err = 0) (h0 : kd % 18446744073709551616 % 5 = 0 ∨ kd % 18446744073709551616 % 5 = 1) : ∃ (cap : Option Nat) (tl : List Pu), Con Try.prog 11 [.agg [.v (.int .i64 kd), .v (.int .i64 w), .v (.int .i64 tick), .v (.bool far)], .agg [.v (.int .i64 now), .v (.int .i64 span), .ro false 3 ((l).map eP)]] (fun rx rK rt => rx = .tup [.agg [.v (.int .i64 R.now), .v (.int .i64 R.span), .osl 0 0 R.rows.length cap], .one (.v (.bool R.came)), .one (.v (.slice none 0 0)), .one (.v (.int .i64 R.err))] ∧ rK = [(0, some ⟨(R.rows ++ tl).map cP, 3, 37, false⟩)] ∧ rt = 1) := by
  obtain ⟨cap, tl, c1⟩ := hear_own now span w l hk (by rw [← hR]; exact he)
  refine ⟨cap, tl, ?_⟩
  rw [← hR] at c1
  have hwn := wrap64 kd
  generalize hW : kd % 18446744073709551616 = W at *
  have hW0 : 0 ≤ W := by omega
  generalize hkk : W % 5 = kk at *
  have hb9 := (okH_all hk).1
  refine Z.con_ofZ tabOk 46 Try.f11 _ Try.func11 (by kernel_rfl) rfl rfl rfl rfl ?_
  repeat' ((conv => whnf); first
    | (with_reducible refine spB_beq ?_ ?_ <;> intro _ <;> (try (exfalso; first | contradiction | omega | (rename_i hz; exact hz (by simp; done)) | (simp only [LN] at *; omega))))
    | with_reducible first | refine wr_mk _ hwn ?_
    | ((with_reducible refine vN_to kk ?_ ?_); (focus (rw [Int.tmod_eq_emod_of_nonneg hW0, hkk])))
    | with_reducible refine nzN_mk (by omega) ?_
    | ((first | (with_reducible refine Z.conZ_mz ?_ (c1) ?_) | (with_reducible refine Z.callZ_mk ?_ (c1) ?_)); (focus ((repeat' (first | exact trivial | exact rfl | exact Z.low_nil | exact Z.low_nil2 | exact low_osl (fun _ => rfl) | (refine Z.low_osln ?_ (fun _ => rfl); (simp only [List.length_map]; done)) | exact low_oslr (fun _ => rfl) | exact Z.low_gslm (by first | rfl | exact Z.kb_some rfl) (fun _ => rfl) | exact .inl rfl | exact .inr ⟨_, rfl⟩ | apply And.intro)); done)))
    | (focus (exact (rfl : Nat.ble _ _ = true))))
  all_goals (try (conv => whnf))
  all_goals try (show Nat.ble _ _ = true; rfl)
  all_goals first
    | (refine ret1b 3 (.tup [.agg [.v (.int .i64 R.now), .v (.int .i64 R.span), .osl 0 0 R.rows.length cap], .one (.v (.bool R.came)), .one (.v (.slice none 0 0)), .one (.v (.int .i64 R.err))]) ((R.rows ++ tl).map cP) 3 37 false _ rfl ?_ (by rfl) (ren_map fun _ => rfl) (ren_map fun _ => rfl) rfl (own_map fun _ => rfl) ⟨rfl, rfl, rfl⟩; rfl)
    | (exfalso; simp_all; done)
    | (exfalso; omega)
    | (fail)
theorem run_od (kd w tick : Int) (far : Bool) (now span : Int) (l : List Pu) (R : Hr) (hR : R = dropR now span w l) (hk : okH now span l = true) (he : R.err = 0) (h0 : ¬ (kd % 18446744073709551616 % 5 = 0 ∨ kd % 18446744073709551616 % 5 = 1)) (h2 : ¬ (kd % 18446744073709551616 % 5 = 2 ∨ kd % 18446744073709551616 % 5 = 3)) : ∃ (cap : Option Nat) (tl : List Pu), Con Try.prog 11 [.agg [.v (.int .i64 kd), .v (.int .i64 w), .v (.int .i64 tick), .v (.bool far)], .agg [.v (.int .i64 now), .v (.int .i64 span), .ro false 3 ((l).map eP)]] (fun rx rK rt => rx = .tup [.agg [.v (.int .i64 R.now), .v (.int .i64 R.span), .osl 0 0 R.rows.length cap], .one (.v (.bool false)), .one (.v (.slice none 0 0)), .one (.v (.int .i64 R.err))] ∧ rK = [(0, some ⟨(R.rows ++ tl).map cP, 3, 37, false⟩)] ∧ rt = 1) := by
  obtain ⟨cap, tl, c1⟩ := drop_own now span w l hk (by rw [← hR]; exact he)
  refine ⟨cap, tl, ?_⟩
  rw [← hR] at c1
  have hwn := wrap64 kd
  generalize hW : kd % 18446744073709551616 = W at *
  have hW0 : 0 ≤ W := by omega
  generalize hkk : W % 5 = kk at *
  have hb9 := (okH_all hk).1
  refine Z.con_ofZ tabOk 46 Try.f11 _ Try.func11 (by kernel_rfl) rfl rfl rfl rfl ?_
  repeat' ((conv => whnf); first
    | (with_reducible refine spB_beq ?_ ?_ <;> intro _ <;> (try (exfalso; first | contradiction | omega | (rename_i hz; exact hz (by simp; done)) | (simp only [LN] at *; omega))))
    | with_reducible first | refine wr_mk _ hwn ?_
    | ((with_reducible refine vN_to kk ?_ ?_); (focus (rw [Int.tmod_eq_emod_of_nonneg hW0, hkk])))
    | with_reducible refine nzN_mk (by omega) ?_
    | ((first | (with_reducible refine Z.conZ_mz ?_ (c1) ?_) | (with_reducible refine Z.callZ_mk ?_ (c1) ?_)); (focus ((repeat' (first | exact trivial | exact rfl | exact Z.low_nil | exact Z.low_nil2 | exact low_osl (fun _ => rfl) | (refine Z.low_osln ?_ (fun _ => rfl); (simp only [List.length_map]; done)) | exact low_oslr (fun _ => rfl) | exact Z.low_gslm (by first | rfl | exact Z.kb_some rfl) (fun _ => rfl) | exact .inl rfl | exact .inr ⟨_, rfl⟩ | apply And.intro)); done)))
    | (focus (exact (rfl : Nat.ble _ _ = true))))
  all_goals (try (conv => whnf))
  all_goals try (show Nat.ble _ _ = true; rfl)
  all_goals first
    | (refine ret1b 3 (.tup [.agg [.v (.int .i64 R.now), .v (.int .i64 R.span), .osl 0 0 R.rows.length cap], .one (.v (.bool false)), .one (.v (.slice none 0 0)), .one (.v (.int .i64 R.err))]) ((R.rows ++ tl).map cP) 3 37 false _ rfl ?_ (by rfl) (ren_map fun _ => rfl) (ren_map fun _ => rfl) rfl (own_map fun _ => rfl) ⟨rfl, rfl, rfl⟩; rfl)
    | (exfalso; simp_all; done)
    | (exfalso; omega)
    | (fail)
theorem run_opt (kd w tick : Int) (now span : Int) (l : List Pu) (R : Hr) (hR : R = passR now span (tick) l) (hk : okH now span l = true) (he : R.err = 0) (h2 : kd % 18446744073709551616 % 5 = 2 ∨ kd % 18446744073709551616 % 5 = 3) : ∃ (cap : Option Nat) (tl : List Pu), Con Try.prog 11 [.agg [.v (.int .i64 kd), .v (.int .i64 w), .v (.int .i64 tick), .v (.bool true)], .agg [.v (.int .i64 now), .v (.int .i64 span), .ro false 3 ((l).map eP)]] (fun rx rK rt => rx = .tup [.agg [.v (.int .i64 R.now), .v (.int .i64 R.span), .osl 0 0 R.rows.length cap], .one (.v (.bool false)), .one (.ro true 1 (R.gone.map eI)), .one (.v (.int .i64 R.err))] ∧ rK = [(0, some ⟨(R.rows ++ tl).map cP, 3, 37, false⟩)] ∧ rt = 1) := by
  obtain ⟨cap, tl, c1⟩ := pass_own now span (tick) l hk (by rw [← hR]; exact he)
  refine ⟨cap, tl, ?_⟩
  rw [← hR] at c1
  have htm := tm200 tick
  have hwn := wrap64 kd
  generalize hW : kd % 18446744073709551616 = W at *
  have hW0 : 0 ≤ W := by omega
  generalize hkk : W % 5 = kk at *
  have hb9 := (okH_all hk).1
  refine Z.con_ofZ tabOk 46 Try.f11 _ Try.func11 (by kernel_rfl) rfl rfl rfl rfl ?_
  repeat' ((conv => whnf); first
    | with_reducible first | refine spB_t ?_
    | (with_reducible refine spB_beq ?_ ?_ <;> intro _ <;> (try (exfalso; first | contradiction | omega | (rename_i hz; exact hz (by simp; done)) | (simp only [LN] at *; omega))))
    | with_reducible first | refine wr_mk _ hwn ?_
    | ((with_reducible refine vN_to kk ?_ ?_); (focus (rw [Int.tmod_eq_emod_of_nonneg hW0, hkk])))
    | with_reducible refine nzN_mk (by omega) ?_
    | with_reducible first | refine apN_mk (by kernel_rfl) ?_ | refine Z.callZ_in tabOk 15 Try.f31 _ Try.func31 (by kernel_rfl) rfl rfl rfl ?_
    | ((first | (with_reducible refine Z.conZ_mz ?_ (c1) ?_) | (with_reducible refine Z.callZ_mk ?_ (c1) ?_)); (focus ((repeat' (first | exact trivial | exact rfl | exact Z.low_nil | exact Z.low_nil2 | exact low_osl (fun _ => rfl) | (refine Z.low_osln ?_ (fun _ => rfl); (simp only [List.length_map]; done)) | exact low_oslr (fun _ => rfl) | exact Z.low_gslm (by first | rfl | exact Z.kb_some rfl) (fun _ => rfl) | exact .inl rfl | exact .inr ⟨_, rfl⟩ | apply And.intro)); done)))
    | ((with_reducible apply ex_and); exact rfl)
    | with_reducible first | refine Z.drawZ_rule tabOk mixOk ?_ | refine Z.apZ_mk (by kernel_rfl) ?_
    | ((with_reducible refine Z.ConZ.red ?_); (try subst hlb); (apply Z.conZ_all); (focus (repeat (first | exact Z.FK.nil | (apply Z.FK.keep; exact rfl)))); (focus rfl); (focus rfl); (focus (repeat (first | exact trivial | (refine ⟨(fun o ho => (by first | (cases ho; rfl) | (cases ho; exact Z.inL_map fun _ => rfl) | (cases ho; exact Z.inL_mapr fun _ => rfl) | exact Z.inL_gB ho fun _ => rfl)), ?_⟩)))))
    | ((refine ⟨rfl, ?_, rfl⟩); (focus (repeat (first | exact Z.DK.nil | apply Z.DK.cons))))
    | (focus (exact (rfl : Nat.ble _ _ = true))))
  all_goals (try (conv => whnf))
  all_goals try (show Nat.ble _ _ = true; rfl)
  all_goals first
    | (refine ret1b 3 (.tup [.agg [.v (.int .i64 R.now), .v (.int .i64 R.span), .osl 0 0 R.rows.length cap], .one (.v (.bool false)), .one (.ro true 1 (R.gone.map eI)), .one (.v (.int .i64 R.err))]) ((R.rows ++ tl).map cP) 3 37 false _ rfl ?_ (by rfl) (ren_map fun _ => rfl) (ren_map fun _ => rfl) rfl (own_map fun _ => rfl) ⟨rfl, rfl, rfl⟩; rfl)
    | (refine ret1b 5 (.tup [.agg [.v (.int .i64 R.now), .v (.int .i64 R.span), .osl 0 0 R.rows.length cap], .one (.v (.bool false)), .one (.ro true 1 (R.gone.map eI)), .one (.v (.int .i64 R.err))]) ((R.rows ++ tl).map cP) 3 37 false _ rfl ?_ (by rfl) (ren_map fun _ => rfl) (ren_map fun _ => rfl) rfl (own_map fun _ => rfl) ⟨rfl, rfl, rfl⟩; rfl)
    | (exfalso; simp_all; done)
    | (exfalso; omega)
    | (fail)
theorem run_opf (kd w tick : Int) (now span : Int) (l : List Pu) (R : Hr) (hR : R = passR now span (now + tick.tmod 200) l) (hk : okH now span l = true) (he : R.err = 0) (h2 : kd % 18446744073709551616 % 5 = 2 ∨ kd % 18446744073709551616 % 5 = 3) : ∃ (cap : Option Nat) (tl : List Pu), Con Try.prog 11 [.agg [.v (.int .i64 kd), .v (.int .i64 w), .v (.int .i64 tick), .v (.bool false)], .agg [.v (.int .i64 now), .v (.int .i64 span), .ro false 3 ((l).map eP)]] (fun rx rK rt => rx = .tup [.agg [.v (.int .i64 R.now), .v (.int .i64 R.span), .osl 0 0 R.rows.length cap], .one (.v (.bool false)), .one (.ro true 1 (R.gone.map eI)), .one (.v (.int .i64 R.err))] ∧ rK = [(0, some ⟨(R.rows ++ tl).map cP, 3, 37, false⟩)] ∧ rt = 1) := by
  obtain ⟨cap, tl, c1⟩ := pass_own now span (now + tick.tmod 200) l hk (by rw [← hR]; exact he)
  refine ⟨cap, tl, ?_⟩
  rw [← hR] at c1
  have htm := tm200 tick
  have hwn := wrap64 kd
  generalize hW : kd % 18446744073709551616 = W at *
  have hW0 : 0 ≤ W := by omega
  generalize hkk : W % 5 = kk at *
  have hb9 := (okH_all hk).1
  refine Z.con_ofZ tabOk 46 Try.f11 _ Try.func11 (by kernel_rfl) rfl rfl rfl rfl ?_
  repeat' ((conv => whnf); first
    | with_reducible first | refine spB_yes (by decide) ?_ | refine spB_no (by decide) ?_ | refine spB_f ?_ | refine spB_not ?_ | refine spB_yes (by assumption) ?_ | refine spB_no (by assumption) ?_
    | (with_reducible refine spB_beq ?_ ?_ <;> intro _ <;> (try (exfalso; first | contradiction | omega | (rename_i hz; exact hz (by simp; done)) | (simp only [LN] at *; omega))))
    | with_reducible first | refine wr_mk _ hwn ?_
    | ((with_reducible refine vN_to kk ?_ ?_); (focus (rw [Int.tmod_eq_emod_of_nonneg hW0, hkk])))
    | ((with_reducible refine vN_to (tick.tmod 200) ?_ ?_); (focus rfl))
    | with_reducible refine wr_i64 (by first | omega | (simp only [LN] at *; omega)) ?_
    | with_reducible refine nzN_mk (by omega) ?_
    | with_reducible first | refine apN_mk (by kernel_rfl) ?_ | refine Z.callZ_in tabOk 15 Try.f31 _ Try.func31 (by kernel_rfl) rfl rfl rfl ?_
    | ((first | (with_reducible refine Z.conZ_mz ?_ (c1) ?_) | (with_reducible refine Z.callZ_mk ?_ (c1) ?_)); (focus ((repeat' (first | exact trivial | exact rfl | exact Z.low_nil | exact Z.low_nil2 | exact low_osl (fun _ => rfl) | (refine Z.low_osln ?_ (fun _ => rfl); (simp only [List.length_map]; done)) | exact low_oslr (fun _ => rfl) | exact Z.low_gslm (by first | rfl | exact Z.kb_some rfl) (fun _ => rfl) | exact .inl rfl | exact .inr ⟨_, rfl⟩ | apply And.intro)); done)))
    | ((with_reducible apply ex_and); exact rfl)
    | with_reducible first | refine Z.drawZ_rule tabOk mixOk ?_ | refine Z.apZ_mk (by kernel_rfl) ?_
    | ((with_reducible refine Z.ConZ.red ?_); (try subst hlb); (apply Z.conZ_all); (focus (repeat (first | exact Z.FK.nil | (apply Z.FK.keep; exact rfl)))); (focus rfl); (focus rfl); (focus (repeat (first | exact trivial | (refine ⟨(fun o ho => (by first | (cases ho; rfl) | (cases ho; exact Z.inL_map fun _ => rfl) | (cases ho; exact Z.inL_mapr fun _ => rfl) | exact Z.inL_gB ho fun _ => rfl)), ?_⟩)))))
    | ((refine ⟨rfl, ?_, rfl⟩); (focus (repeat (first | exact Z.DK.nil | apply Z.DK.cons))))
    | (focus (exact (rfl : Nat.ble _ _ = true))))
  all_goals (try (conv => whnf))
  all_goals try (show Nat.ble _ _ = true; rfl)
  all_goals first
    | (refine ret1b 3 (.tup [.agg [.v (.int .i64 R.now), .v (.int .i64 R.span), .osl 0 0 R.rows.length cap], .one (.v (.bool false)), .one (.ro true 1 (R.gone.map eI)), .one (.v (.int .i64 R.err))]) ((R.rows ++ tl).map cP) 3 37 false _ rfl ?_ (by rfl) (ren_map fun _ => rfl) (ren_map fun _ => rfl) rfl (own_map fun _ => rfl) ⟨rfl, rfl, rfl⟩; rfl)
    | (refine ret1b 5 (.tup [.agg [.v (.int .i64 R.now), .v (.int .i64 R.span), .osl 0 0 R.rows.length cap], .one (.v (.bool false)), .one (.ro true 1 (R.gone.map eI)), .one (.v (.int .i64 R.err))]) ((R.rows ++ tl).map cP) 3 37 false _ rfl ?_ (by rfl) (ren_map fun _ => rfl) (ren_map fun _ => rfl) rfl (own_map fun _ => rfl) ⟨rfl, rfl, rfl⟩; rfl)
    | (exfalso; simp_all; done)
    | (exfalso; omega)
    | (fail)
end Go.Proofs.Ytgdkhdooekmfgaa
