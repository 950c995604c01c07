import Derived.Test.YtaafippakgofiaaNe1
namespace Go.Proofs.Ytaafippakgofiaa
open Go Go.RowKit Wx
set_option linter.unusedVariables false
set_option linter.unusedSimpArgs false
set_option maxHeartbeats 4000000
theorem run_s1 (kd fr to at0 : Int) (st ot : Bool) (bs : List Int) (sent : Int) (ps : List Pc) (hl : ps.length ≤ 100) (hb : ∀ p ∈ ps, p.bs.length ≤ 30001) (hbl : bs.length ≤ 9223372036854775807) (hk : okN sent ps = true) (K : Int) (hK : IntKind.u64.wrap kd % 7 = K) (hK3 : K = 0 ∨ K = 1 ∨ K = 2) (hs0 : 0 ≤ sent) (hS : okS fr to (shB bs).length ps.length sent) : Con Try.prog 19 [.agg [.v (.int .i64 kd), .v (.int .i64 fr), .v (.int .i64 to), .v (.int .i64 at0), .v (.bool st), .v (.bool ot), .ro false 1 (bs.map eB)], .agg [.v (.int .u64 sent), .ro false 4 (ps.map eP)]] (fun rx rK rt => rx = .pl (.agg [.v (.int .u64 (sent + 1)), .ro true 4 ((ps ++ [(⟨sent + 1, fr, to, shB bs⟩ : Pc)]).map eP), .v (.int .u64 (sent + 1)), .v (.int .u64 ((⟨0, 0, 0, []⟩ : Pc)).num), .v (.int .i64 ((⟨0, 0, 0, []⟩ : Pc)).fr), .v (.int .i64 ((⟨0, 0, 0, []⟩ : Pc)).to), .ro true 1 (((⟨0, 0, 0, []⟩ : Pc)).bs.map eB), .v (.int .i64 (0)), .v (.int .i64 (0))]) ∧ rK = [] ∧ rt = 0) := by
  refine Z.con_ofF tabOk 84 Try.f19 _ Try.func19 (by kernel_rfl) rfl rfl rfl rfl ?_
  have hsl := shB_len bs
  rcases hK3 with rfl | rfl | rfl
  all_goals (
    skip
    repeat' ((conv => whnf); first
      | with_reducible first | refine spB_t ?_
      | ((with_reducible apply spB_cong); (focus (simp only [beq_self_eq_true, bne_self_eq_false, Bool.true_bne, Bool.false_bne, Bool.bne_true, Bool.bne_false, Bool.true_beq, Bool.false_beq, Bool.not_true, Bool.not_false, Bool.not_not, Int.reduceBEq, Int.reduceBNe, Int.reduceLE, Int.reduceLT, Int.reduceEq, decide_true, decide_false]; rfl)))
      | with_reducible first | refine spB_yes (by decide) ?_ | refine spB_no (by decide) ?_ | refine spB_f ?_ | refine spB_not ?_ | refine spB_yes (by assumption) ?_ | refine spB_no (by assumption) ?_
      | ((with_reducible refine vN_K hK ?_ ?_); (focus (exact Int.tmod_eq_emod_of_nonneg (wrap0 _))))
      | with_reducible first | refine wr_mk _ rfl ?_
      | with_reducible refine nzN_mk (by omega) ?_
      | ((first | (with_reducible apply Z.conZ_mz ?_ (send_ok _ _ _ _ _ ?_ ?_ ?_ ?_ ?_) ?_) | (with_reducible apply Z.callZ_mk ?_ (send_ok _ _ _ _ _ ?_ ?_ ?_ ?_ ?_) ?_)); (rotate_left 5); (focus ((repeat' (first | exact trivial | exact rfl | exact Z.low_nil | exact Z.low_nil2 | exact low_osl (fun _ => rfl) | (refine Z.low_osln ?_ (fun _ => rfl); (simp only [List.length_map]; done)) | exact low_oslr (fun _ => rfl) | exact Z.low_gslm (by first | rfl | exact Z.kb_some rfl) (fun _ => rfl) | exact .inl rfl | exact .inr ⟨_, rfl⟩ | apply And.intro)); done)); (iterate 5 (focus (first | assumption | omega | ((try simp only [LN] at *); omega)))))
      | ((first | (with_reducible apply Z.conZ_mz ?_ (bytes_con _ _ _ _ _ _ _ ?_) ?_) | (with_reducible apply Z.callZ_mk ?_ (bytes_con _ _ _ _ _ _ _ ?_) ?_)); (rotate_left 7); (focus ((repeat' (first | exact trivial | exact rfl | exact Z.low_nil | exact Z.low_nil2 | exact low_osl (fun _ => rfl) | (refine Z.low_osln ?_ (fun _ => rfl); (simp only [List.length_map]; done)) | exact low_oslr (fun _ => rfl) | exact Z.low_gslm (by first | rfl | exact Z.kb_some rfl) (fun _ => rfl) | exact .inl rfl | exact .inr ⟨_, rfl⟩ | apply And.intro)); done)); (iterate 1 (focus (first | assumption | omega | ((try simp only [LN] at *); omega))))))
    all_goals (try (conv => whnf))
    refine Z.loopK tabOk (fun zq : Nat × List Int => [(44, .val (.int .i64 (zq.1 : Int)))]) (fun zq : Nat × List Int => ([(3, some (Z.Ob.b ⟨(zq.2).map cB, 1, 5, false⟩))] : Z.Kr)) (fun zq => zq.1 ≤ (shB bs).length ∧ (zq.2).length = (shB bs).length) (fun zq => (shB bs).length - zq.1) (0, shB bs) 4 [(4, _), (5, _), (43, _)] ⟨rfl, rfl, rfl, trivial⟩ [(0, some _), (1, some _), (2, some _)] ⟨rfl, rfl, rfl, trivial⟩ ?_ ?_ rfl rfl ⟨Nat.zero_le _, rfl⟩ ?_
    · repeat' (first | exact trivial | apply And.intro | exact ⟨_, rfl, rfl⟩ | exact ⟨_, rfl, Z.Imp.refl _⟩ | exact ⟨_, rfl, Z.Imp.nilg _⟩ | exact ⟨_, rfl, Z.Imp.nilr _ _⟩)
    · repeat' (first | exact trivial | (intro b hb; cases hb; done) | exact (fun b hb => ⟨b, hb, Z.ImpO.refl b⟩) | (intro b hb; cases hb; refine ⟨_, rfl, ⟨rfl, rfl, rfl⟩, ?_⟩; (repeat' (first | exact trivial | apply And.intro | exact Z.Imp.refl _ | exact Z.Imp.nilg _ | exact Z.Imp.nilr _ _)); done) | (intro b hb; cases hb; refine ⟨_, rfl, ⟨rfl, rfl, rfl⟩, Z.imp_eq ?_⟩; first | rfl | exact ren_map (fun _ => rfl) | exact (ren_map (fun _ => rfl)).symm; done) | apply And.intro)
    rintro ⟨h, L⟩ HINV
    dsimp only at HINV ⊢
    obtain ⟨HH, HLN⟩ := HINV
    by_cases hhl : h < L.length
    rotate_left
    · skip
      repeat' ((conv => whnf); first
        | (with_reducible refine spB_dec ?_ ?_ <;> intro _ <;> (try (exfalso; first | contradiction | omega | (simp only [LN] at *; omega)))))
      all_goals (try (conv => whnf))
      all_goals first
        | (refine Z.retF1 [.agg [.v (.int .u64 (sent + 1)), .ro true 4 ((ps ++ [(⟨sent + 1, fr, to, shB bs⟩ : Pc)]).map eP), .v (.int .u64 (sent + 1)), .v (.int .u64 ((⟨0, 0, 0, []⟩ : Pc)).num), .v (.int .i64 ((⟨0, 0, 0, []⟩ : Pc)).fr), .v (.int .i64 ((⟨0, 0, 0, []⟩ : Pc)).to), .v (.slice none 0 0), .v (.int .i64 (0)), .v (.int .i64 (0))]] (by kernel_rfl) ⟨⟨rfl, rfl, rfl, rfl, rfl, rfl, Z.frz_nil, rfl, rfl, trivial⟩, trivial⟩)
        | (exfalso; simp only [LN] at *; omega)
        | (fail)
    obtain ⟨z, hz⟩ := getElem?_some' (xs := L) (i := h) hhl
    repeat' ((conv => whnf); first
      | (with_reducible refine spB_dec ?_ ?_ <;> intro _ <;> (try (exfalso; first | contradiction | omega | (simp only [LN] at *; omega))))
      | ((with_reducible refine rowN_mk (cB z) ?_ ?_); (focus (show (List.map cB L)[0 + h]? = some (cB z); rw [Nat.zero_add, List.getElem?_map, hz]; rfl)))
      | ((with_reducible apply ixN_litp); (focus (exact rfl)); (focus ((try simp only [LN] at *) <;> omega)))
      | with_reducible refine wr_i64 (by first | omega | (simp only [LN] at *; omega)) ?_)
    all_goals (try (conv => whnf))
    all_goals first
      | ((refine Z.rnd_rw 3 ((L.set h (IntKind.u8.wrap ((BitVec.ofInt IntKind.u8.bits z ^^^ BitVec.ofInt IntKind.u8.bits 238).toNat : Int))).map cB) rfl rfl ?_ ?_); (focus (rw [Nat.zero_add, List.map_set]; rfl)); ((refine Z.rndK ((h + 1, L.set h (IntKind.u8.wrap ((BitVec.ofInt IntKind.u8.bits z ^^^ BitVec.ofInt IntKind.u8.bits 238).toNat : Int)))) (fun s => [0, 1, 2, 3]) rfl rfl rfl rfl ?_ ?_ ?_ ?_); (focus (repeat' (first | exact trivial | exact rfl | (rw [List.map_append]; exact rfl) | apply And.intro))); (focus (repeat' (first | exact trivial | (intro b hb; cases hb; rfl) | (intro b hb; cases hb; subst hlb; rfl) | (intro b hb; cases hb; rw [List.map_append]; rfl) | (intro b hb; cases hb; done) | exact Z.blk_sub rfl rfl (ren_map fun _ => rfl) | exact Z.blk_sub rfl rfl (Z.ren_app (ren_map fun _ => rfl) (ren_map fun _ => rfl)) | exact Z.blk_sub rfl (by first | (rw [List.map_append]; rfl) | (rw [List.map_set]; rfl) | simp only [List.map_append, List.map_cons, List.map_nil, List.map_set]) (ren_map fun _ => rfl) | exact Z.gB_sub rfl rfl (ren_map fun _ => rfl) | exact Z.gB_sub' rfl (by first | rfl | (rw [List.map_append]; rfl) | simp only [List.map_append, List.map_cons, List.map_nil]) (ren_map fun _ => rfl) | apply And.intro))); (focus (refine ⟨by (try dsimp only); omega, ?_⟩; (try dsimp only); rw [List.length_set]; exact HLN)); ((try dsimp only); omega)))
      | (exfalso; simp only [LN] at *; omega)
      | (fail))

theorem run_s0 (kd fr to at0 : Int) (st ot : Bool) (bs : List Int) (sent : Int) (ps : List Pc) (hl : ps.length ≤ 100) (hb : ∀ p ∈ ps, p.bs.length ≤ 30001) (hbl : bs.length ≤ 9223372036854775807) (hk : okN sent ps = true) (K : Int) (hK : IntKind.u64.wrap kd % 7 = K) (hK3 : K = 0 ∨ K = 1 ∨ K = 2) (hs0 : 0 ≤ sent) (hS : ¬ okS fr to (shB bs).length ps.length sent) : Con Try.prog 19 [.agg [.v (.int .i64 kd), .v (.int .i64 fr), .v (.int .i64 to), .v (.int .i64 at0), .v (.bool st), .v (.bool ot), .ro false 1 (bs.map eB)], .agg [.v (.int .u64 sent), .ro false 4 (ps.map eP)]] (fun rx rK rt => rx = .pl (.agg [.v (.int .u64 (0)), .ro true 4 ((([] : List Pc)).map eP), .v (.int .u64 (0)), .v (.int .u64 ((⟨0, 0, 0, []⟩ : Pc)).num), .v (.int .i64 ((⟨0, 0, 0, []⟩ : Pc)).fr), .v (.int .i64 ((⟨0, 0, 0, []⟩ : Pc)).to), .ro true 1 (((⟨0, 0, 0, []⟩ : Pc)).bs.map eB), .v (.int .i64 (0)), .v (.int .i64 (sendE fr to (shB bs).length))]) ∧ rK = [] ∧ rt = 0) := by
  refine Z.con_ofF tabOk 84 Try.f19 _ Try.func19 (by kernel_rfl) rfl rfl rfl rfl ?_
  have hsl := shB_len bs
  rcases hK3 with rfl | rfl | rfl
  all_goals (
    skip
    repeat' ((conv => whnf); first
      | with_reducible first | refine spB_t ?_
      | ((with_reducible apply spB_cong); (focus (simp only [beq_self_eq_true, bne_self_eq_false, Bool.true_bne, Bool.false_bne, Bool.bne_true, Bool.bne_false, Bool.true_beq, Bool.false_beq, Bool.not_true, Bool.not_false, Bool.not_not, Int.reduceBEq, Int.reduceBNe, Int.reduceLE, Int.reduceLT, Int.reduceEq, decide_true, decide_false]; rfl)))
      | with_reducible first | refine spB_yes (by decide) ?_ | refine spB_no (by decide) ?_ | refine spB_f ?_ | refine spB_not ?_ | refine spB_yes (by assumption) ?_ | refine spB_no (by assumption) ?_
      | ((with_reducible refine vN_K hK ?_ ?_); (focus (exact Int.tmod_eq_emod_of_nonneg (wrap0 _))))
      | with_reducible first | refine wr_mk _ rfl ?_
      | with_reducible refine nzN_mk (by omega) ?_
      | ((first | (with_reducible apply Z.conZ_mz ?_ (send_bad _ _ _ _ _ ?_ ?_ ?_ ?_ ?_ ?_) ?_) | (with_reducible apply Z.callZ_mk ?_ (send_bad _ _ _ _ _ ?_ ?_ ?_ ?_ ?_ ?_) ?_)); (rotate_left 5); (focus ((repeat' (first | exact trivial | exact rfl | exact Z.low_nil | exact Z.low_nil2 | exact low_osl (fun _ => rfl) | (refine Z.low_osln ?_ (fun _ => rfl); (simp only [List.length_map]; done)) | exact low_oslr (fun _ => rfl) | exact Z.low_gslm (by first | rfl | exact Z.kb_some rfl) (fun _ => rfl) | exact .inl rfl | exact .inr ⟨_, rfl⟩ | apply And.intro)); done)); (iterate 6 (focus (first | assumption | omega | ((try simp only [LN] at *); omega)))))
      | ((first | (with_reducible apply Z.conZ_mz ?_ (bytes_con _ _ _ _ _ _ _ ?_) ?_) | (with_reducible apply Z.callZ_mk ?_ (bytes_con _ _ _ _ _ _ _ ?_) ?_)); (rotate_left 7); (focus ((repeat' (first | exact trivial | exact rfl | exact Z.low_nil | exact Z.low_nil2 | exact low_osl (fun _ => rfl) | (refine Z.low_osln ?_ (fun _ => rfl); (simp only [List.length_map]; done)) | exact low_oslr (fun _ => rfl) | exact Z.low_gslm (by first | rfl | exact Z.kb_some rfl) (fun _ => rfl) | exact .inl rfl | exact .inr ⟨_, rfl⟩ | apply And.intro)); done)); (iterate 1 (focus (first | assumption | omega | ((try simp only [LN] at *); omega))))))
    all_goals (try (conv => whnf))
    refine Z.loopK tabOk (fun zq : Nat × List Int => [(44, .val (.int .i64 (zq.1 : Int)))]) (fun zq : Nat × List Int => ([(3, some (Z.Ob.b ⟨(zq.2).map cB, 1, 5, false⟩))] : Z.Kr)) (fun zq => zq.1 ≤ (shB bs).length ∧ (zq.2).length = (shB bs).length) (fun zq => (shB bs).length - zq.1) (0, shB bs) 4 [(4, _), (5, _), (43, _)] ⟨rfl, rfl, rfl, trivial⟩ [(0, some _), (1, some _), (2, some _)] ⟨rfl, rfl, rfl, trivial⟩ ?_ ?_ rfl rfl ⟨Nat.zero_le _, rfl⟩ ?_
    · repeat' (first | exact trivial | apply And.intro | exact ⟨_, rfl, rfl⟩ | exact ⟨_, rfl, Z.Imp.refl _⟩ | exact ⟨_, rfl, Z.Imp.nilg _⟩ | exact ⟨_, rfl, Z.Imp.nilr _ _⟩)
    · repeat' (first | exact trivial | (intro b hb; cases hb; done) | exact (fun b hb => ⟨b, hb, Z.ImpO.refl b⟩) | (intro b hb; cases hb; refine ⟨_, rfl, ⟨rfl, rfl, rfl⟩, ?_⟩; (repeat' (first | exact trivial | apply And.intro | exact Z.Imp.refl _ | exact Z.Imp.nilg _ | exact Z.Imp.nilr _ _)); done) | (intro b hb; cases hb; refine ⟨_, rfl, ⟨rfl, rfl, rfl⟩, Z.imp_eq ?_⟩; first | rfl | exact ren_map (fun _ => rfl) | exact (ren_map (fun _ => rfl)).symm; done) | apply And.intro)
    rintro ⟨h, L⟩ HINV
    dsimp only at HINV ⊢
    obtain ⟨HH, HLN⟩ := HINV
    by_cases hhl : h < L.length
    rotate_left
    · skip
      repeat' ((conv => whnf); first
        | (with_reducible refine spB_dec ?_ ?_ <;> intro _ <;> (try (exfalso; first | contradiction | omega | (simp only [LN] at *; omega)))))
      all_goals (try (conv => whnf))
      all_goals first
        | (refine Z.retF1 [.agg [.v (.int .u64 (0)), .ro true 4 ((([] : List Pc)).map eP), .v (.int .u64 (0)), .v (.int .u64 ((⟨0, 0, 0, []⟩ : Pc)).num), .v (.int .i64 ((⟨0, 0, 0, []⟩ : Pc)).fr), .v (.int .i64 ((⟨0, 0, 0, []⟩ : Pc)).to), .v (.slice none 0 0), .v (.int .i64 (0)), .v (.int .i64 (sendE fr to (shB bs).length))]] (by kernel_rfl) ⟨⟨rfl, rfl, rfl, rfl, rfl, rfl, Z.frz_nil, rfl, rfl, trivial⟩, trivial⟩)
        | (exfalso; simp only [LN] at *; omega)
        | (fail)
    obtain ⟨z, hz⟩ := getElem?_some' (xs := L) (i := h) hhl
    repeat' ((conv => whnf); first
      | (with_reducible refine spB_dec ?_ ?_ <;> intro _ <;> (try (exfalso; first | contradiction | omega | (simp only [LN] at *; omega))))
      | ((with_reducible refine rowN_mk (cB z) ?_ ?_); (focus (show (List.map cB L)[0 + h]? = some (cB z); rw [Nat.zero_add, List.getElem?_map, hz]; rfl)))
      | ((with_reducible apply ixN_litp); (focus (exact rfl)); (focus ((try simp only [LN] at *) <;> omega)))
      | with_reducible refine wr_i64 (by first | omega | (simp only [LN] at *; omega)) ?_)
    all_goals (try (conv => whnf))
    all_goals first
      | ((refine Z.rnd_rw 3 ((L.set h (IntKind.u8.wrap ((BitVec.ofInt IntKind.u8.bits z ^^^ BitVec.ofInt IntKind.u8.bits 238).toNat : Int))).map cB) rfl rfl ?_ ?_); (focus (rw [Nat.zero_add, List.map_set]; rfl)); ((refine Z.rndK ((h + 1, L.set h (IntKind.u8.wrap ((BitVec.ofInt IntKind.u8.bits z ^^^ BitVec.ofInt IntKind.u8.bits 238).toNat : Int)))) (fun s => [0, 1, 2, 3]) rfl rfl rfl rfl ?_ ?_ ?_ ?_); (focus (repeat' (first | exact trivial | exact rfl | (rw [List.map_append]; exact rfl) | apply And.intro))); (focus (repeat' (first | exact trivial | (intro b hb; cases hb; rfl) | (intro b hb; cases hb; subst hlb; rfl) | (intro b hb; cases hb; rw [List.map_append]; rfl) | (intro b hb; cases hb; done) | exact Z.blk_sub rfl rfl (ren_map fun _ => rfl) | exact Z.blk_sub rfl rfl (Z.ren_app (ren_map fun _ => rfl) (ren_map fun _ => rfl)) | exact Z.blk_sub rfl (by first | (rw [List.map_append]; rfl) | (rw [List.map_set]; rfl) | simp only [List.map_append, List.map_cons, List.map_nil, List.map_set]) (ren_map fun _ => rfl) | exact Z.gB_sub rfl rfl (ren_map fun _ => rfl) | exact Z.gB_sub' rfl (by first | rfl | (rw [List.map_append]; rfl) | simp only [List.map_append, List.map_cons, List.map_nil]) (ren_map fun _ => rfl) | apply And.intro))); (focus (refine ⟨by (try dsimp only); omega, ?_⟩; (try dsimp only); rw [List.length_set]; exact HLN)); ((try dsimp only); omega)))
      | (exfalso; simp only [LN] at *; omega)
      | (fail))

end Go.Proofs.Ytaafippakgofiaa
