import Derived.Test.YtllnmdmmmkoiaaaOwn6
namespace Go.Proofs.Ytllnmdmmmkoiaaa
open Go Go.RowKit Wx
set_option linter.unusedVariables false
set_option linter.unusedSimpArgs false
set_option maxHeartbeats 4000000
theorem lay_n (ws : List Wk) (ps : List Pl) (ts : List Int) (hw : ws.length ≤ 1000) (hp : ps.length ≤ 1000) (ht : ts.length ≤ 1000) (hk : okF ws ps = true) (hwt : wantT ws ps ts = 0) (hpe : ps ≠ []) : Con Try.prog 18 [.agg [.ro false 2 ((ws).map eW), .ro false 2 ((ps).map eL)], .one (.ro false 1 (ts.map eI))] (fun rx rK rt => rx = .tup [.agg [.ro true 2 ((ws).map eW), .ro true 2 (((layT ws ps ts)).map eL)], .one (.v (.int .i64 0))] ∧ rK = [] ∧ rt = 0) := by
  refine Z.con_ofF tabOk 11 Try.f18 _ Try.func18 (by kernel_rfl) rfl rfl rfl rfl ?_
  have ck := check_con ws ps (by omega) (by (try simp only [LN] at *) <;> omega)
  rw [hk] at ck
  simp only [cond_true] at ck
  have cw := wanted_con ws ps ts hw (by (try simp only [LN] at *) <;> omega) ht hk
  rw [hwt] at cw
  have cc := clonew_f3 ws hw
  have cp := cloneq_con ps hp hpe
  obtain ⟨hkw, hkp, hkc⟩ := okF_all hk
  have hwl := okW_len hkw
  have hpl := okT_len hkp
  have hsw := (okW_all.1 hkw).1
  repeat' ((conv => whnf); first
    | ((with_reducible apply spB_cong); (focus (simp only [beq_self_eq_true, bne_self_eq_false, Bool.true_bne, Bool.false_bne, Bool.bne_true, Bool.bne_false, Bool.true_beq, Bool.false_beq, Bool.not_true, Bool.not_false, Bool.not_not, Int.reduceBEq, Int.reduceBNe, Int.reduceLE, Int.reduceLT, Int.reduceEq, decide_true, decide_false]; rfl)))
    | with_reducible first | refine spB_no (by decide) ?_
    | with_reducible first | refine Z.callZ_in tabOk 52 Try.f45 _ Try.func45 (by kernel_rfl) rfl rfl rfl ?_ | refine Z.callZ_in tabOk 36 Try.f47 _ Try.func47 (by kernel_rfl) rfl rfl rfl ?_ | refine Z.callZ_in tabOk 29 Try.f31 _ Try.func31 (by kernel_rfl) rfl rfl rfl ?_
    | ((first | (with_reducible refine Z.callZ_mk ?_ (cw) ?_) | (with_reducible refine Z.callZ_mk ?_ (ck) ?_) | (with_reducible refine Z.conZ_mz ?_ (cc) ?_) | (with_reducible refine Z.conZ_mz ?_ (cp) ?_)); (focus ((repeat' (first | exact trivial | exact rfl | apply And.intro)); done)))
    | with_reducible first | refine Z.drawZ_rule tabOk mixOk ?_ | refine Z.apZ_mk (by kernel_rfl) ?_)
  all_goals (try (conv => whnf))
  all_goals try (show Nat.ble _ _ = true; rfl)
  all_goals try (exfalso; rename_i hz; cases hz; done)
  all_goals try (exfalso; (try simp only [LN] at *) <;> omega)
  refine Z.loopK tabOk (fun zq : Nat × Y.MS => [(12, .val (.int .i64 (zq.1 : Int)))]) (fun zq : Nat × Y.MS => ([(8, some (Z.Ob.m zq.2)), (5, some (Z.Ob.b ⟨ps.map cL, 2, 66, false⟩))] : Z.Kr)) (fun zq => zq.1 ≤ ws.length ∧ Z.MapL .i64 enI zq.2 (mapW (ws.take zq.1))) (fun zq => ws.length - zq.1) (0, ⟨[], 0⟩) 9 [(1, _), (3, _), (10, _), (11, _)] ⟨rfl, rfl, rfl, rfl, trivial⟩ [(0, some _), (1, some _), (2, some _), (3, some _), (4, some _), (6, some _), (7, some _)] ⟨rfl, rfl, rfl, rfl, rfl, rfl, rfl, trivial⟩ ?_ ?_ rfl rfl ⟨Nat.zero_le _, Z.MapL.nil⟩ ?_
  · repeat' (first | exact trivial | apply And.intro | exact ⟨_, rfl, Z.Imp.refl _⟩)
  · repeat' (first | exact trivial | exact (fun b hb => ⟨b, hb, Z.ImpO.refl b⟩) | (intro b hb; cases hb; refine ⟨_, rfl, ⟨rfl, rfl, rfl⟩, Z.imp_eq ?_⟩; first | rfl | exact ren_map (fun _ => rfl) | exact (ren_map (fun _ => rfl)).symm; done) | apply And.intro)
  rintro ⟨i2, es⟩ HINV
  dsimp only at HINV ⊢
  obtain ⟨HI2, HM⟩ := HINV
  by_cases hi2 : i2 < ws.length
  · obtain ⟨w, hx⟩ := getElem?_some' (xs := ws) (i := i2) hi2
    repeat' ((conv => whnf); first
      | (with_reducible refine spB_dec ?_ ?_ <;> intro _ <;> (try (exfalso; first | contradiction | omega | (rename_i hz; refine hz ?_; simp; done) | (rename_i hz; simp at hz; done) | (simp only [LN] at *; omega))))
      | with_reducible first | refine Z.rowN_known hx ?_
      | ((with_reducible refine Z.MapL.upd' HM (v := w.sl) ?_ ?_); (focus rfl); (intro es3 HM))
      | ((with_reducible apply ixN_litp); (focus (exact rfl)); (focus ((try simp only [LN] at *) <;> omega)))
      | with_reducible refine wr_i64 (by first | omega | (simp only [LN] at *; omega)) ?_)
    all_goals (try (conv => whnf))
    all_goals try (show Nat.ble _ _ = true; rfl)
    all_goals first
      | ((refine Z.rndK ((i2 + 1, es3)) (fun s => [0, 1, 2, 3, 4, 5, 6, 7, 8]) rfl rfl rfl rfl ?_ ?_ ?_ ?_); (focus (repeat' (first | exact trivial | exact rfl | apply And.intro))); (focus (repeat' (first | exact trivial | exact Z.map_sub (Z.MapL.ren HM fun _ => rfl) rfl | (intro b hb; cases hb; rfl) | exact Z.blk_sub rfl rfl (ren_map fun _ => rfl) | apply And.intro))); (focus (refine ⟨by dsimp only; omega, ?_⟩; (try dsimp only); rw [← mapW_snoc hsw hx]; exact HM)); ((try dsimp only); omega))
  have hw9 := take_end hi2
  rw [hw9] at HM
  repeat' ((conv => whnf); first
    | (with_reducible refine spB_dec ?_ ?_ <;> intro _ <;> (try (exfalso; first | contradiction | omega | (rename_i hz; refine hz ?_; simp; done) | (rename_i hz; simp at hz; done) | (simp only [LN] at *; omega)))))
  all_goals (try (conv => whnf))
  all_goals try (show Nat.ble _ _ = true; rfl)
  all_goals try (exfalso; (try simp only [LN] at *) <;> omega)
  refine Z.loopK tabOk (fun zq : Nat × Y.MS => [(25, .val (.int .i64 (zq.1 : Int)))]) (fun zq : Nat × Y.MS => ([(8, some (Z.Ob.m zq.2)), (5, some (Z.Ob.b ⟨ps.map cL, 2, 66, false⟩))] : Z.Kr)) (fun zq => zq.1 ≤ ps.length ∧ ∃ L, Z.MapL .i64 enI zq.2 L ∧ (∀ y, (Z.lookK L y).getD 0 = slF ws y - cnt (ps.take zq.1) y) ∧ sumK L = sumW ws - (zq.1 : Int)) (fun zq => ps.length - zq.1) (0, es) 9 [(3, _), (23, _), (24, _)] ⟨rfl, rfl, rfl, trivial⟩ [(0, some _), (1, some _), (2, some _), (3, some _), (4, some _), (6, some _), (7, some _)] ⟨rfl, rfl, rfl, rfl, rfl, rfl, rfl, trivial⟩ ?_ ?_ rfl rfl ⟨Nat.zero_le _, _, HM, fun y => by rw [look_mapW]; simp [cnt], by rw [sum_mapW]; simp⟩ ?_
  · repeat' (first | exact trivial | apply And.intro | exact ⟨_, rfl, Z.Imp.refl _⟩)
  · repeat' (first | exact trivial | exact (fun b hb => ⟨b, hb, Z.ImpO.refl b⟩) | apply And.intro)
  rintro ⟨j2, es⟩ HINV
  dsimp only at HINV ⊢
  obtain ⟨HJ2, L, HM, HL, HS⟩ := HINV
  by_cases hj2 : j2 < ps.length
  · obtain ⟨q, hx⟩ := getElem?_some' (xs := ps) (i := j2) hj2
    have hv1 := HL q.wk
    have hv2 := okW_sl hkw q.wk
    have hv3 := cnt_nn (ps := ps.take j2) (y := q.wk)
    have hv4 : (ps.take j2).length ≤ 16 := by rw [List.length_take]; omega
    have hsp := sum_put (L := L) (k := q.wk) (v := (Z.lookK L q.wk).getD 0 - 1)
    repeat' ((conv => whnf); first
      | (with_reducible refine spB_dec ?_ ?_ <;> intro _ <;> (try (exfalso; first | contradiction | omega | (rename_i hz; refine hz ?_; simp; done) | (rename_i hz; simp at hz; done) | (simp only [LN] at *; omega))))
      | with_reducible first | refine Z.rowN_known hx ?_
      | ((with_reducible refine Z.MapL.look HM (z0 := (0 : Int)) ?_ ?_); (focus rfl))
      | ((with_reducible refine Z.MapL.upd' HM (v := (Z.lookK L q.wk).getD 0 - 1) ?_ ?_); (focus rfl); (intro es3 HM))
      | ((with_reducible apply ixN_litp); (focus (exact rfl)); (focus ((try simp only [LN] at *) <;> omega)))
      | with_reducible refine wr_i64 (by first | omega | (simp only [LN] at *; omega)) ?_)
    all_goals (try (conv => whnf))
    all_goals try (show Nat.ble _ _ = true; rfl)
    all_goals first
      | ((refine Z.rndK ((j2 + 1, es3)) (fun s => [0, 1, 2, 3, 4, 5, 6, 7, 8]) rfl rfl rfl rfl ?_ ?_ ?_ ?_); (focus (repeat' (first | exact trivial | exact rfl | apply And.intro))); (focus (repeat' (first | exact trivial | exact Z.map_sub (Z.MapL.ren HM fun _ => rfl) rfl | (intro b hb; cases hb; rfl) | exact Z.blk_sub rfl rfl (ren_map fun _ => rfl) | apply And.intro))); (focus (refine ⟨by dsimp only; omega, _, HM, free_step hx HL rfl, ?_⟩; (try dsimp only); omega)); ((try dsimp only); omega))
  have hp9 := take_end hj2
  rw [hp9] at HL
  have hjl : j2 = ps.length := by omega
  subst hjl
  repeat' ((conv => whnf); first
    | (with_reducible refine spB_dec ?_ ?_ <;> intro _ <;> (try (exfalso; first | contradiction | omega | (rename_i hz; refine hz ?_; simp; done) | (rename_i hz; simp at hz; done) | (simp only [LN] at *; omega))))
    | ((with_reducible apply ex_and); exact rfl))
  all_goals (try (conv => whnf))
  all_goals try (show Nat.ble _ _ = true; rfl)
  all_goals try (exfalso; rename_i hz; cases hz; done)
  all_goals try (exfalso; (try simp only [LN] at *) <;> omega)
  refine Z.loopK tabOk (fun zq : Nat × Option (List Pl) × Y.MS => [(21, .val (.int .i64 (zq.1 : Int)))]) (fun zq : Nat × Option (List Pl) × Y.MS => ([(6, some (Z.Ob.b ⟨[[.ro true 2 (ws.map eW), cel (.osl 5 0 ps.length none) 9 zq.2.1]], 2, 25, true⟩)), (8, some (Z.Ob.m zq.2.2)), (9, bln zq.2.1), (5, blo (some (.b ⟨ps.map cL, 2, 66, false⟩)) zq.2.1)] : Z.Kr)) (fun zq => zq.1 ≤ ts.length ∧ (zq.2.1.getD ps).length = ps.length + zq.1 ∧ layT ws ps ts = layT ws (zq.2.1.getD ps) (ts.drop zq.1) ∧ ∃ L, Z.MapL .i64 enI zq.2.2 L ∧ ∀ y, (Z.lookK L y).getD 0 = leftF ws (zq.2.1.getD ps) y) (fun zq => ts.length - zq.1) (0, none, es) 10 [(0, _), (1, _), (6, _), (19, _), (20, _)] ⟨rfl, rfl, rfl, rfl, rfl, trivial⟩ [(0, some _), (1, some _), (2, some _), (3, some _), (4, some _)] ⟨rfl, rfl, rfl, rfl, rfl, trivial⟩ ?_ ?_ rfl rfl ⟨Nat.zero_le _, rfl, rfl, L, HM, HL⟩ ?_
  · repeat' (first | exact trivial | apply And.intro | exact ⟨_, rfl, Z.Imp.refl _⟩)
  · repeat' (first | exact trivial | (intro b hb; cases hb; done) | exact (fun b hb => ⟨b, hb, Z.ImpO.refl b⟩) | apply And.intro)
  rintro ⟨i, o, es⟩ HINV
  dsimp only at HINV ⊢
  clear HM HL HS
  obtain ⟨HI, HAl, HO, L, HM, HL⟩ := HINV
  rcases o with _ | A
  · dsimp only [cel, blo, bln, Option.getD_none] at HAl HO HL ⊢
    by_cases hi : i < ts.length
    rotate_left
    · have hlay : ps = layT ws ps ts := by rw [HO, List.drop_eq_nil_of_le (by omega)]; rfl
      rw [← hlay]
      repeat' ((conv => whnf); first
        | ((with_reducible apply spB_cong); (focus (simp only [beq_self_eq_true, bne_self_eq_false, Bool.true_bne, Bool.false_bne, Bool.bne_true, Bool.bne_false, Bool.true_beq, Bool.false_beq, Bool.not_true, Bool.not_false, Bool.not_not, Int.reduceBEq, Int.reduceBNe, Int.reduceLE, Int.reduceLT, Int.reduceEq, decide_true, decide_false]; rfl)))
        | with_reducible first | refine spB_no (by decide) ?_
        | (with_reducible refine spB_dec ?_ ?_ <;> intro _ <;> (try (exfalso; first | contradiction | omega | (rename_i hz; refine hz ?_; simp; done) | (rename_i hz; simp at hz; done) | (simp only [LN] at *; omega))))
        | ((with_reducible apply ex_and); exact rfl))
      all_goals (try (conv => whnf))
      all_goals try (show Nat.ble _ _ = true; rfl)
      all_goals first
        | (refine Z.retF2 [.agg [.ro true 2 (ws.map eW), .osl 5 0 ps.length none], .one (.v (.int .i64 0))] (by rfl) ⟨⟨rfl, (Z.frz_osl (l := ps) (f := cL) (ty := 66) (bx := false) (by rfl) rfl (fun _ => rfl)), trivial⟩, rfl, trivial⟩)
    obtain ⟨t, hx⟩ := getElem?_some' (xs := ts) (i := i) hi
    repeat' ((conv => whnf); first
      | (with_reducible refine spB_dec ?_ ?_ <;> intro _ <;> (try (exfalso; first | contradiction | omega | (rename_i hz; refine hz ?_; simp; done) | (rename_i hz; simp at hz; done) | (simp only [LN] at *; omega))))
      | with_reducible first | refine Z.rowN_known hx ?_
      | ((with_reducible apply ixN_litp); (focus (exact rfl)); (focus ((try simp only [LN] at *) <;> omega)))
      | with_reducible first | refine Z.callZ_in tabOk 31 Try.f48 _ Try.func48 (by kernel_rfl) rfl rfl rfl ?_)
    all_goals (try (conv => whnf))
    all_goals try (show Nat.ble _ _ = true; rfl)
    all_goals try (exfalso; rename_i hz; cases hz; done)
    all_goals try (exfalso; (try simp only [LN] at *) <;> omega)
    refine Z.loopK tabOk (fun zq : Nat × Int => [(11, .val (.int .i64 (zq.1 : Int))), (5, .val (.int .i64 zq.2))]) (fun zq : Nat × Int => ([] : Z.Kr)) (fun zq => zq.1 ≤ ws.length ∧ roomF (leftF ws ps) ws 0 = roomF (leftF ws ps) (ws.drop zq.1) zq.2) (fun zq => ws.length - zq.1) (0, 0) 12 [(1, _), (9, _), (10, _)] ⟨rfl, rfl, rfl, trivial⟩ [(0, some _), (1, some _), (2, some _), (3, some _), (4, some _), (5, some _), (6, some _), (8, some _), (10, some _), (11, some _)] ⟨rfl, rfl, rfl, rfl, rfl, rfl, rfl, rfl, rfl, rfl, trivial⟩ ?_ ?_ rfl rfl ⟨Nat.zero_le _, rfl⟩ ?_
    · repeat' (first | exact trivial | apply And.intro | exact ⟨_, rfl, Z.Imp.refl _⟩)
    · repeat' (first | exact trivial)
    rintro ⟨j, bb⟩ HINV
    dsimp only at HINV ⊢
    obtain ⟨HJ, HR⟩ := HINV
    by_cases hj : j < ws.length
    · obtain ⟨w, hy⟩ := getElem?_some' (xs := ws) (i := j) hj
      have h1 := HL w.id
      have h2 := HL bb
      repeat' ((conv => whnf); first
        | with_reducible first | refine spB_t ?_
        | with_reducible first | refine spB_no (by decide) ?_
        | (with_reducible refine spB_dec ?_ ?_ <;> intro _ <;> (try (exfalso; first | contradiction | omega | (rename_i hz; refine hz ?_; simp; done) | (rename_i hz; simp at hz; done) | (simp only [LN] at *; omega))))
        | (with_reducible refine spB_beq ?_ ?_ <;> intro _ <;> (try (exfalso; first | contradiction | omega | (rename_i hz; refine hz ?_; simp; done) | (rename_i hz; simp at hz; done) | (simp only [LN] at *; omega))))
        | with_reducible first | refine Z.rowN_known hy ?_
        | ((with_reducible refine Z.MapL.look HM (z0 := (0 : Int)) ?_ ?_); (focus rfl))
        | ((with_reducible apply ixN_litp); (focus (exact rfl)); (focus ((try simp only [LN] at *) <;> omega)))
        | with_reducible refine wr_i64 (by first | omega | (simp only [LN] at *; omega)) ?_)
      all_goals (try (conv => whnf))
      all_goals try (show Nat.ble _ _ = true; rfl)
      all_goals first
        | ((refine Z.rndK ((j + 1, w.id)) (fun s => [0, 1, 2, 3, 4, 5, 6, 7, 8, 9, 10, 11]) rfl rfl rfl rfl ?_ ?_ ?_ ?_); (focus (repeat' (first | exact trivial | exact rfl | apply And.intro))); (focus (repeat' (first | exact trivial | exact Z.map_sub (Z.MapL.ren HM fun _ => rfl) rfl | (intro b hb; cases hb; rfl) | exact Z.blk_sub rfl rfl (ren_map fun _ => rfl) | apply And.intro))); (focus (refine ⟨by (try dsimp only); omega, ?_⟩; (try dsimp only); rw [HR, drop_cons hy, roomF, if_pos (by first | (left; omega) | (right; omega))])); ((try dsimp only); omega))
        | ((refine Z.rndK ((j + 1, bb)) (fun s => [0, 1, 2, 3, 4, 5, 6, 7, 8, 9, 10, 11]) rfl rfl rfl rfl ?_ ?_ ?_ ?_); (focus (repeat' (first | exact trivial | exact rfl | apply And.intro))); (focus (repeat' (first | exact trivial | exact Z.map_sub (Z.MapL.ren HM fun _ => rfl) rfl | (intro b hb; cases hb; rfl) | exact Z.blk_sub rfl rfl (ren_map fun _ => rfl) | apply And.intro))); (focus (refine ⟨by (try dsimp only); omega, ?_⟩; (try dsimp only); rw [HR, drop_cons hy, roomF, if_neg (by omega)])); ((try dsimp only); omega))
    rw [drop_end hj, roomF] at HR
    have hlb := HL bb
    have hb1 := okW_sl hkw bb
    have hb2 := cnt_nn (ps := ps) (y := bb)
    have hlb2 : (Z.lookK L bb).getD 0 = slF ws bb - cnt ps bb := hlb
    have hAle : ps.length ≤ 1016 := by (try simp only [LN] at *) <;> omega
    repeat' ((conv => whnf); first
      | (with_reducible refine spB_dec ?_ ?_ <;> intro _ <;> (try (exfalso; first | contradiction | omega | (rename_i hz; refine hz ?_; simp; done) | (rename_i hz; simp at hz; done) | (simp only [LN] at *; omega))))
      | ((with_reducible refine Z.MapL.look HM (z0 := (0 : Int)) ?_ ?_); (focus rfl))
      | ((with_reducible refine Z.MapL.upd' HM (v := (Z.lookK L bb).getD 0 - 1) ?_ ?_); (focus rfl); (intro es3 HM))
      | with_reducible refine wr_i64 (by first | omega | (simp only [LN] at *; omega)) ?_
      | with_reducible first | refine Z.callZ_in tabOk 21 Try.f49 _ Try.func49 (by kernel_rfl) rfl rfl rfl ?_
      | ((with_reducible apply ex_and); exact rfl))
    all_goals (try (conv => whnf))
    all_goals try (show Nat.ble _ _ = true; rfl)
    all_goals try (exfalso; rename_i hz; cases hz; done)
    all_goals try (exfalso; (try simp only [LN] at *) <;> omega)
    have hgl : gtT ps t ≤ ps.length := gtT_le
    generalize hgk : gtT ps t = k at *
    have hins : insT ps ⟨t, bb⟩ = ps.take k ++ (⟨t, bb⟩ : Pl) :: ps.drop k := by unfold insT; rw [hgk]
    by_cases hkl : k < ps.length
    · skip
      refine Z.loopK tabOk (fun zq : Nat => [(9, .val (.int .i64 (zq : Int)))]) (fun zq : Nat => ([] : Z.Kr)) (fun zq => zq ≤ k) (fun zq => ps.length - zq) 0 12 [(0, _), (1, _), (7, _), (8, _)] ⟨rfl, rfl, rfl, rfl, trivial⟩ [(0, some _), (1, some _), (2, some _), (3, some _), (4, some _), (5, some _), (6, some _), (8, some _), (10, some _), (11, some _)] ⟨rfl, rfl, rfl, rfl, rfl, rfl, rfl, rfl, rfl, rfl, trivial⟩ ?_ ?_ rfl rfl (Nat.zero_le _) ?_
      · repeat' (first | exact trivial | apply And.intro | exact ⟨_, rfl, Z.Imp.refl _⟩)
      · repeat' (first | exact trivial)
      rintro q HINV
      dsimp only at HINV ⊢
      obtain ⟨x, hy⟩ := getElem?_some' (xs := ps) (i := q) (by omega)
      by_cases hj : q < k
      · have hxa : ¬ t < x.task := gtT_lt hgk hj hy
        repeat' ((conv => whnf); first
          | (with_reducible refine spB_dec ?_ ?_ <;> intro _ <;> (try (exfalso; first | contradiction | omega | (rename_i hz; refine hz ?_; simp; done) | (rename_i hz; simp at hz; done) | (simp only [LN] at *; omega))))
          | ((with_reducible refine rowN_mk (cL x) ?_ ?_); (focus (show (List.map cL ps)[0 + q]? = some (cL x); rw [Nat.zero_add, List.getElem?_map, hy]; rfl)))
          | ((with_reducible apply ixN_litp); (focus (exact rfl)); (focus ((try simp only [LN] at *) <;> omega)))
          | with_reducible refine wr_i64 (by first | omega | (simp only [LN] at *; omega)) ?_
          | with_reducible first | refine Z.callZ_in tabOk 8 Try.f50 _ Try.func50 (by kernel_rfl) rfl rfl rfl ?_
          | ((with_reducible apply ex_and); exact rfl))
        all_goals (try (conv => whnf))
        all_goals try (show Nat.ble _ _ = true; rfl)
        all_goals first
          | ((refine Z.rndK ((q + 1)) (fun s => [0, 1, 2, 3, 4, 5, 6, 7, 8, 9, 10, 11]) rfl rfl rfl rfl ?_ ?_ ?_ ?_); (focus (repeat' (first | exact trivial | exact rfl | apply And.intro))); (focus (repeat' (first | exact trivial | exact Z.map_sub (Z.MapL.ren HM fun _ => rfl) rfl | (intro b hb; cases hb; rfl) | exact Z.blk_sub rfl rfl (ren_map fun _ => rfl) | apply And.intro))); (focus (omega)); ((try dsimp only); omega))
      have hji : q = k := by omega
      subst hji
      have hxa : t < x.task := gtT_at hgk hy
      repeat' ((conv => whnf); first
        | with_reducible first | refine spB_t ?_
        | ((with_reducible apply spB_cong); (focus (simp only [beq_self_eq_true, bne_self_eq_false, Bool.true_bne, Bool.false_bne, Bool.bne_true, Bool.bne_false, Bool.true_beq, Bool.false_beq, Bool.not_true, Bool.not_false, Bool.not_not, Int.reduceBEq, Int.reduceBNe, Int.reduceLE, Int.reduceLT, Int.reduceEq, decide_true, decide_false]; rfl)))
        | with_reducible first | refine spB_no (by decide) ?_
        | (with_reducible refine spB_dec ?_ ?_ <;> intro _ <;> (try (exfalso; first | contradiction | omega | (rename_i hz; refine hz ?_; simp; done) | (rename_i hz; simp at hz; done) | (simp only [LN] at *; omega))))
        | (with_reducible refine spB_beq ?_ ?_ <;> intro _ <;> (try (exfalso; first | contradiction | omega | (rename_i hz; refine hz ?_; simp; done) | (rename_i hz; simp at hz; done) | (simp only [LN] at *; omega))))
        | ((with_reducible refine Z.ConZ.red ?_); (apply Z.conZ_ins (N := (ps.take q ++ (⟨t, bb⟩ : Pl) :: ps.drop q).length) (B := ⟨(ps.take q ++ (⟨t, bb⟩ : Pl) :: ps.drop q).map cL, 2, 66, false⟩)); (focus rfl); (focus (repeat (first | exact Z.FK.nil | (apply Z.FK.keep; exact rfl) | (apply Z.FK.drop; exact rfl)))); (focus (repeat (first | exact trivial | (refine ⟨(fun o ho => (by first | (cases ho; rfl) | (cases ho; exact Z.inL_map fun _ => rfl) | (cases ho; exact Z.inL_mapr fun _ => rfl) | exact Z.inL_gB ho fun _ => rfl)), ?_⟩)))); (focus rfl); (focus (exact Z.inL_map fun _ => rfl)))
        | ((apply Z.callZ_capS (n := ps.length)); (focus (exact rfl)); (focus (simp; done)); (intro capv hcapv; refine ⟨fun hcap => ?_, fun hcap gv hgv => ?_⟩))
        | ((with_reducible apply Z.callZ_ovl (tS := 23) (tR := 4) tabOk Try.f65 Try.func65 (by kernel_rfl) (by kernel_rfl) (by kernel_rfl) (by kernel_rfl)); (iterate 4 (focus (exact rfl))); (focus (exact Nat.ne_of_beq_eq_false rfl)); (focus (simp; done)); (focus (exact Nat.zero_lt_succ _)))
        | ((with_reducible refine Z.slN_lo (q) ?_ ?_ ?_); (focus rfl); (focus ((try simp only [LN] at *) <;> omega)))
        | ((with_reducible refine Z.slN_lo (q + 1) ?_ ?_ ?_); (focus rfl); (focus ((try simp only [LN] at *) <;> omega)))
        | ((with_reducible refine slN_hi (q) ?_ ?_ ?_); (focus rfl); (focus ((try simp only [LN] at *) <;> omega)))
        | ((with_reducible refine slN_hc (ps.length + 1) ?_ ?_ ?_); (focus rfl); (focus (exact ⟨_, rfl, by omega⟩)))
        | ((with_reducible refine apzE_k ?_); (with_reducible refine apzK_mk (ps.length + 1 - q) ⟨_, rfl, ?_⟩ ?_ ?_ ?_ ?_ ?_ ?_); (focus ((try simp only [LN] at *) <;> omega)); (focus ((try simp only [LN] at *) <;> omega)); (focus (exact g_le (f := cL) rfl (by omega))); (iterate 2 (focus ((try simp only [LN] at *) <;> omega))); (focus rfl))
        | ((with_reducible refine cpyN.mk ?_ ?_ ?_ ?_); (focus rfl); (focus (exact one_all (by rfl))); (focus (exact g_fit (f := cL) rfl (by omega) (by (try simp only [LN] at *) <;> omega))))
        | ((with_reducible refine cpyN.mk ?_ ?_ ?_ ?_); (focus (exact g_len (f := cL) rfl (by (try simp only [LN] at *) <;> omega))); (focus (exact g_one cL_one rfl)); (focus (exact g_fit2 (f := cL) rfl (by omega) (by (try simp only [LN] at *) <;> omega) gS_len)))
        | ((with_reducible refine cpyN.mk2 ?_ ?_ ?_ ?_); (focus (exact g_lenp (f := cL) (by (try simp only [LN] at *) <;> omega))); (focus (exact g_onep cL_one (g_min (by (try simp only [LN] at *) <;> omega)))); (focus (exact g_fitp (f := cL) (by (try simp only [LN] at *) <;> omega))))
        | ((with_reducible refine cpyN.mk ?_ ?_ ?_ ?_); (focus rfl); (focus (exact one_all (by rfl))); (focus (exact g_fitp2 (f := cL) (by (try simp only [LN] at *) <;> omega) (g_fitk (by (try simp only [LN] at *) <;> omega)))))
        | ((with_reducible refine rowN_mk (cL x) ?_ ?_); (focus (show (List.map cL ps)[0 + q]? = some (cL x); rw [Nat.zero_add, List.getElem?_map, hy]; rfl)))
        | ((with_reducible apply ixN_litp); (focus (exact rfl)); (focus ((try simp only [LN] at *) <;> omega)))
        | ((with_reducible refine slE_a ?_ ?_); (focus ((try simp only [LN] at *) <;> omega)))
        | with_reducible refine wr_i64 (by first | omega | (simp only [LN] at *; omega)) ?_
        | with_reducible first | refine Z.callZ_in tabOk 8 Try.f50 _ Try.func50 (by kernel_rfl) rfl rfl rfl ?_ | refine Z.callZ_in tabOk 95 Try.f51 _ Try.func51 (by kernel_rfl) rfl rfl rfl ?_
        | ((with_reducible apply ex_and); exact rfl)
        | with_reducible first | refine Z.drawZ_rule tabOk mixOk ?_ | refine Z.apZ_mk (by kernel_rfl) ?_)
      all_goals (try (conv => whnf))
      all_goals try (show Nat.ble _ _ = true; rfl)
      all_goals first
        | (refine ⟨Nat.le_of_ble_eq_true rfl, _, _, _, _, rfl, rfl, ?_, ?_⟩; (focus ((try simp only [LN]) <;> omega)); (exact g_ins (f := cL) rfl (by omega) rfl (gS_eq (by omega) rfl) (gT_eq (f := cL) rfl (Nat.le_min.2 ⟨by omega, by omega⟩) (by omega))))
        | (refine ⟨Nat.le_of_ble_eq_true rfl, _, _, _, _, rfl, rfl, ?_, ?_⟩; (focus ((try simp only [LN]) <;> omega)); (exact g_insp (f := cL) (by omega) (gS_eq (by omega) rfl) (gT_eqp (f := cL) (by omega) (.inl ⟨(Nat.min_eq_right (by omega)).trans (by omega), by omega⟩))))
        | ((refine Z.rndK ((i + 1, some (ps.take q ++ (⟨t, bb⟩ : Pl) :: ps.drop q), es3)) (fun s => [0, 1, 2, 3, 4, 5, 6, 7, 8, s.idIn 6 1]) rfl rfl rfl rfl ?_ ?_ ?_ ?_); (focus (repeat' (first | exact trivial | exact rfl | apply And.intro))); (focus (repeat' (first | exact trivial | exact Z.map_sub (Z.MapL.ren HM fun _ => rfl) rfl | (intro b hb; cases hb; rfl) | (intro b hb; cases hb; done) | exact Z.blk_sub rfl rfl (ren_map fun _ => rfl) | apply And.intro))); (focus (refine ⟨by (try dsimp only); omega, by (try dsimp only [Option.getD_some]); rw [← hins, insT_len]; (try simp only [LN] at *) <;> omega, by (try dsimp only [Option.getD_some]); rw [← hins]; exact layT_step hx HR HO, _, HM, ?_⟩; (try dsimp only [Option.getD_some]); rw [← hins]; exact lay_step (p := ⟨t, bb⟩) HL rfl)); ((try dsimp only); omega))
    · have hkA : k = ps.length := by omega
      rw [hkA, List.take_length, List.drop_length] at hins
      refine Z.loopK tabOk (fun zq : Nat => [(9, .val (.int .i64 (zq : Int)))]) (fun zq : Nat => ([] : Z.Kr)) (fun zq => zq ≤ k) (fun zq => ps.length - zq) 0 12 [(0, _), (1, _), (7, _), (8, _)] ⟨rfl, rfl, rfl, rfl, trivial⟩ [(0, some _), (1, some _), (2, some _), (3, some _), (4, some _), (5, some _), (6, some _), (8, some _), (10, some _), (11, some _)] ⟨rfl, rfl, rfl, rfl, rfl, rfl, rfl, rfl, rfl, rfl, trivial⟩ ?_ ?_ rfl rfl (Nat.zero_le _) ?_
      · repeat' (first | exact trivial | apply And.intro | exact ⟨_, rfl, Z.Imp.refl _⟩)
      · repeat' (first | exact trivial)
      rintro q HINV
      dsimp only at HINV ⊢
      by_cases hj : q < ps.length
      · obtain ⟨x, hy⟩ := getElem?_some' (xs := ps) (i := q) hj
        have hxa : ¬ t < x.task := gtT_lt hgk (by omega) hy
        repeat' ((conv => whnf); first
          | (with_reducible refine spB_dec ?_ ?_ <;> intro _ <;> (try (exfalso; first | contradiction | omega | (rename_i hz; refine hz ?_; simp; done) | (rename_i hz; simp at hz; done) | (simp only [LN] at *; omega))))
          | ((with_reducible refine rowN_mk (cL x) ?_ ?_); (focus (show (List.map cL ps)[0 + q]? = some (cL x); rw [Nat.zero_add, List.getElem?_map, hy]; rfl)))
          | ((with_reducible apply ixN_litp); (focus (exact rfl)); (focus ((try simp only [LN] at *) <;> omega)))
          | with_reducible refine wr_i64 (by first | omega | (simp only [LN] at *; omega)) ?_
          | with_reducible first | refine Z.callZ_in tabOk 8 Try.f50 _ Try.func50 (by kernel_rfl) rfl rfl rfl ?_
          | ((with_reducible apply ex_and); exact rfl))
        all_goals (try (conv => whnf))
        all_goals try (show Nat.ble _ _ = true; rfl)
        all_goals first
          | ((refine Z.rndK ((q + 1)) (fun s => [0, 1, 2, 3, 4, 5, 6, 7, 8, 9, 10, 11]) rfl rfl rfl rfl ?_ ?_ ?_ ?_); (focus (repeat' (first | exact trivial | exact rfl | apply And.intro))); (focus (repeat' (first | exact trivial | exact Z.map_sub (Z.MapL.ren HM fun _ => rfl) rfl | (intro b hb; cases hb; rfl) | exact Z.blk_sub rfl rfl (ren_map fun _ => rfl) | apply And.intro))); (focus (omega)); ((try dsimp only); omega))
      have hji : q = ps.length := by omega
      subst hji
      repeat' ((conv => whnf); first
        | with_reducible first | refine spB_t ?_
        | ((with_reducible apply spB_cong); (focus (simp only [beq_self_eq_true, bne_self_eq_false, Bool.true_bne, Bool.false_bne, Bool.bne_true, Bool.bne_false, Bool.true_beq, Bool.false_beq, Bool.not_true, Bool.not_false, Bool.not_not, Int.reduceBEq, Int.reduceBNe, Int.reduceLE, Int.reduceLT, Int.reduceEq, decide_true, decide_false]; rfl)))
        | with_reducible first | refine spB_no (by decide) ?_
        | (with_reducible refine spB_dec ?_ ?_ <;> intro _ <;> (try (exfalso; first | contradiction | omega | (rename_i hz; refine hz ?_; simp; done) | (rename_i hz; simp at hz; done) | (simp only [LN] at *; omega))))
        | ((with_reducible refine Z.ConZ.red ?_); (apply Z.conZ_ins (N := (ps ++ [(⟨t, bb⟩ : Pl)]).length) (B := ⟨(ps ++ [(⟨t, bb⟩ : Pl)]).map cL, 2, 66, false⟩)); (focus rfl); (focus (repeat (first | exact Z.FK.nil | (apply Z.FK.keep; exact rfl) | (apply Z.FK.drop; exact rfl)))); (focus (repeat (first | exact trivial | (refine ⟨(fun o ho => (by first | (cases ho; rfl) | (cases ho; exact Z.inL_map fun _ => rfl) | (cases ho; exact Z.inL_mapr fun _ => rfl) | exact Z.inL_gB ho fun _ => rfl)), ?_⟩)))); (focus rfl); (focus (exact Z.inL_map fun _ => rfl)))
        | ((apply Z.callZ_capS (n := ps.length)); (focus (exact rfl)); (focus (simp; done)); (intro capv hcapv; refine ⟨fun hcap => ?_, fun hcap gv hgv => ?_⟩))
        | ((with_reducible refine Z.slN_lo (ps.length) ?_ ?_ ?_); (focus rfl); (focus ((try simp only [LN] at *) <;> omega)))
        | ((with_reducible refine apdE_r ?_); (with_reducible refine aprN.mk ⟨_, rfl, ?_⟩ ?_ ?_ ?_ ?_); (focus omega); (focus rfl); (focus (exact one_all (by rfl))); (focus (simp; done)))
        | ((with_reducible refine apdE_k ?_); (with_reducible refine apkN.mk ⟨_, rfl, ?_⟩ ?_); (focus omega); (with_reducible refine apdN.mk ?_ ?_ ?_ ?_ ?_ ?_); (focus rfl); (focus (exact one_all (by rfl))); (focus (simp; done)); (focus ((try simp only [LN] at *) <;> omega)); (focus ((try simp only [LN] at *) <;> omega)))
        | ((with_reducible refine slE_b ?_ ?_); (focus ((try simp only [LN] at *) <;> omega)))
        | with_reducible refine wr_i64 (by first | omega | (simp only [LN] at *; omega)) ?_
        | with_reducible first | refine Z.callZ_in tabOk 95 Try.f51 _ Try.func51 (by kernel_rfl) rfl rfl rfl ?_
        | ((with_reducible apply ex_and); exact rfl)
        | with_reducible first | refine Z.drawZ_rule tabOk mixOk ?_ | refine Z.apZ_mk (by kernel_rfl) ?_)
      all_goals (try (conv => whnf))
      all_goals try (show Nat.ble _ _ = true; rfl)
      all_goals first
        | (refine ⟨Nat.le_of_ble_eq_true rfl, _, _, _, _, rfl, rfl, ?_, ?_⟩; (focus ((try simp only [LN]) <;> omega)); (exact g_app (f := cL) rfl rfl))
        | (refine ⟨Nat.le_of_ble_eq_true rfl, _, _, _, _, rfl, rfl, ?_, ?_⟩; (focus ((try simp only [LN]) <;> omega)); (exact g_appr (f := cL) rfl rfl))
        | ((refine Z.rndK ((i + 1, some (ps ++ [(⟨t, bb⟩ : Pl)]), es3)) (fun s => [0, 1, 2, 3, 4, 5, 6, 7, 8, s.idIn 6 1]) rfl rfl rfl rfl ?_ ?_ ?_ ?_); (focus (repeat' (first | exact trivial | exact rfl | apply And.intro))); (focus (repeat' (first | exact trivial | exact Z.map_sub (Z.MapL.ren HM fun _ => rfl) rfl | (intro b hb; cases hb; rfl) | (intro b hb; cases hb; done) | exact Z.blk_sub rfl rfl (ren_map fun _ => rfl) | apply And.intro))); (focus (refine ⟨by (try dsimp only); omega, by (try dsimp only [Option.getD_some]); rw [← hins, insT_len]; (try simp only [LN] at *) <;> omega, by (try dsimp only [Option.getD_some]); rw [← hins]; exact layT_step hx HR HO, _, HM, ?_⟩; (try dsimp only [Option.getD_some]); rw [← hins]; exact lay_step (p := ⟨t, bb⟩) HL rfl)); ((try dsimp only); omega))
  · dsimp only [cel, blo, bln, Option.getD_some] at HAl HO HL ⊢
    by_cases hi : i < ts.length
    rotate_left
    · have hlay : A = layT ws ps ts := by rw [HO, List.drop_eq_nil_of_le (by omega)]; rfl
      rw [← hlay]
      repeat' ((conv => whnf); first
        | ((with_reducible apply spB_cong); (focus (simp only [beq_self_eq_true, bne_self_eq_false, Bool.true_bne, Bool.false_bne, Bool.bne_true, Bool.bne_false, Bool.true_beq, Bool.false_beq, Bool.not_true, Bool.not_false, Bool.not_not, Int.reduceBEq, Int.reduceBNe, Int.reduceLE, Int.reduceLT, Int.reduceEq, decide_true, decide_false]; rfl)))
        | with_reducible first | refine spB_no (by decide) ?_
        | (with_reducible refine spB_dec ?_ ?_ <;> intro _ <;> (try (exfalso; first | contradiction | omega | (rename_i hz; refine hz ?_; simp; done) | (rename_i hz; simp at hz; done) | (simp only [LN] at *; omega))))
        | ((with_reducible apply ex_and); exact rfl))
      all_goals (try (conv => whnf))
      all_goals try (show Nat.ble _ _ = true; rfl)
      all_goals first
        | (refine Z.retF2 [.agg [.ro true 2 (ws.map eW), .osl 9 0 A.length none], .one (.v (.int .i64 0))] (by rfl) ⟨⟨rfl, (Z.frz_osl (l := A) (f := cL) (ty := 66) (bx := false) (by rfl) rfl (fun _ => rfl)), trivial⟩, rfl, trivial⟩)
    obtain ⟨t, hx⟩ := getElem?_some' (xs := ts) (i := i) hi
    repeat' ((conv => whnf); first
      | (with_reducible refine spB_dec ?_ ?_ <;> intro _ <;> (try (exfalso; first | contradiction | omega | (rename_i hz; refine hz ?_; simp; done) | (rename_i hz; simp at hz; done) | (simp only [LN] at *; omega))))
      | with_reducible first | refine Z.rowN_known hx ?_
      | ((with_reducible apply ixN_litp); (focus (exact rfl)); (focus ((try simp only [LN] at *) <;> omega)))
      | with_reducible first | refine Z.callZ_in tabOk 31 Try.f48 _ Try.func48 (by kernel_rfl) rfl rfl rfl ?_)
    all_goals (try (conv => whnf))
    all_goals try (show Nat.ble _ _ = true; rfl)
    all_goals try (exfalso; rename_i hz; cases hz; done)
    all_goals try (exfalso; (try simp only [LN] at *) <;> omega)
    refine Z.loopK tabOk (fun zq : Nat × Int => [(11, .val (.int .i64 (zq.1 : Int))), (5, .val (.int .i64 zq.2))]) (fun zq : Nat × Int => ([] : Z.Kr)) (fun zq => zq.1 ≤ ws.length ∧ roomF (leftF ws A) ws 0 = roomF (leftF ws A) (ws.drop zq.1) zq.2) (fun zq => ws.length - zq.1) (0, 0) 12 [(1, _), (9, _), (10, _)] ⟨rfl, rfl, rfl, trivial⟩ [(0, some _), (1, some _), (2, some _), (3, some _), (4, some _), (6, some _), (8, some _), (9, some _), (10, some _), (11, some _)] ⟨rfl, rfl, rfl, rfl, rfl, rfl, rfl, rfl, rfl, rfl, trivial⟩ ?_ ?_ rfl rfl ⟨Nat.zero_le _, rfl⟩ ?_
    · repeat' (first | exact trivial | apply And.intro | exact ⟨_, rfl, Z.Imp.refl _⟩)
    · repeat' (first | exact trivial)
    rintro ⟨j, bb⟩ HINV
    dsimp only at HINV ⊢
    obtain ⟨HJ, HR⟩ := HINV
    by_cases hj : j < ws.length
    · obtain ⟨w, hy⟩ := getElem?_some' (xs := ws) (i := j) hj
      have h1 := HL w.id
      have h2 := HL bb
      repeat' ((conv => whnf); first
        | with_reducible first | refine spB_t ?_
        | with_reducible first | refine spB_no (by decide) ?_
        | (with_reducible refine spB_dec ?_ ?_ <;> intro _ <;> (try (exfalso; first | contradiction | omega | (rename_i hz; refine hz ?_; simp; done) | (rename_i hz; simp at hz; done) | (simp only [LN] at *; omega))))
        | (with_reducible refine spB_beq ?_ ?_ <;> intro _ <;> (try (exfalso; first | contradiction | omega | (rename_i hz; refine hz ?_; simp; done) | (rename_i hz; simp at hz; done) | (simp only [LN] at *; omega))))
        | with_reducible first | refine Z.rowN_known hy ?_
        | ((with_reducible refine Z.MapL.look HM (z0 := (0 : Int)) ?_ ?_); (focus rfl))
        | ((with_reducible apply ixN_litp); (focus (exact rfl)); (focus ((try simp only [LN] at *) <;> omega)))
        | with_reducible refine wr_i64 (by first | omega | (simp only [LN] at *; omega)) ?_)
      all_goals (try (conv => whnf))
      all_goals try (show Nat.ble _ _ = true; rfl)
      all_goals first
        | ((refine Z.rndK ((j + 1, w.id)) (fun s => [0, 1, 2, 3, 4, 5, 6, 7, 8, 9, 10, 11]) rfl rfl rfl rfl ?_ ?_ ?_ ?_); (focus (repeat' (first | exact trivial | exact rfl | apply And.intro))); (focus (repeat' (first | exact trivial | exact Z.map_sub (Z.MapL.ren HM fun _ => rfl) rfl | (intro b hb; cases hb; rfl) | exact Z.blk_sub rfl rfl (ren_map fun _ => rfl) | apply And.intro))); (focus (refine ⟨by (try dsimp only); omega, ?_⟩; (try dsimp only); rw [HR, drop_cons hy, roomF, if_pos (by first | (left; omega) | (right; omega))])); ((try dsimp only); omega))
        | ((refine Z.rndK ((j + 1, bb)) (fun s => [0, 1, 2, 3, 4, 5, 6, 7, 8, 9, 10, 11]) rfl rfl rfl rfl ?_ ?_ ?_ ?_); (focus (repeat' (first | exact trivial | exact rfl | apply And.intro))); (focus (repeat' (first | exact trivial | exact Z.map_sub (Z.MapL.ren HM fun _ => rfl) rfl | (intro b hb; cases hb; rfl) | exact Z.blk_sub rfl rfl (ren_map fun _ => rfl) | apply And.intro))); (focus (refine ⟨by (try dsimp only); omega, ?_⟩; (try dsimp only); rw [HR, drop_cons hy, roomF, if_neg (by omega)])); ((try dsimp only); omega))
    rw [drop_end hj, roomF] at HR
    have hlb := HL bb
    have hb1 := okW_sl hkw bb
    have hb2 := cnt_nn (ps := A) (y := bb)
    have hlb2 : (Z.lookK L bb).getD 0 = slF ws bb - cnt A bb := hlb
    have hAle : A.length ≤ 1016 := by (try simp only [LN] at *) <;> omega
    repeat' ((conv => whnf); first
      | (with_reducible refine spB_dec ?_ ?_ <;> intro _ <;> (try (exfalso; first | contradiction | omega | (rename_i hz; refine hz ?_; simp; done) | (rename_i hz; simp at hz; done) | (simp only [LN] at *; omega))))
      | ((with_reducible refine Z.MapL.look HM (z0 := (0 : Int)) ?_ ?_); (focus rfl))
      | ((with_reducible refine Z.MapL.upd' HM (v := (Z.lookK L bb).getD 0 - 1) ?_ ?_); (focus rfl); (intro es3 HM))
      | with_reducible refine wr_i64 (by first | omega | (simp only [LN] at *; omega)) ?_
      | with_reducible first | refine Z.callZ_in tabOk 21 Try.f49 _ Try.func49 (by kernel_rfl) rfl rfl rfl ?_
      | ((with_reducible apply ex_and); exact rfl))
    all_goals (try (conv => whnf))
    all_goals try (show Nat.ble _ _ = true; rfl)
    all_goals try (exfalso; rename_i hz; cases hz; done)
    all_goals try (exfalso; (try simp only [LN] at *) <;> omega)
    have hgl : gtT A t ≤ A.length := gtT_le
    generalize hgk : gtT A t = k at *
    have hins : insT A ⟨t, bb⟩ = A.take k ++ (⟨t, bb⟩ : Pl) :: A.drop k := by unfold insT; rw [hgk]
    by_cases hkl : k < A.length
    · skip
      refine Z.loopK tabOk (fun zq : Nat => [(9, .val (.int .i64 (zq : Int)))]) (fun zq : Nat => ([] : Z.Kr)) (fun zq => zq ≤ k) (fun zq => A.length - zq) 0 12 [(0, _), (1, _), (7, _), (8, _)] ⟨rfl, rfl, rfl, rfl, trivial⟩ [(0, some _), (1, some _), (2, some _), (3, some _), (4, some _), (6, some _), (8, some _), (9, some _), (10, some _), (11, some _)] ⟨rfl, rfl, rfl, rfl, rfl, rfl, rfl, rfl, rfl, rfl, trivial⟩ ?_ ?_ rfl rfl (Nat.zero_le _) ?_
      · repeat' (first | exact trivial | apply And.intro | exact ⟨_, rfl, Z.Imp.refl _⟩)
      · repeat' (first | exact trivial)
      rintro q HINV
      dsimp only at HINV ⊢
      obtain ⟨x, hy⟩ := getElem?_some' (xs := A) (i := q) (by omega)
      by_cases hj : q < k
      · have hxa : ¬ t < x.task := gtT_lt hgk hj hy
        repeat' ((conv => whnf); first
          | (with_reducible refine spB_dec ?_ ?_ <;> intro _ <;> (try (exfalso; first | contradiction | omega | (rename_i hz; refine hz ?_; simp; done) | (rename_i hz; simp at hz; done) | (simp only [LN] at *; omega))))
          | ((with_reducible refine rowN_mk (cL x) ?_ ?_); (focus (show (List.map cL A)[0 + q]? = some (cL x); rw [Nat.zero_add, List.getElem?_map, hy]; rfl)))
          | ((with_reducible apply ixN_litp); (focus (exact rfl)); (focus ((try simp only [LN] at *) <;> omega)))
          | with_reducible refine wr_i64 (by first | omega | (simp only [LN] at *; omega)) ?_
          | with_reducible first | refine Z.callZ_in tabOk 8 Try.f50 _ Try.func50 (by kernel_rfl) rfl rfl rfl ?_
          | ((with_reducible apply ex_and); exact rfl))
        all_goals (try (conv => whnf))
        all_goals try (show Nat.ble _ _ = true; rfl)
        all_goals first
          | ((refine Z.rndK ((q + 1)) (fun s => [0, 1, 2, 3, 4, 5, 6, 7, 8, 9, 10, 11]) rfl rfl rfl rfl ?_ ?_ ?_ ?_); (focus (repeat' (first | exact trivial | exact rfl | apply And.intro))); (focus (repeat' (first | exact trivial | exact Z.map_sub (Z.MapL.ren HM fun _ => rfl) rfl | (intro b hb; cases hb; rfl) | exact Z.blk_sub rfl rfl (ren_map fun _ => rfl) | apply And.intro))); (focus (omega)); ((try dsimp only); omega))
      have hji : q = k := by omega
      subst hji
      have hxa : t < x.task := gtT_at hgk hy
      repeat' ((conv => whnf); first
        | with_reducible first | refine spB_t ?_
        | ((with_reducible apply spB_cong); (focus (simp only [beq_self_eq_true, bne_self_eq_false, Bool.true_bne, Bool.false_bne, Bool.bne_true, Bool.bne_false, Bool.true_beq, Bool.false_beq, Bool.not_true, Bool.not_false, Bool.not_not, Int.reduceBEq, Int.reduceBNe, Int.reduceLE, Int.reduceLT, Int.reduceEq, decide_true, decide_false]; rfl)))
        | with_reducible first | refine spB_no (by decide) ?_
        | (with_reducible refine spB_dec ?_ ?_ <;> intro _ <;> (try (exfalso; first | contradiction | omega | (rename_i hz; refine hz ?_; simp; done) | (rename_i hz; simp at hz; done) | (simp only [LN] at *; omega))))
        | (with_reducible refine spB_beq ?_ ?_ <;> intro _ <;> (try (exfalso; first | contradiction | omega | (rename_i hz; refine hz ?_; simp; done) | (rename_i hz; simp at hz; done) | (simp only [LN] at *; omega))))
        | ((with_reducible refine Z.ConZ.red ?_); (apply Z.conZ_ins (N := (A.take q ++ (⟨t, bb⟩ : Pl) :: A.drop q).length) (B := ⟨(A.take q ++ (⟨t, bb⟩ : Pl) :: A.drop q).map cL, 2, 66, false⟩)); (focus rfl); (focus (repeat (first | exact Z.FK.nil | (apply Z.FK.keep; exact rfl) | (apply Z.FK.drop; exact rfl)))); (focus (repeat (first | exact trivial | (refine ⟨(fun o ho => (by first | (cases ho; rfl) | (cases ho; exact Z.inL_map fun _ => rfl) | (cases ho; exact Z.inL_mapr fun _ => rfl) | exact Z.inL_gB ho fun _ => rfl)), ?_⟩)))); (focus rfl); (focus (exact Z.inL_map fun _ => rfl)))
        | ((apply Z.callZ_capS (n := A.length)); (focus (exact rfl)); (focus (simp; done)); (intro capv hcapv; refine ⟨fun hcap => ?_, fun hcap gv hgv => ?_⟩))
        | ((with_reducible apply Z.callZ_ovl (tS := 23) (tR := 4) tabOk Try.f65 Try.func65 (by kernel_rfl) (by kernel_rfl) (by kernel_rfl) (by kernel_rfl)); (iterate 4 (focus (exact rfl))); (focus (exact Nat.ne_of_beq_eq_false rfl)); (focus (simp; done)); (focus (exact Nat.zero_lt_succ _)))
        | ((with_reducible refine Z.slN_lo (q) ?_ ?_ ?_); (focus rfl); (focus ((try simp only [LN] at *) <;> omega)))
        | ((with_reducible refine Z.slN_lo (q + 1) ?_ ?_ ?_); (focus rfl); (focus ((try simp only [LN] at *) <;> omega)))
        | ((with_reducible refine slN_hi (q) ?_ ?_ ?_); (focus rfl); (focus ((try simp only [LN] at *) <;> omega)))
        | ((with_reducible refine slN_hc (A.length + 1) ?_ ?_ ?_); (focus rfl); (focus (exact ⟨_, rfl, by omega⟩)))
        | ((with_reducible refine apzE_k ?_); (with_reducible refine apzK_mk (A.length + 1 - q) ⟨_, rfl, ?_⟩ ?_ ?_ ?_ ?_ ?_ ?_); (focus ((try simp only [LN] at *) <;> omega)); (focus ((try simp only [LN] at *) <;> omega)); (focus (exact g_le (f := cL) rfl (by omega))); (iterate 2 (focus ((try simp only [LN] at *) <;> omega))); (focus rfl))
        | ((with_reducible refine cpyN.mk ?_ ?_ ?_ ?_); (focus rfl); (focus (exact one_all (by rfl))); (focus (exact g_fit (f := cL) rfl (by omega) (by (try simp only [LN] at *) <;> omega))))
        | ((with_reducible refine cpyN.mk ?_ ?_ ?_ ?_); (focus (exact g_len (f := cL) rfl (by (try simp only [LN] at *) <;> omega))); (focus (exact g_one cL_one rfl)); (focus (exact g_fit2 (f := cL) rfl (by omega) (by (try simp only [LN] at *) <;> omega) gS_len)))
        | ((with_reducible refine cpyN.mk2 ?_ ?_ ?_ ?_); (focus (exact g_lenp (f := cL) (by (try simp only [LN] at *) <;> omega))); (focus (exact g_onep cL_one (g_min (by (try simp only [LN] at *) <;> omega)))); (focus (exact g_fitp (f := cL) (by (try simp only [LN] at *) <;> omega))))
        | ((with_reducible refine cpyN.mk ?_ ?_ ?_ ?_); (focus rfl); (focus (exact one_all (by rfl))); (focus (exact g_fitp2 (f := cL) (by (try simp only [LN] at *) <;> omega) (g_fitk (by (try simp only [LN] at *) <;> omega)))))
        | ((with_reducible refine rowN_mk (cL x) ?_ ?_); (focus (show (List.map cL A)[0 + q]? = some (cL x); rw [Nat.zero_add, List.getElem?_map, hy]; rfl)))
        | ((with_reducible apply ixN_litp); (focus (exact rfl)); (focus ((try simp only [LN] at *) <;> omega)))
        | ((with_reducible refine slE_a ?_ ?_); (focus ((try simp only [LN] at *) <;> omega)))
        | with_reducible refine wr_i64 (by first | omega | (simp only [LN] at *; omega)) ?_
        | with_reducible first | refine Z.callZ_in tabOk 8 Try.f50 _ Try.func50 (by kernel_rfl) rfl rfl rfl ?_ | refine Z.callZ_in tabOk 95 Try.f51 _ Try.func51 (by kernel_rfl) rfl rfl rfl ?_
        | ((with_reducible apply ex_and); exact rfl)
        | with_reducible first | refine Z.drawZ_rule tabOk mixOk ?_ | refine Z.apZ_mk (by kernel_rfl) ?_)
      all_goals (try (conv => whnf))
      all_goals try (show Nat.ble _ _ = true; rfl)
      all_goals first
        | (refine ⟨Nat.le_of_ble_eq_true rfl, _, _, _, _, rfl, rfl, ?_, ?_⟩; (focus ((try simp only [LN]) <;> omega)); (exact g_ins (f := cL) rfl (by omega) rfl (gS_eq (by omega) rfl) (gT_eq (f := cL) rfl (Nat.le_min.2 ⟨by omega, by omega⟩) (by omega))))
        | (refine ⟨Nat.le_of_ble_eq_true rfl, _, _, _, _, rfl, rfl, ?_, ?_⟩; (focus ((try simp only [LN]) <;> omega)); (exact g_insp (f := cL) (by omega) (gS_eq (by omega) rfl) (gT_eqp (f := cL) (by omega) (.inl ⟨(Nat.min_eq_right (by omega)).trans (by omega), by omega⟩))))
        | ((refine Z.rndK ((i + 1, some (A.take q ++ (⟨t, bb⟩ : Pl) :: A.drop q), es3)) (fun s => [0, 1, 2, 3, 4, 5, 6, 7, 8, s.idIn 6 1]) rfl rfl rfl rfl ?_ ?_ ?_ ?_); (focus (repeat' (first | exact trivial | exact rfl | apply And.intro))); (focus (repeat' (first | exact trivial | exact Z.map_sub (Z.MapL.ren HM fun _ => rfl) rfl | (intro b hb; cases hb; rfl) | (intro b hb; cases hb; done) | exact Z.blk_sub rfl rfl (ren_map fun _ => rfl) | apply And.intro))); (focus (refine ⟨by (try dsimp only); omega, by (try dsimp only [Option.getD_some]); rw [← hins, insT_len]; (try simp only [LN] at *) <;> omega, by (try dsimp only [Option.getD_some]); rw [← hins]; exact layT_step hx HR HO, _, HM, ?_⟩; (try dsimp only [Option.getD_some]); rw [← hins]; exact lay_step (p := ⟨t, bb⟩) HL rfl)); ((try dsimp only); omega))
    · have hkA : k = A.length := by omega
      rw [hkA, List.take_length, List.drop_length] at hins
      refine Z.loopK tabOk (fun zq : Nat => [(9, .val (.int .i64 (zq : Int)))]) (fun zq : Nat => ([] : Z.Kr)) (fun zq => zq ≤ k) (fun zq => A.length - zq) 0 12 [(0, _), (1, _), (7, _), (8, _)] ⟨rfl, rfl, rfl, rfl, trivial⟩ [(0, some _), (1, some _), (2, some _), (3, some _), (4, some _), (6, some _), (8, some _), (9, some _), (10, some _), (11, some _)] ⟨rfl, rfl, rfl, rfl, rfl, rfl, rfl, rfl, rfl, rfl, trivial⟩ ?_ ?_ rfl rfl (Nat.zero_le _) ?_
      · repeat' (first | exact trivial | apply And.intro | exact ⟨_, rfl, Z.Imp.refl _⟩)
      · repeat' (first | exact trivial)
      rintro q HINV
      dsimp only at HINV ⊢
      by_cases hj : q < A.length
      · obtain ⟨x, hy⟩ := getElem?_some' (xs := A) (i := q) hj
        have hxa : ¬ t < x.task := gtT_lt hgk (by omega) hy
        repeat' ((conv => whnf); first
          | (with_reducible refine spB_dec ?_ ?_ <;> intro _ <;> (try (exfalso; first | contradiction | omega | (rename_i hz; refine hz ?_; simp; done) | (rename_i hz; simp at hz; done) | (simp only [LN] at *; omega))))
          | ((with_reducible refine rowN_mk (cL x) ?_ ?_); (focus (show (List.map cL A)[0 + q]? = some (cL x); rw [Nat.zero_add, List.getElem?_map, hy]; rfl)))
          | ((with_reducible apply ixN_litp); (focus (exact rfl)); (focus ((try simp only [LN] at *) <;> omega)))
          | with_reducible refine wr_i64 (by first | omega | (simp only [LN] at *; omega)) ?_
          | with_reducible first | refine Z.callZ_in tabOk 8 Try.f50 _ Try.func50 (by kernel_rfl) rfl rfl rfl ?_
          | ((with_reducible apply ex_and); exact rfl))
        all_goals (try (conv => whnf))
        all_goals try (show Nat.ble _ _ = true; rfl)
        all_goals first
          | ((refine Z.rndK ((q + 1)) (fun s => [0, 1, 2, 3, 4, 5, 6, 7, 8, 9, 10, 11]) rfl rfl rfl rfl ?_ ?_ ?_ ?_); (focus (repeat' (first | exact trivial | exact rfl | apply And.intro))); (focus (repeat' (first | exact trivial | exact Z.map_sub (Z.MapL.ren HM fun _ => rfl) rfl | (intro b hb; cases hb; rfl) | exact Z.blk_sub rfl rfl (ren_map fun _ => rfl) | apply And.intro))); (focus (omega)); ((try dsimp only); omega))
      have hji : q = A.length := by omega
      subst hji
      repeat' ((conv => whnf); first
        | with_reducible first | refine spB_t ?_
        | ((with_reducible apply spB_cong); (focus (simp only [beq_self_eq_true, bne_self_eq_false, Bool.true_bne, Bool.false_bne, Bool.bne_true, Bool.bne_false, Bool.true_beq, Bool.false_beq, Bool.not_true, Bool.not_false, Bool.not_not, Int.reduceBEq, Int.reduceBNe, Int.reduceLE, Int.reduceLT, Int.reduceEq, decide_true, decide_false]; rfl)))
        | with_reducible first | refine spB_no (by decide) ?_
        | (with_reducible refine spB_dec ?_ ?_ <;> intro _ <;> (try (exfalso; first | contradiction | omega | (rename_i hz; refine hz ?_; simp; done) | (rename_i hz; simp at hz; done) | (simp only [LN] at *; omega))))
        | ((with_reducible refine Z.ConZ.red ?_); (apply Z.conZ_ins (N := (A ++ [(⟨t, bb⟩ : Pl)]).length) (B := ⟨(A ++ [(⟨t, bb⟩ : Pl)]).map cL, 2, 66, false⟩)); (focus rfl); (focus (repeat (first | exact Z.FK.nil | (apply Z.FK.keep; exact rfl) | (apply Z.FK.drop; exact rfl)))); (focus (repeat (first | exact trivial | (refine ⟨(fun o ho => (by first | (cases ho; rfl) | (cases ho; exact Z.inL_map fun _ => rfl) | (cases ho; exact Z.inL_mapr fun _ => rfl) | exact Z.inL_gB ho fun _ => rfl)), ?_⟩)))); (focus rfl); (focus (exact Z.inL_map fun _ => rfl)))
        | ((apply Z.callZ_capS (n := A.length)); (focus (exact rfl)); (focus (simp; done)); (intro capv hcapv; refine ⟨fun hcap => ?_, fun hcap gv hgv => ?_⟩))
        | ((with_reducible refine Z.slN_lo (A.length) ?_ ?_ ?_); (focus rfl); (focus ((try simp only [LN] at *) <;> omega)))
        | ((with_reducible refine apdE_r ?_); (with_reducible refine aprN.mk ⟨_, rfl, ?_⟩ ?_ ?_ ?_ ?_); (focus omega); (focus rfl); (focus (exact one_all (by rfl))); (focus (simp; done)))
        | ((with_reducible refine apdE_k ?_); (with_reducible refine apkN.mk ⟨_, rfl, ?_⟩ ?_); (focus omega); (with_reducible refine apdN.mk ?_ ?_ ?_ ?_ ?_ ?_); (focus rfl); (focus (exact one_all (by rfl))); (focus (simp; done)); (focus ((try simp only [LN] at *) <;> omega)); (focus ((try simp only [LN] at *) <;> omega)))
        | ((with_reducible refine slE_b ?_ ?_); (focus ((try simp only [LN] at *) <;> omega)))
        | with_reducible refine wr_i64 (by first | omega | (simp only [LN] at *; omega)) ?_
        | with_reducible first | refine Z.callZ_in tabOk 95 Try.f51 _ Try.func51 (by kernel_rfl) rfl rfl rfl ?_
        | ((with_reducible apply ex_and); exact rfl)
        | with_reducible first | refine Z.drawZ_rule tabOk mixOk ?_ | refine Z.apZ_mk (by kernel_rfl) ?_)
      all_goals (try (conv => whnf))
      all_goals try (show Nat.ble _ _ = true; rfl)
      all_goals first
        | (refine ⟨Nat.le_of_ble_eq_true rfl, _, _, _, _, rfl, rfl, ?_, ?_⟩; (focus ((try simp only [LN]) <;> omega)); (exact g_app (f := cL) rfl rfl))
        | (refine ⟨Nat.le_of_ble_eq_true rfl, _, _, _, _, rfl, rfl, ?_, ?_⟩; (focus ((try simp only [LN]) <;> omega)); (exact g_appr (f := cL) rfl rfl))
        | ((refine Z.rndK ((i + 1, some (A ++ [(⟨t, bb⟩ : Pl)]), es3)) (fun s => [0, 1, 2, 3, 4, 5, 6, 7, 8, s.idIn 6 1]) rfl rfl rfl rfl ?_ ?_ ?_ ?_); (focus (repeat' (first | exact trivial | exact rfl | apply And.intro))); (focus (repeat' (first | exact trivial | exact Z.map_sub (Z.MapL.ren HM fun _ => rfl) rfl | (intro b hb; cases hb; rfl) | (intro b hb; cases hb; done) | exact Z.blk_sub rfl rfl (ren_map fun _ => rfl) | apply And.intro))); (focus (refine ⟨by (try dsimp only); omega, by (try dsimp only [Option.getD_some]); rw [← hins, insT_len]; (try simp only [LN] at *) <;> omega, by (try dsimp only [Option.getD_some]); rw [← hins]; exact layT_step hx HR HO, _, HM, ?_⟩; (try dsimp only [Option.getD_some]); rw [← hins]; exact lay_step (p := ⟨t, bb⟩) HL rfl)); ((try dsimp only); omega))

end Go.Proofs.Ytllnmdmmmkoiaaa
namespace Go.Proofs.Ytllnmdmmmkoiaaa
open Go Go.RowKit Wx
set_option linter.unusedVariables false
set_option linter.unusedSimpArgs false
set_option maxHeartbeats 4000000
/-- A record whose second field is a slice of nothing: nil, or empty. -/
theorem con_nil2 {P : Program} {g : FuncId} {sz : Nat} {c0 : Ce} {cs : List Ce} {av : List A0} {post : AV → Wx.Kr → Nat → Prop} (h0 : Con P g (.agg (c0 :: .v (.slice none 0 0) :: cs) :: av) post) (h1 : ∀ ad cap, Con P g (.agg (c0 :: .v (.slice (some ad) 0 cap) :: cs) :: av) post) : Con P g (.agg (c0 :: .ro false sz [] :: cs) :: av) post := by
  refine ⟨h0.fn, fun w vs hvs => ?_⟩
  cases vs with
  | nil => exact hvs.elim
  | cons v vs =>
    obtain ⟨⟨us, rfl, hus⟩, hvs⟩ := hvs
    cases us with
    | nil => exact hus.elim
    | cons u0 us => cases us with
      | nil => exact hus.2.elim
      | cons u us =>
        obtain ⟨hu0, hu, hus⟩ := hus
        have hu : Rd _ (.ro sz []) u := hu
        cases hu with
        | nil => exact h0.run w _ ⟨⟨_, rfl, hu0, rfl, hus⟩, hvs⟩
        | emp _ ad cap => exact (h1 ad cap).run w _ ⟨⟨_, rfl, hu0, rfl, hus⟩, hvs⟩
        | ro => exact (h1 _ _).run w _ ⟨⟨_, rfl, hu0, rfl, hus⟩, hvs⟩
theorem con_emp2 {P : Program} {g : FuncId} {sz : Nat} {c0 : Ce} {cs : List Ce} {av : List A0} {post : AV → Wx.Kr → Nat → Prop} (ad : Addr) (cap : Nat) (h : Con P g (.agg (c0 :: .ro false sz [] :: cs) :: av) post) : Con P g (.agg (c0 :: .v (.slice (some ad) 0 cap) :: cs) :: av) post := by
  refine ⟨h.fn, fun w vs hvs => ?_⟩
  cases vs with
  | nil => exact hvs.elim
  | cons v vs =>
    obtain ⟨⟨us, rfl, hus⟩, hvs⟩ := hvs
    cases us with
    | nil => exact hus.elim
    | cons u0 us => cases us with
      | nil => exact hus.2.elim
      | cons u us =>
        obtain ⟨hu0, hu, hus⟩ := hus
        have hu : u = .slice (some ad) 0 cap := hu
        subst hu
        exact h.run w _ ⟨⟨_, rfl, hu0, (show Rd _ (.ro sz []) _ from .emp _ ad cap), hus⟩, hvs⟩
theorem clonep_0   : Con Try.prog 60 [.one (.v (.slice none 0 0))] (fun rx rK rt => rx = .val (.slice none 0 0) ∧ rK = [] ∧ rt = 0) := by
  refine con_of tabOk 8 Try.f60 _ Try.func60 (by kernel_rfl) rfl rfl rfl rfl (fun W => ?_)
  repeat' ((conv => whnf); first
    | with_reducible first | refine spB_t ?_)
  all_goals (try (conv => whnf))
  refine ret1 [.one (.v (.slice none 0 0))] rfl [] (.val (.slice none 0 0)) [] rfl trivial List.nodup_nil rfl ?_ (fun p hp => nomatch hp) ⟨rfl, rfl, rfl⟩
  intro p b hp; cases hp

theorem clonep_1 (ad : Addr) (cap : Nat)  : Con Try.prog 60 [.one (.v (.slice (some ad) 0 cap))] (fun rx rK rt => rx = .c (.osl 0 0 0 (some 0)) ∧ rK = [(0, some ⟨[], 2, 66, false⟩)] ∧ rt = 1) := by
  refine con_of tabOk 8 Try.f60 _ Try.func60 (by kernel_rfl) rfl rfl rfl rfl (fun W => ?_)
  repeat' ((conv => whnf); first
    | with_reducible first | refine spB_no (by decide) ?_
    | ((with_reducible refine apdE_r ?_); (with_reducible refine aprN.mk ⟨_, rfl, ?_⟩ ?_ ?_ ?_ ?_); (focus ((try simp only [LN] at *) <;> omega)); (focus (first | rfl)); (focus (first | exact one_all (by rfl))); (focus ((try simp only [LN] at *) <;> omega))))
  all_goals (try (conv => whnf))
  refine ret1b 0 (.c (.osl 0 0 0 (some 0))) [] 2 66 false _ rfl ?_ rfl ?_ rfl rfl (fun r hr => nomatch hr) ⟨rfl, rfl, rfl⟩
  all_goals rfl

theorem lay_0n (ws : List Wk) (ts : List Int) (hw : ws.length ≤ 1000) (ht : ts.length ≤ 1000) (hk : okF ws [] = true) (hwt : wantT ws [] ts = 0) : Con Try.prog 18 [.agg [.ro false 2 (ws.map eW), .v (.slice none 0 0)], .one (.ro false 1 (ts.map eI))] (fun rx rK rt => rx = .tup [.agg [.ro true 2 ((ws).map eW), .ro true 2 (((layT ws [] ts)).map eL)], .one (.v (.int .i64 0))] ∧ rK = [] ∧ rt = 0) := by
  refine Z.con_ofF tabOk 11 Try.f18 _ Try.func18 (by kernel_rfl) rfl rfl rfl rfl ?_
  have ck := check_con ws [] (by omega) (by (try simp only [LN] at *) <;> omega)
  rw [hk] at ck
  simp only [cond_true] at ck
  have cw := wanted_con ws [] ts hw (by (try simp only [LN] at *) <;> omega) ht hk
  rw [hwt] at cw
  have cc := clonew_f3 ws hw
  have cp := clonep_0
  obtain ⟨hkw, hkp, hkc⟩ := okF_all hk
  have hwl := okW_len hkw
  have hpl := okT_len hkp
  have hsw := (okW_all.1 hkw).1
  repeat' ((conv => whnf); first
    | ((with_reducible apply spB_cong); (focus (simp only [beq_self_eq_true, bne_self_eq_false, Bool.true_bne, Bool.false_bne, Bool.bne_true, Bool.bne_false, Bool.true_beq, Bool.false_beq, Bool.not_true, Bool.not_false, Bool.not_not, Int.reduceBEq, Int.reduceBNe, Int.reduceLE, Int.reduceLT, Int.reduceEq, decide_true, decide_false]; rfl)))
    | with_reducible first | refine spB_no (by decide) ?_
    | with_reducible first | refine Z.callZ_in tabOk 52 Try.f45 _ Try.func45 (by kernel_rfl) rfl rfl rfl ?_ | refine Z.callZ_in tabOk 36 Try.f47 _ Try.func47 (by kernel_rfl) rfl rfl rfl ?_ | refine Z.callZ_in tabOk 29 Try.f31 _ Try.func31 (by kernel_rfl) rfl rfl rfl ?_
    | ((first | (with_reducible refine Z.callZ_mk ?_ (cw) ?_) | (with_reducible refine Z.callZ_mk ?_ (ck) ?_) | (with_reducible refine Z.conZ_mz ?_ (cc) ?_) | (with_reducible refine Z.conZ_mz ?_ (cp) ?_)); (focus ((repeat' (first | exact trivial | exact rfl | exact Z.low_nil | exact .inl rfl | apply And.intro)); done)))
    | with_reducible first | refine Z.drawZ_rule tabOk mixOk ?_ | refine Z.apZ_mk (by kernel_rfl) ?_)
  all_goals (try (conv => whnf))
  all_goals try (show Nat.ble _ _ = true; rfl)
  all_goals try (exfalso; rename_i hz; cases hz; done)
  all_goals try (exfalso; (try simp only [LN] at *) <;> omega)
  refine Z.loopK tabOk (fun zq : Nat × Y.MS => [(12, .val (.int .i64 (zq.1 : Int)))]) (fun zq : Nat × Y.MS => ([(7, some (Z.Ob.m zq.2))] : Z.Kr)) (fun zq => zq.1 ≤ ws.length ∧ Z.MapL .i64 enI zq.2 (mapW (ws.take zq.1))) (fun zq => ws.length - zq.1) (0, ⟨[], 0⟩) 8 [(1, _), (3, _), (10, _), (11, _)] ⟨rfl, rfl, rfl, rfl, trivial⟩ [(0, some _), (1, some _), (2, some _), (3, some _), (4, some _), (5, some _), (6, some _)] ⟨rfl, rfl, rfl, rfl, rfl, rfl, rfl, trivial⟩ ?_ ?_ rfl rfl ⟨Nat.zero_le _, Z.MapL.nil⟩ ?_
  · repeat' (first | exact trivial | apply And.intro | exact ⟨_, rfl, Z.Imp.refl _⟩)
  · repeat' (first | exact trivial | exact (fun b hb => ⟨b, hb, Z.ImpO.refl b⟩) | apply And.intro)
  rintro ⟨i2, es⟩ HINV
  dsimp only at HINV ⊢
  obtain ⟨HI2, HM⟩ := HINV
  by_cases hi2 : i2 < ws.length
  · obtain ⟨w, hx⟩ := getElem?_some' (xs := ws) (i := i2) hi2
    repeat' ((conv => whnf); first
      | (with_reducible refine spB_dec ?_ ?_ <;> intro _ <;> (try (exfalso; first | contradiction | omega | (rename_i hz; refine hz ?_; simp; done) | (rename_i hz; simp at hz; done) | (simp only [LN] at *; omega))))
      | with_reducible first | refine Z.rowN_known hx ?_
      | ((with_reducible refine Z.MapL.upd' HM (v := w.sl) ?_ ?_); (focus rfl); (intro es3 HM))
      | ((with_reducible apply ixN_litp); (focus (exact rfl)); (focus ((try simp only [LN] at *) <;> omega)))
      | with_reducible refine wr_i64 (by first | omega | (simp only [LN] at *; omega)) ?_)
    all_goals (try (conv => whnf))
    all_goals try (show Nat.ble _ _ = true; rfl)
    all_goals first
      | ((refine Z.rndK ((i2 + 1, es3)) (fun s => [0, 1, 2, 3, 4, 5, 6, 7]) rfl rfl rfl rfl ?_ ?_ ?_ ?_); (focus (repeat' (first | exact trivial | exact rfl | apply And.intro))); (focus (repeat' (first | exact trivial | exact Z.map_sub (Z.MapL.ren HM fun _ => rfl) rfl | (intro b hb; cases hb; rfl) | apply And.intro))); (focus (refine ⟨by dsimp only; omega, ?_⟩; (try dsimp only); rw [← mapW_snoc hsw hx]; exact HM)); ((try dsimp only); omega))
  have hw9 := take_end hi2
  rw [hw9] at HM
  repeat' ((conv => whnf); first
    | (with_reducible refine spB_dec ?_ ?_ <;> intro _ <;> (try (exfalso; first | contradiction | omega | (rename_i hz; refine hz ?_; simp; done) | (rename_i hz; simp at hz; done) | (simp only [LN] at *; omega)))))
  all_goals (try (conv => whnf))
  all_goals try (show Nat.ble _ _ = true; rfl)
  all_goals try (exfalso; (try simp only [LN] at *) <;> omega)
  refine Z.loopK tabOk (fun zq : Nat × Y.MS => [(25, .val (.int .i64 (zq.1 : Int)))]) (fun zq : Nat × Y.MS => ([(7, some (Z.Ob.m zq.2))] : Z.Kr)) (fun zq => zq.1 ≤ ([] : List Pl).length ∧ ∃ L, Z.MapL .i64 enI zq.2 L ∧ (∀ y, (Z.lookK L y).getD 0 = slF ws y - cnt (([] : List Pl).take zq.1) y) ∧ sumK L = sumW ws - (zq.1 : Int)) (fun zq => ([] : List Pl).length - zq.1) (0, es) 8 [(3, _), (23, _), (24, _)] ⟨rfl, rfl, rfl, trivial⟩ [(0, some _), (1, some _), (2, some _), (3, some _), (4, some _), (5, some _), (6, some _)] ⟨rfl, rfl, rfl, rfl, rfl, rfl, rfl, trivial⟩ ?_ ?_ rfl rfl ⟨Nat.zero_le _, _, HM, fun y => by rw [look_mapW]; simp [cnt], by rw [sum_mapW]; simp⟩ ?_
  · repeat' (first | exact trivial | apply And.intro | exact ⟨_, rfl, Z.Imp.refl _⟩)
  · repeat' (first | exact trivial | exact (fun b hb => ⟨b, hb, Z.ImpO.refl b⟩) | apply And.intro)
  rintro ⟨j2, es⟩ HINV
  dsimp only at HINV ⊢
  obtain ⟨HJ2, L, HM, HL, HS⟩ := HINV
  by_cases hj2 : j2 < ([] : List Pl).length
  · obtain ⟨q, hx⟩ := getElem?_some' (xs := ([] : List Pl)) (i := j2) hj2
    have hv1 := HL q.wk
    have hv2 := okW_sl hkw q.wk
    have hv3 := cnt_nn (ps := ([] : List Pl).take j2) (y := q.wk)
    have hv4 : (([] : List Pl).take j2).length ≤ 16 := by rw [List.length_take]; omega
    have hsp := sum_put (L := L) (k := q.wk) (v := (Z.lookK L q.wk).getD 0 - 1)
    repeat' ((conv => whnf); first
      | (with_reducible refine spB_dec ?_ ?_ <;> intro _ <;> (try (exfalso; first | contradiction | omega | (rename_i hz; refine hz ?_; simp; done) | (rename_i hz; simp at hz; done) | (simp only [LN] at *; omega)))))
    all_goals (try (conv => whnf))
    all_goals try (show Nat.ble _ _ = true; rfl)
    all_goals first
      | ((refine Z.rndK ((j2 + 1, es3)) (fun s => [0, 1, 2, 3, 4, 5, 6, 7]) rfl rfl rfl rfl ?_ ?_ ?_ ?_); (focus (repeat' (first | apply And.intro))); (focus (repeat' (first | apply And.intro))); (focus (refine ⟨by dsimp only; omega, _, HM, free_step hx HL rfl, ?_⟩; (try dsimp only); omega)); ((try dsimp only); omega))
  have hp9 := take_end hj2
  rw [hp9] at HL
  have hjl : j2 = ([] : List Pl).length := by omega
  subst hjl
  repeat' ((conv => whnf); first
    | with_reducible first | refine spB_no (by decide) ?_
    | ((with_reducible apply ex_and); exact rfl))
  all_goals (try (conv => whnf))
  all_goals try (show Nat.ble _ _ = true; rfl)
  all_goals try (exfalso; rename_i hz; cases hz; done)
  all_goals try (exfalso; (try simp only [LN] at *) <;> omega)
  refine Z.loopK tabOk (fun zq : Nat × Option (List Pl) × Y.MS => [(21, .val (.int .i64 (zq.1 : Int)))]) (fun zq : Nat × Option (List Pl) × Y.MS => ([(5, some (Z.Ob.b ⟨[[.ro true 2 (ws.map eW), cel (.v (.slice none 0 0)) 8 zq.2.1]], 2, 25, true⟩)), (7, some (Z.Ob.m zq.2.2)), (8, bln zq.2.1)] : Z.Kr)) (fun zq => zq.1 ≤ ts.length ∧ (zq.2.1.getD []).length = ([] : List Pl).length + zq.1 ∧ layT ws [] ts = layT ws (zq.2.1.getD []) (ts.drop zq.1) ∧ ∃ L, Z.MapL .i64 enI zq.2.2 L ∧ ∀ y, (Z.lookK L y).getD 0 = leftF ws (zq.2.1.getD []) y) (fun zq => ts.length - zq.1) (0, none, es) 9 [(0, _), (1, _), (6, _), (19, _), (20, _)] ⟨rfl, rfl, rfl, rfl, rfl, trivial⟩ [(0, some _), (1, some _), (2, some _), (3, some _), (4, some _)] ⟨rfl, rfl, rfl, rfl, rfl, trivial⟩ ?_ ?_ rfl rfl ⟨Nat.zero_le _, rfl, rfl, L, HM, HL⟩ ?_
  · repeat' (first | exact trivial | apply And.intro | exact ⟨_, rfl, Z.Imp.refl _⟩)
  · repeat' (first | exact trivial | (intro b hb; cases hb; done) | exact (fun b hb => ⟨b, hb, Z.ImpO.refl b⟩) | apply And.intro)
  rintro ⟨i, o, es⟩ HINV
  dsimp only at HINV ⊢
  clear HM HL HS
  obtain ⟨HI, HAl, HO, L, HM, HL⟩ := HINV
  rcases o with _ | A
  · dsimp only [cel, blo, bln, Option.getD_none] at HAl HO HL ⊢
    by_cases hi : i < ts.length
    rotate_left
    · have hlay : ([] : List Pl) = layT ws [] ts := by rw [HO, List.drop_eq_nil_of_le (by omega)]; rfl
      rw [← hlay]
      repeat' ((conv => whnf); first
        | ((with_reducible apply spB_cong); (focus (simp only [beq_self_eq_true, bne_self_eq_false, Bool.true_bne, Bool.false_bne, Bool.bne_true, Bool.bne_false, Bool.true_beq, Bool.false_beq, Bool.not_true, Bool.not_false, Bool.not_not, Int.reduceBEq, Int.reduceBNe, Int.reduceLE, Int.reduceLT, Int.reduceEq, decide_true, decide_false]; rfl)))
        | with_reducible first | refine spB_no (by decide) ?_
        | (with_reducible refine spB_dec ?_ ?_ <;> intro _ <;> (try (exfalso; first | contradiction | omega | (rename_i hz; refine hz ?_; simp; done) | (rename_i hz; simp at hz; done) | (simp only [LN] at *; omega))))
        | ((with_reducible apply ex_and); exact rfl))
      all_goals (try (conv => whnf))
      all_goals try (show Nat.ble _ _ = true; rfl)
      all_goals first
        | ((first | (with_reducible apply Z.retF2)); (focus (exact rfl)); (repeat' (first | exact trivial | (with_reducible apply Z.frz_one) | (with_reducible apply Z.frz_agg) | (with_reducible apply Z.fq_int) | (exact Z.frz_nil) | (with_reducible apply Z.fq_ro) | exact rfl | apply And.intro)); (all_goals (try exact (fun _ => none))); all_goals (first | (simp; done)))
    obtain ⟨t, hx⟩ := getElem?_some' (xs := ts) (i := i) hi
    repeat' ((conv => whnf); first
      | (with_reducible refine spB_dec ?_ ?_ <;> intro _ <;> (try (exfalso; first | contradiction | omega | (rename_i hz; refine hz ?_; simp; done) | (rename_i hz; simp at hz; done) | (simp only [LN] at *; omega))))
      | with_reducible first | refine Z.rowN_known hx ?_
      | ((with_reducible apply ixN_litp); (focus (exact rfl)); (focus ((try simp only [LN] at *) <;> omega)))
      | with_reducible first | refine Z.callZ_in tabOk 31 Try.f48 _ Try.func48 (by kernel_rfl) rfl rfl rfl ?_)
    all_goals (try (conv => whnf))
    all_goals try (show Nat.ble _ _ = true; rfl)
    all_goals try (exfalso; rename_i hz; cases hz; done)
    all_goals try (exfalso; (try simp only [LN] at *) <;> omega)
    refine Z.loopK tabOk (fun zq : Nat × Int => [(11, .val (.int .i64 (zq.1 : Int))), (5, .val (.int .i64 zq.2))]) (fun zq : Nat × Int => ([] : Z.Kr)) (fun zq => zq.1 ≤ ws.length ∧ roomF (leftF ws []) ws 0 = roomF (leftF ws []) (ws.drop zq.1) zq.2) (fun zq => ws.length - zq.1) (0, 0) 11 [(1, _), (9, _), (10, _)] ⟨rfl, rfl, rfl, trivial⟩ [(0, some _), (1, some _), (2, some _), (3, some _), (4, some _), (5, some _), (7, some _), (9, some _), (10, some _)] ⟨rfl, rfl, rfl, rfl, rfl, rfl, rfl, rfl, rfl, trivial⟩ ?_ ?_ rfl rfl ⟨Nat.zero_le _, rfl⟩ ?_
    · repeat' (first | exact trivial | apply And.intro | exact ⟨_, rfl, Z.Imp.refl _⟩)
    · repeat' (first | exact trivial)
    rintro ⟨j, bb⟩ HINV
    dsimp only at HINV ⊢
    obtain ⟨HJ, HR⟩ := HINV
    by_cases hj : j < ws.length
    · obtain ⟨w, hy⟩ := getElem?_some' (xs := ws) (i := j) hj
      have h1 := HL w.id
      have h2 := HL bb
      repeat' ((conv => whnf); first
        | with_reducible first | refine spB_t ?_
        | with_reducible first | refine spB_no (by decide) ?_
        | (with_reducible refine spB_dec ?_ ?_ <;> intro _ <;> (try (exfalso; first | contradiction | omega | (rename_i hz; refine hz ?_; simp; done) | (rename_i hz; simp at hz; done) | (simp only [LN] at *; omega))))
        | (with_reducible refine spB_beq ?_ ?_ <;> intro _ <;> (try (exfalso; first | contradiction | omega | (rename_i hz; refine hz ?_; simp; done) | (rename_i hz; simp at hz; done) | (simp only [LN] at *; omega))))
        | with_reducible first | refine Z.rowN_known hy ?_
        | ((with_reducible refine Z.MapL.look HM (z0 := (0 : Int)) ?_ ?_); (focus rfl))
        | ((with_reducible apply ixN_litp); (focus (exact rfl)); (focus ((try simp only [LN] at *) <;> omega)))
        | with_reducible refine wr_i64 (by first | omega | (simp only [LN] at *; omega)) ?_)
      all_goals (try (conv => whnf))
      all_goals try (show Nat.ble _ _ = true; rfl)
      all_goals first
        | ((refine Z.rndK ((j + 1, w.id)) (fun s => [0, 1, 2, 3, 4, 5, 6, 7, 8, 9, 10]) rfl rfl rfl rfl ?_ ?_ ?_ ?_); (focus (repeat' (first | exact trivial | exact rfl | apply And.intro))); (focus (repeat' (first | exact trivial | exact Z.map_sub (Z.MapL.ren HM fun _ => rfl) rfl | (intro b hb; cases hb; rfl) | apply And.intro))); (focus (refine ⟨by (try dsimp only); omega, ?_⟩; (try dsimp only); rw [HR, drop_cons hy, roomF, if_pos (by first | (left; omega) | (right; omega))])); ((try dsimp only); omega))
        | ((refine Z.rndK ((j + 1, bb)) (fun s => [0, 1, 2, 3, 4, 5, 6, 7, 8, 9, 10]) rfl rfl rfl rfl ?_ ?_ ?_ ?_); (focus (repeat' (first | exact trivial | exact rfl | apply And.intro))); (focus (repeat' (first | exact trivial | exact Z.map_sub (Z.MapL.ren HM fun _ => rfl) rfl | (intro b hb; cases hb; rfl) | apply And.intro))); (focus (refine ⟨by (try dsimp only); omega, ?_⟩; (try dsimp only); rw [HR, drop_cons hy, roomF, if_neg (by omega)])); ((try dsimp only); omega))
    rw [drop_end hj, roomF] at HR
    have hlb := HL bb
    have hb1 := okW_sl hkw bb
    have hb2 := cnt_nn (ps := []) (y := bb)
    have hlb2 : (Z.lookK L bb).getD 0 = slF ws bb - cnt [] bb := hlb
    have hAle : ([] : List Pl).length ≤ 1016 := by (try simp only [LN] at *) <;> omega
    repeat' ((conv => whnf); first
      | (with_reducible refine spB_dec ?_ ?_ <;> intro _ <;> (try (exfalso; first | contradiction | omega | (rename_i hz; refine hz ?_; simp; done) | (rename_i hz; simp at hz; done) | (simp only [LN] at *; omega))))
      | ((with_reducible refine Z.MapL.look HM (z0 := (0 : Int)) ?_ ?_); (focus rfl))
      | ((with_reducible refine Z.MapL.upd' HM (v := (Z.lookK L bb).getD 0 - 1) ?_ ?_); (focus rfl); (intro es3 HM))
      | with_reducible refine wr_i64 (by first | omega | (simp only [LN] at *; omega)) ?_
      | with_reducible first | refine Z.callZ_in tabOk 21 Try.f49 _ Try.func49 (by kernel_rfl) rfl rfl rfl ?_
      | ((with_reducible apply ex_and); exact rfl))
    all_goals (try (conv => whnf))
    all_goals try (show Nat.ble _ _ = true; rfl)
    all_goals try (exfalso; rename_i hz; cases hz; done)
    all_goals try (exfalso; (try simp only [LN] at *) <;> omega)
    have hgl : gtT [] t ≤ ([] : List Pl).length := gtT_le
    generalize hgk : gtT [] t = k at *
    have hins : insT [] ⟨t, bb⟩ = [(⟨t, bb⟩ : Pl)] := rfl
    · have hkA : k = 0 := by simp at hgl; omega
      subst hkA
      repeat' ((conv => whnf); first
        | with_reducible first | refine spB_t ?_
        | ((with_reducible apply spB_cong); (focus (simp only [beq_self_eq_true, bne_self_eq_false, Bool.true_bne, Bool.false_bne, Bool.bne_true, Bool.bne_false, Bool.true_beq, Bool.false_beq, Bool.not_true, Bool.not_false, Bool.not_not, Int.reduceBEq, Int.reduceBNe, Int.reduceLE, Int.reduceLT, Int.reduceEq, decide_true, decide_false]; rfl)))
        | with_reducible first | refine spB_no (by decide) ?_
        | ((with_reducible refine Z.ConZ.red ?_); (apply Z.conZ_insn (N := [(⟨t, bb⟩ : Pl)].length) (B := ⟨[(⟨t, bb⟩ : Pl)].map cL, 2, 66, false⟩)); (focus rfl); (focus (repeat (first | exact Z.FK.nil | (apply Z.FK.keep; exact rfl) | (apply Z.FK.drop; exact rfl)))); (focus (repeat (first | exact trivial | (refine ⟨(fun o ho => (by first | (cases ho; rfl) | (cases ho; exact Z.inL_map fun _ => rfl) | (cases ho; exact Z.inL_mapr fun _ => rfl) | exact Z.inL_gB ho fun _ => rfl)), ?_⟩)))); (focus rfl); (focus (exact Z.inL_map fun _ => rfl)))
        | ((with_reducible refine Z.slN_lo 0 ?_ ?_ ?_); (focus rfl); (focus ((try simp only [LN] at *) <;> omega)))
        | with_reducible first | refine Z.loopZ_unroll tabOk 3 ?_
        | ((with_reducible refine posE_pos ?_ ?_); (focus ((try simp only [LN] at *) <;> omega)))
        | ((with_reducible refine apdN.mk ?_ ?_ ?_ ?_ ?_ ?_); (focus (first | rfl)); (focus (first | exact one_all (by rfl))); (focus ((try simp only [LN] at *) <;> omega)); (focus ((try simp only [LN] at *) <;> omega)); (focus ((try simp only [LN] at *) <;> omega)))
        | with_reducible refine wr_i64 (by first | omega | (simp only [LN] at *; omega)) ?_
        | with_reducible first | refine Z.callZ_in tabOk 95 Try.f51 _ Try.func51 (by kernel_rfl) rfl rfl rfl ?_
        | ((with_reducible apply ex_and); exact rfl)
        | with_reducible first | refine Z.drawZ_rule tabOk mixOk ?_ | refine Z.apZ_mk (by kernel_rfl) ?_)
      all_goals (try (conv => whnf))
      all_goals try (show Nat.ble _ _ = true; rfl)
      all_goals first
        | (refine ⟨Nat.le_of_ble_eq_true rfl, _, _, rfl, rfl, rfl, rfl, by simp⟩)
        | ((refine Z.rndK ((i + 1, some [(⟨t, bb⟩ : Pl)], es3)) (fun s => [0, 1, 2, 3, 4, 5, 6, 7, s.idIn 5 1]) rfl rfl rfl rfl ?_ ?_ ?_ ?_); (focus (repeat' (first | exact trivial | exact rfl | apply And.intro))); (focus (repeat' (first | exact trivial | exact Z.map_sub (Z.MapL.ren HM fun _ => rfl) rfl | (intro b hb; cases hb; rfl) | apply And.intro))); (focus (refine ⟨by (try dsimp only); omega, by (try dsimp only [Option.getD_some]); rw [← hins, insT_len]; (try simp only [LN] at *) <;> omega, by (try dsimp only [Option.getD_some]); rw [← hins]; exact layT_step hx HR HO, _, HM, ?_⟩; (try dsimp only [Option.getD_some]); rw [← hins]; exact lay_step (p := ⟨t, bb⟩) HL rfl)); ((try dsimp only); omega))
  · dsimp only [cel, blo, bln, Option.getD_some] at HAl HO HL ⊢
    by_cases hi : i < ts.length
    rotate_left
    · have hlay : A = layT ws [] ts := by rw [HO, List.drop_eq_nil_of_le (by omega)]; rfl
      rw [← hlay]
      repeat' ((conv => whnf); first
        | ((with_reducible apply spB_cong); (focus (simp only [beq_self_eq_true, bne_self_eq_false, Bool.true_bne, Bool.false_bne, Bool.bne_true, Bool.bne_false, Bool.true_beq, Bool.false_beq, Bool.not_true, Bool.not_false, Bool.not_not, Int.reduceBEq, Int.reduceBNe, Int.reduceLE, Int.reduceLT, Int.reduceEq, decide_true, decide_false]; rfl)))
        | with_reducible first | refine spB_no (by decide) ?_
        | (with_reducible refine spB_dec ?_ ?_ <;> intro _ <;> (try (exfalso; first | contradiction | omega | (rename_i hz; refine hz ?_; simp; done) | (rename_i hz; simp at hz; done) | (simp only [LN] at *; omega))))
        | ((with_reducible apply ex_and); exact rfl))
      all_goals (try (conv => whnf))
      all_goals try (show Nat.ble _ _ = true; rfl)
      all_goals first
        | (refine Z.retF2 [.agg [.ro true 2 (ws.map eW), .osl 8 0 A.length none], .one (.v (.int .i64 0))] (by rfl) ⟨⟨rfl, (Z.frz_osl (l := A) (f := cL) (ty := 66) (bx := false) (by rfl) rfl (fun _ => rfl)), trivial⟩, rfl, trivial⟩)
    obtain ⟨t, hx⟩ := getElem?_some' (xs := ts) (i := i) hi
    repeat' ((conv => whnf); first
      | (with_reducible refine spB_dec ?_ ?_ <;> intro _ <;> (try (exfalso; first | contradiction | omega | (rename_i hz; refine hz ?_; simp; done) | (rename_i hz; simp at hz; done) | (simp only [LN] at *; omega))))
      | with_reducible first | refine Z.rowN_known hx ?_
      | ((with_reducible apply ixN_litp); (focus (exact rfl)); (focus ((try simp only [LN] at *) <;> omega)))
      | with_reducible first | refine Z.callZ_in tabOk 31 Try.f48 _ Try.func48 (by kernel_rfl) rfl rfl rfl ?_)
    all_goals (try (conv => whnf))
    all_goals try (show Nat.ble _ _ = true; rfl)
    all_goals try (exfalso; rename_i hz; cases hz; done)
    all_goals try (exfalso; (try simp only [LN] at *) <;> omega)
    refine Z.loopK tabOk (fun zq : Nat × Int => [(11, .val (.int .i64 (zq.1 : Int))), (5, .val (.int .i64 zq.2))]) (fun zq : Nat × Int => ([] : Z.Kr)) (fun zq => zq.1 ≤ ws.length ∧ roomF (leftF ws A) ws 0 = roomF (leftF ws A) (ws.drop zq.1) zq.2) (fun zq => ws.length - zq.1) (0, 0) 11 [(1, _), (9, _), (10, _)] ⟨rfl, rfl, rfl, trivial⟩ [(0, some _), (1, some _), (2, some _), (3, some _), (4, some _), (5, some _), (7, some _), (8, some _), (9, some _), (10, some _)] ⟨rfl, rfl, rfl, rfl, rfl, rfl, rfl, rfl, rfl, rfl, trivial⟩ ?_ ?_ rfl rfl ⟨Nat.zero_le _, rfl⟩ ?_
    · repeat' (first | exact trivial | apply And.intro | exact ⟨_, rfl, Z.Imp.refl _⟩)
    · repeat' (first | exact trivial)
    rintro ⟨j, bb⟩ HINV
    dsimp only at HINV ⊢
    obtain ⟨HJ, HR⟩ := HINV
    by_cases hj : j < ws.length
    · obtain ⟨w, hy⟩ := getElem?_some' (xs := ws) (i := j) hj
      have h1 := HL w.id
      have h2 := HL bb
      repeat' ((conv => whnf); first
        | with_reducible first | refine spB_t ?_
        | with_reducible first | refine spB_no (by decide) ?_
        | (with_reducible refine spB_dec ?_ ?_ <;> intro _ <;> (try (exfalso; first | contradiction | omega | (rename_i hz; refine hz ?_; simp; done) | (rename_i hz; simp at hz; done) | (simp only [LN] at *; omega))))
        | (with_reducible refine spB_beq ?_ ?_ <;> intro _ <;> (try (exfalso; first | contradiction | omega | (rename_i hz; refine hz ?_; simp; done) | (rename_i hz; simp at hz; done) | (simp only [LN] at *; omega))))
        | with_reducible first | refine Z.rowN_known hy ?_
        | ((with_reducible refine Z.MapL.look HM (z0 := (0 : Int)) ?_ ?_); (focus rfl))
        | ((with_reducible apply ixN_litp); (focus (exact rfl)); (focus ((try simp only [LN] at *) <;> omega)))
        | with_reducible refine wr_i64 (by first | omega | (simp only [LN] at *; omega)) ?_)
      all_goals (try (conv => whnf))
      all_goals try (show Nat.ble _ _ = true; rfl)
      all_goals first
        | ((refine Z.rndK ((j + 1, w.id)) (fun s => [0, 1, 2, 3, 4, 5, 6, 7, 8, 9, 10]) rfl rfl rfl rfl ?_ ?_ ?_ ?_); (focus (repeat' (first | exact trivial | exact rfl | apply And.intro))); (focus (repeat' (first | exact trivial | exact Z.map_sub (Z.MapL.ren HM fun _ => rfl) rfl | (intro b hb; cases hb; rfl) | exact Z.blk_sub rfl rfl (ren_map fun _ => rfl) | apply And.intro))); (focus (refine ⟨by (try dsimp only); omega, ?_⟩; (try dsimp only); rw [HR, drop_cons hy, roomF, if_pos (by first | (left; omega) | (right; omega))])); ((try dsimp only); omega))
        | ((refine Z.rndK ((j + 1, bb)) (fun s => [0, 1, 2, 3, 4, 5, 6, 7, 8, 9, 10]) rfl rfl rfl rfl ?_ ?_ ?_ ?_); (focus (repeat' (first | exact trivial | exact rfl | apply And.intro))); (focus (repeat' (first | exact trivial | exact Z.map_sub (Z.MapL.ren HM fun _ => rfl) rfl | (intro b hb; cases hb; rfl) | exact Z.blk_sub rfl rfl (ren_map fun _ => rfl) | apply And.intro))); (focus (refine ⟨by (try dsimp only); omega, ?_⟩; (try dsimp only); rw [HR, drop_cons hy, roomF, if_neg (by omega)])); ((try dsimp only); omega))
    rw [drop_end hj, roomF] at HR
    have hlb := HL bb
    have hb1 := okW_sl hkw bb
    have hb2 := cnt_nn (ps := A) (y := bb)
    have hlb2 : (Z.lookK L bb).getD 0 = slF ws bb - cnt A bb := hlb
    have hAle : A.length ≤ 1016 := by (try simp only [LN] at *) <;> omega
    repeat' ((conv => whnf); first
      | (with_reducible refine spB_dec ?_ ?_ <;> intro _ <;> (try (exfalso; first | contradiction | omega | (rename_i hz; refine hz ?_; simp; done) | (rename_i hz; simp at hz; done) | (simp only [LN] at *; omega))))
      | ((with_reducible refine Z.MapL.look HM (z0 := (0 : Int)) ?_ ?_); (focus rfl))
      | ((with_reducible refine Z.MapL.upd' HM (v := (Z.lookK L bb).getD 0 - 1) ?_ ?_); (focus rfl); (intro es3 HM))
      | with_reducible refine wr_i64 (by first | omega | (simp only [LN] at *; omega)) ?_
      | with_reducible first | refine Z.callZ_in tabOk 21 Try.f49 _ Try.func49 (by kernel_rfl) rfl rfl rfl ?_
      | ((with_reducible apply ex_and); exact rfl))
    all_goals (try (conv => whnf))
    all_goals try (show Nat.ble _ _ = true; rfl)
    all_goals try (exfalso; rename_i hz; cases hz; done)
    all_goals try (exfalso; (try simp only [LN] at *) <;> omega)
    have hgl : gtT A t ≤ A.length := gtT_le
    generalize hgk : gtT A t = k at *
    have hins : insT A ⟨t, bb⟩ = A.take k ++ (⟨t, bb⟩ : Pl) :: A.drop k := by unfold insT; rw [hgk]
    by_cases hkl : k < A.length
    · skip
      refine Z.loopK tabOk (fun zq : Nat => [(9, .val (.int .i64 (zq : Int)))]) (fun zq : Nat => ([] : Z.Kr)) (fun zq => zq ≤ k) (fun zq => A.length - zq) 0 11 [(0, _), (1, _), (7, _), (8, _)] ⟨rfl, rfl, rfl, rfl, trivial⟩ [(0, some _), (1, some _), (2, some _), (3, some _), (4, some _), (5, some _), (7, some _), (8, some _), (9, some _), (10, some _)] ⟨rfl, rfl, rfl, rfl, rfl, rfl, rfl, rfl, rfl, rfl, trivial⟩ ?_ ?_ rfl rfl (Nat.zero_le _) ?_
      · repeat' (first | exact trivial | apply And.intro | exact ⟨_, rfl, Z.Imp.refl _⟩)
      · repeat' (first | exact trivial)
      rintro q HINV
      dsimp only at HINV ⊢
      obtain ⟨x, hy⟩ := getElem?_some' (xs := A) (i := q) (by omega)
      by_cases hj : q < k
      · have hxa : ¬ t < x.task := gtT_lt hgk hj hy
        repeat' ((conv => whnf); first
          | (with_reducible refine spB_dec ?_ ?_ <;> intro _ <;> (try (exfalso; first | contradiction | omega | (rename_i hz; refine hz ?_; simp; done) | (rename_i hz; simp at hz; done) | (simp only [LN] at *; omega))))
          | ((with_reducible refine rowN_mk (cL x) ?_ ?_); (focus (show (List.map cL A)[0 + q]? = some (cL x); rw [Nat.zero_add, List.getElem?_map, hy]; rfl)))
          | ((with_reducible apply ixN_litp); (focus (exact rfl)); (focus ((try simp only [LN] at *) <;> omega)))
          | with_reducible refine wr_i64 (by first | omega | (simp only [LN] at *; omega)) ?_
          | with_reducible first | refine Z.callZ_in tabOk 8 Try.f50 _ Try.func50 (by kernel_rfl) rfl rfl rfl ?_
          | ((with_reducible apply ex_and); exact rfl))
        all_goals (try (conv => whnf))
        all_goals try (show Nat.ble _ _ = true; rfl)
        all_goals first
          | ((refine Z.rndK ((q + 1)) (fun s => [0, 1, 2, 3, 4, 5, 6, 7, 8, 9, 10]) rfl rfl rfl rfl ?_ ?_ ?_ ?_); (focus (repeat' (first | exact trivial | exact rfl | apply And.intro))); (focus (repeat' (first | exact trivial | exact Z.map_sub (Z.MapL.ren HM fun _ => rfl) rfl | (intro b hb; cases hb; rfl) | exact Z.blk_sub rfl rfl (ren_map fun _ => rfl) | apply And.intro))); (focus (omega)); ((try dsimp only); omega))
      have hji : q = k := by omega
      subst hji
      have hxa : t < x.task := gtT_at hgk hy
      repeat' ((conv => whnf); first
        | with_reducible first | refine spB_t ?_
        | ((with_reducible apply spB_cong); (focus (simp only [beq_self_eq_true, bne_self_eq_false, Bool.true_bne, Bool.false_bne, Bool.bne_true, Bool.bne_false, Bool.true_beq, Bool.false_beq, Bool.not_true, Bool.not_false, Bool.not_not, Int.reduceBEq, Int.reduceBNe, Int.reduceLE, Int.reduceLT, Int.reduceEq, decide_true, decide_false]; rfl)))
        | with_reducible first | refine spB_no (by decide) ?_
        | (with_reducible refine spB_dec ?_ ?_ <;> intro _ <;> (try (exfalso; first | contradiction | omega | (rename_i hz; refine hz ?_; simp; done) | (rename_i hz; simp at hz; done) | (simp only [LN] at *; omega))))
        | (with_reducible refine spB_beq ?_ ?_ <;> intro _ <;> (try (exfalso; first | contradiction | omega | (rename_i hz; refine hz ?_; simp; done) | (rename_i hz; simp at hz; done) | (simp only [LN] at *; omega))))
        | ((with_reducible refine Z.ConZ.red ?_); (apply Z.conZ_ins (N := (A.take q ++ (⟨t, bb⟩ : Pl) :: A.drop q).length) (B := ⟨(A.take q ++ (⟨t, bb⟩ : Pl) :: A.drop q).map cL, 2, 66, false⟩)); (focus rfl); (focus (repeat (first | exact Z.FK.nil | (apply Z.FK.keep; exact rfl) | (apply Z.FK.drop; exact rfl)))); (focus (repeat (first | exact trivial | (refine ⟨(fun o ho => (by first | (cases ho; rfl) | (cases ho; exact Z.inL_map fun _ => rfl) | (cases ho; exact Z.inL_mapr fun _ => rfl) | exact Z.inL_gB ho fun _ => rfl)), ?_⟩)))); (focus rfl); (focus (exact Z.inL_map fun _ => rfl)))
        | ((apply Z.callZ_capS (n := A.length)); (focus (exact rfl)); (focus (simp; done)); (intro capv hcapv; refine ⟨fun hcap => ?_, fun hcap gv hgv => ?_⟩))
        | ((with_reducible apply Z.callZ_ovl (tS := 23) (tR := 4) tabOk Try.f65 Try.func65 (by kernel_rfl) (by kernel_rfl) (by kernel_rfl) (by kernel_rfl)); (iterate 4 (focus (exact rfl))); (focus (exact Nat.ne_of_beq_eq_false rfl)); (focus (simp; done)); (focus (exact Nat.zero_lt_succ _)))
        | ((with_reducible refine Z.slN_lo (q) ?_ ?_ ?_); (focus rfl); (focus ((try simp only [LN] at *) <;> omega)))
        | ((with_reducible refine Z.slN_lo (q + 1) ?_ ?_ ?_); (focus rfl); (focus ((try simp only [LN] at *) <;> omega)))
        | ((with_reducible refine slN_hi (q) ?_ ?_ ?_); (focus rfl); (focus ((try simp only [LN] at *) <;> omega)))
        | ((with_reducible refine slN_hc (A.length + 1) ?_ ?_ ?_); (focus rfl); (focus (exact ⟨_, rfl, by omega⟩)))
        | ((with_reducible refine apzE_k ?_); (with_reducible refine apzK_mk (A.length + 1 - q) ⟨_, rfl, ?_⟩ ?_ ?_ ?_ ?_ ?_ ?_); (focus ((try simp only [LN] at *) <;> omega)); (focus ((try simp only [LN] at *) <;> omega)); (focus (exact g_le (f := cL) rfl (by omega))); (iterate 2 (focus ((try simp only [LN] at *) <;> omega))); (focus rfl))
        | ((with_reducible refine cpyN.mk ?_ ?_ ?_ ?_); (focus rfl); (focus (exact one_all (by rfl))); (focus (exact g_fit (f := cL) rfl (by omega) (by (try simp only [LN] at *) <;> omega))))
        | ((with_reducible refine cpyN.mk ?_ ?_ ?_ ?_); (focus (exact g_len (f := cL) rfl (by (try simp only [LN] at *) <;> omega))); (focus (exact g_one cL_one rfl)); (focus (exact g_fit2 (f := cL) rfl (by omega) (by (try simp only [LN] at *) <;> omega) gS_len)))
        | ((with_reducible refine cpyN.mk2 ?_ ?_ ?_ ?_); (focus (exact g_lenp (f := cL) (by (try simp only [LN] at *) <;> omega))); (focus (exact g_onep cL_one (g_min (by (try simp only [LN] at *) <;> omega)))); (focus (exact g_fitp (f := cL) (by (try simp only [LN] at *) <;> omega))))
        | ((with_reducible refine cpyN.mk ?_ ?_ ?_ ?_); (focus rfl); (focus (exact one_all (by rfl))); (focus (exact g_fitp2 (f := cL) (by (try simp only [LN] at *) <;> omega) (g_fitk (by (try simp only [LN] at *) <;> omega)))))
        | ((with_reducible refine rowN_mk (cL x) ?_ ?_); (focus (show (List.map cL A)[0 + q]? = some (cL x); rw [Nat.zero_add, List.getElem?_map, hy]; rfl)))
        | ((with_reducible apply ixN_litp); (focus (exact rfl)); (focus ((try simp only [LN] at *) <;> omega)))
        | ((with_reducible refine slE_a ?_ ?_); (focus ((try simp only [LN] at *) <;> omega)))
        | with_reducible refine wr_i64 (by first | omega | (simp only [LN] at *; omega)) ?_
        | with_reducible first | refine Z.callZ_in tabOk 8 Try.f50 _ Try.func50 (by kernel_rfl) rfl rfl rfl ?_ | refine Z.callZ_in tabOk 95 Try.f51 _ Try.func51 (by kernel_rfl) rfl rfl rfl ?_
        | ((with_reducible apply ex_and); exact rfl)
        | with_reducible first | refine Z.drawZ_rule tabOk mixOk ?_ | refine Z.apZ_mk (by kernel_rfl) ?_)
      all_goals (try (conv => whnf))
      all_goals try (show Nat.ble _ _ = true; rfl)
      all_goals first
        | (refine ⟨Nat.le_of_ble_eq_true rfl, _, _, _, _, rfl, rfl, ?_, ?_⟩; (focus ((try simp only [LN]) <;> omega)); (exact g_ins (f := cL) rfl (by omega) rfl (gS_eq (by omega) rfl) (gT_eq (f := cL) rfl (Nat.le_min.2 ⟨by omega, by omega⟩) (by omega))))
        | (refine ⟨Nat.le_of_ble_eq_true rfl, _, _, _, _, rfl, rfl, ?_, ?_⟩; (focus ((try simp only [LN]) <;> omega)); (exact g_insp (f := cL) (by omega) (gS_eq (by omega) rfl) (gT_eqp (f := cL) (by omega) (.inl ⟨(Nat.min_eq_right (by omega)).trans (by omega), by omega⟩))))
        | ((refine Z.rndK ((i + 1, some (A.take q ++ (⟨t, bb⟩ : Pl) :: A.drop q), es3)) (fun s => [0, 1, 2, 3, 4, 5, 6, 7, s.idIn 5 1]) rfl rfl rfl rfl ?_ ?_ ?_ ?_); (focus (repeat' (first | exact trivial | exact rfl | apply And.intro))); (focus (repeat' (first | exact trivial | exact Z.map_sub (Z.MapL.ren HM fun _ => rfl) rfl | (intro b hb; cases hb; rfl) | exact Z.blk_sub rfl rfl (ren_map fun _ => rfl) | apply And.intro))); (focus (refine ⟨by (try dsimp only); omega, by (try dsimp only [Option.getD_some]); rw [← hins, insT_len]; (try simp only [LN] at *) <;> omega, by (try dsimp only [Option.getD_some]); rw [← hins]; exact layT_step hx HR HO, _, HM, ?_⟩; (try dsimp only [Option.getD_some]); rw [← hins]; exact lay_step (p := ⟨t, bb⟩) HL rfl)); ((try dsimp only); omega))
    · have hkA : k = A.length := by omega
      rw [hkA, List.take_length, List.drop_length] at hins
      refine Z.loopK tabOk (fun zq : Nat => [(9, .val (.int .i64 (zq : Int)))]) (fun zq : Nat => ([] : Z.Kr)) (fun zq => zq ≤ k) (fun zq => A.length - zq) 0 11 [(0, _), (1, _), (7, _), (8, _)] ⟨rfl, rfl, rfl, rfl, trivial⟩ [(0, some _), (1, some _), (2, some _), (3, some _), (4, some _), (5, some _), (7, some _), (8, some _), (9, some _), (10, some _)] ⟨rfl, rfl, rfl, rfl, rfl, rfl, rfl, rfl, rfl, rfl, trivial⟩ ?_ ?_ rfl rfl (Nat.zero_le _) ?_
      · repeat' (first | exact trivial | apply And.intro | exact ⟨_, rfl, Z.Imp.refl _⟩)
      · repeat' (first | exact trivial)
      rintro q HINV
      dsimp only at HINV ⊢
      by_cases hj : q < A.length
      · obtain ⟨x, hy⟩ := getElem?_some' (xs := A) (i := q) hj
        have hxa : ¬ t < x.task := gtT_lt hgk (by omega) hy
        repeat' ((conv => whnf); first
          | (with_reducible refine spB_dec ?_ ?_ <;> intro _ <;> (try (exfalso; first | contradiction | omega | (rename_i hz; refine hz ?_; simp; done) | (rename_i hz; simp at hz; done) | (simp only [LN] at *; omega))))
          | ((with_reducible refine rowN_mk (cL x) ?_ ?_); (focus (show (List.map cL A)[0 + q]? = some (cL x); rw [Nat.zero_add, List.getElem?_map, hy]; rfl)))
          | ((with_reducible apply ixN_litp); (focus (exact rfl)); (focus ((try simp only [LN] at *) <;> omega)))
          | with_reducible refine wr_i64 (by first | omega | (simp only [LN] at *; omega)) ?_
          | with_reducible first | refine Z.callZ_in tabOk 8 Try.f50 _ Try.func50 (by kernel_rfl) rfl rfl rfl ?_
          | ((with_reducible apply ex_and); exact rfl))
        all_goals (try (conv => whnf))
        all_goals try (show Nat.ble _ _ = true; rfl)
        all_goals first
          | ((refine Z.rndK ((q + 1)) (fun s => [0, 1, 2, 3, 4, 5, 6, 7, 8, 9, 10]) rfl rfl rfl rfl ?_ ?_ ?_ ?_); (focus (repeat' (first | exact trivial | exact rfl | apply And.intro))); (focus (repeat' (first | exact trivial | exact Z.map_sub (Z.MapL.ren HM fun _ => rfl) rfl | (intro b hb; cases hb; rfl) | exact Z.blk_sub rfl rfl (ren_map fun _ => rfl) | apply And.intro))); (focus (omega)); ((try dsimp only); omega))
      have hji : q = A.length := by omega
      subst hji
      repeat' ((conv => whnf); first
        | with_reducible first | refine spB_t ?_
        | ((with_reducible apply spB_cong); (focus (simp only [beq_self_eq_true, bne_self_eq_false, Bool.true_bne, Bool.false_bne, Bool.bne_true, Bool.bne_false, Bool.true_beq, Bool.false_beq, Bool.not_true, Bool.not_false, Bool.not_not, Int.reduceBEq, Int.reduceBNe, Int.reduceLE, Int.reduceLT, Int.reduceEq, decide_true, decide_false]; rfl)))
        | with_reducible first | refine spB_no (by decide) ?_
        | (with_reducible refine spB_dec ?_ ?_ <;> intro _ <;> (try (exfalso; first | contradiction | omega | (rename_i hz; refine hz ?_; simp; done) | (rename_i hz; simp at hz; done) | (simp only [LN] at *; omega))))
        | ((with_reducible refine Z.ConZ.red ?_); (apply Z.conZ_ins (N := (A ++ [(⟨t, bb⟩ : Pl)]).length) (B := ⟨(A ++ [(⟨t, bb⟩ : Pl)]).map cL, 2, 66, false⟩)); (focus rfl); (focus (repeat (first | exact Z.FK.nil | (apply Z.FK.keep; exact rfl) | (apply Z.FK.drop; exact rfl)))); (focus (repeat (first | exact trivial | (refine ⟨(fun o ho => (by first | (cases ho; rfl) | (cases ho; exact Z.inL_map fun _ => rfl) | (cases ho; exact Z.inL_mapr fun _ => rfl) | exact Z.inL_gB ho fun _ => rfl)), ?_⟩)))); (focus rfl); (focus (exact Z.inL_map fun _ => rfl)))
        | ((apply Z.callZ_capS (n := A.length)); (focus (exact rfl)); (focus (simp; done)); (intro capv hcapv; refine ⟨fun hcap => ?_, fun hcap gv hgv => ?_⟩))
        | ((with_reducible refine Z.slN_lo (A.length) ?_ ?_ ?_); (focus rfl); (focus ((try simp only [LN] at *) <;> omega)))
        | ((with_reducible refine apdE_r ?_); (with_reducible refine aprN.mk ⟨_, rfl, ?_⟩ ?_ ?_ ?_ ?_); (focus omega); (focus rfl); (focus (exact one_all (by rfl))); (focus (simp; done)))
        | ((with_reducible refine apdE_k ?_); (with_reducible refine apkN.mk ⟨_, rfl, ?_⟩ ?_); (focus omega); (with_reducible refine apdN.mk ?_ ?_ ?_ ?_ ?_ ?_); (focus rfl); (focus (exact one_all (by rfl))); (focus (simp; done)); (focus ((try simp only [LN] at *) <;> omega)); (focus ((try simp only [LN] at *) <;> omega)))
        | ((with_reducible refine slE_b ?_ ?_); (focus ((try simp only [LN] at *) <;> omega)))
        | with_reducible refine wr_i64 (by first | omega | (simp only [LN] at *; omega)) ?_
        | with_reducible first | refine Z.callZ_in tabOk 95 Try.f51 _ Try.func51 (by kernel_rfl) rfl rfl rfl ?_
        | ((with_reducible apply ex_and); exact rfl)
        | with_reducible first | refine Z.drawZ_rule tabOk mixOk ?_ | refine Z.apZ_mk (by kernel_rfl) ?_)
      all_goals (try (conv => whnf))
      all_goals try (show Nat.ble _ _ = true; rfl)
      all_goals first
        | (refine ⟨Nat.le_of_ble_eq_true rfl, _, _, _, _, rfl, rfl, ?_, ?_⟩; (focus ((try simp only [LN]) <;> omega)); (exact g_app (f := cL) rfl rfl))
        | (refine ⟨Nat.le_of_ble_eq_true rfl, _, _, _, _, rfl, rfl, ?_, ?_⟩; (focus ((try simp only [LN]) <;> omega)); (exact g_appr (f := cL) rfl rfl))
        | ((refine Z.rndK ((i + 1, some (A ++ [(⟨t, bb⟩ : Pl)]), es3)) (fun s => [0, 1, 2, 3, 4, 5, 6, 7, s.idIn 5 1]) rfl rfl rfl rfl ?_ ?_ ?_ ?_); (focus (repeat' (first | exact trivial | exact rfl | apply And.intro))); (focus (repeat' (first | exact trivial | exact Z.map_sub (Z.MapL.ren HM fun _ => rfl) rfl | (intro b hb; cases hb; rfl) | exact Z.blk_sub rfl rfl (ren_map fun _ => rfl) | apply And.intro))); (focus (refine ⟨by (try dsimp only); omega, by (try dsimp only [Option.getD_some]); rw [← hins, insT_len]; (try simp only [LN] at *) <;> omega, by (try dsimp only [Option.getD_some]); rw [← hins]; exact layT_step hx HR HO, _, HM, ?_⟩; (try dsimp only [Option.getD_some]); rw [← hins]; exact lay_step (p := ⟨t, bb⟩) HL rfl)); ((try dsimp only); omega))

end Go.Proofs.Ytllnmdmmmkoiaaa
namespace Go.Proofs.Ytllnmdmmmkoiaaa
open Go Go.RowKit Wx
set_option linter.unusedVariables false
set_option linter.unusedSimpArgs false
set_option maxHeartbeats 4000000
theorem lay_0e (ad : Addr) (cap : Nat) (ws : List Wk) (ts : List Int) (hw : ws.length ≤ 1000) (ht : ts.length ≤ 1000) (hk : okF ws [] = true) (hwt : wantT ws [] ts = 0) : Con Try.prog 18 [.agg [.ro false 2 (ws.map eW), .v (.slice (some ad) 0 cap)], .one (.ro false 1 (ts.map eI))] (fun rx rK rt => rx = .tup [.agg [.ro true 2 ((ws).map eW), .ro true 2 (((layT ws [] ts)).map eL)], .one (.v (.int .i64 0))] ∧ rK = [] ∧ rt = 0) := by
  refine Z.con_ofF tabOk 11 Try.f18 _ Try.func18 (by kernel_rfl) rfl rfl rfl rfl ?_
  have ck := check_con ws [] (by omega) (by (try simp only [LN] at *) <;> omega)
  rw [hk] at ck
  simp only [cond_true] at ck
  have cw := wanted_con ws [] ts hw (by (try simp only [LN] at *) <;> omega) ht hk
  rw [hwt] at cw
  have cc := clonew_f3 ws hw
  have ck := con_emp2 ad cap ck
  have cw := con_emp2 ad cap cw
  have cp := clonep_1 ad cap
  obtain ⟨hkw, hkp, hkc⟩ := okF_all hk
  have hwl := okW_len hkw
  have hpl := okT_len hkp
  have hsw := (okW_all.1 hkw).1
  repeat' ((conv => whnf); first
    | ((with_reducible apply spB_cong); (focus (simp only [beq_self_eq_true, bne_self_eq_false, Bool.true_bne, Bool.false_bne, Bool.bne_true, Bool.bne_false, Bool.true_beq, Bool.false_beq, Bool.not_true, Bool.not_false, Bool.not_not, Int.reduceBEq, Int.reduceBNe, Int.reduceLE, Int.reduceLT, Int.reduceEq, decide_true, decide_false]; rfl)))
    | with_reducible first | refine spB_no (by decide) ?_
    | with_reducible first | refine Z.callZ_in tabOk 52 Try.f45 _ Try.func45 (by kernel_rfl) rfl rfl rfl ?_ | refine Z.callZ_in tabOk 36 Try.f47 _ Try.func47 (by kernel_rfl) rfl rfl rfl ?_ | refine Z.callZ_in tabOk 29 Try.f31 _ Try.func31 (by kernel_rfl) rfl rfl rfl ?_
    | ((first | (with_reducible refine Z.callZ_mk ?_ (cw) ?_) | (with_reducible refine Z.callZ_mk ?_ (ck) ?_) | (with_reducible refine Z.conZ_mz ?_ (cc) ?_) | (with_reducible refine Z.conZ_mz ?_ (cp) ?_)); (focus ((repeat' (first | exact trivial | exact rfl | apply And.intro)); done)))
    | with_reducible first | refine Z.drawZ_rule tabOk mixOk ?_ | refine Z.apZ_mk (by kernel_rfl) ?_)
  all_goals (try (conv => whnf))
  all_goals try (show Nat.ble _ _ = true; rfl)
  all_goals try (exfalso; rename_i hz; cases hz; done)
  all_goals try (exfalso; (try simp only [LN] at *) <;> omega)
  refine Z.loopK tabOk (fun zq : Nat × Y.MS => [(12, .val (.int .i64 (zq.1 : Int)))]) (fun zq : Nat × Y.MS => ([(8, some (Z.Ob.m zq.2)), (5, some (Z.Ob.b ⟨[], 2, 66, false⟩))] : Z.Kr)) (fun zq => zq.1 ≤ ws.length ∧ Z.MapL .i64 enI zq.2 (mapW (ws.take zq.1))) (fun zq => ws.length - zq.1) (0, ⟨[], 0⟩) 9 [(1, _), (3, _), (10, _), (11, _)] ⟨rfl, rfl, rfl, rfl, trivial⟩ [(0, some _), (1, some _), (2, some _), (3, some _), (4, some _), (6, some _), (7, some _)] ⟨rfl, rfl, rfl, rfl, rfl, rfl, rfl, trivial⟩ ?_ ?_ rfl rfl ⟨Nat.zero_le _, Z.MapL.nil⟩ ?_
  · repeat' (first | exact trivial | apply And.intro | exact ⟨_, rfl, Z.Imp.refl _⟩)
  · repeat' (first | exact trivial | exact (fun b hb => ⟨b, hb, Z.ImpO.refl b⟩) | apply And.intro)
  rintro ⟨i2, es⟩ HINV
  dsimp only at HINV ⊢
  obtain ⟨HI2, HM⟩ := HINV
  by_cases hi2 : i2 < ws.length
  · obtain ⟨w, hx⟩ := getElem?_some' (xs := ws) (i := i2) hi2
    repeat' ((conv => whnf); first
      | (with_reducible refine spB_dec ?_ ?_ <;> intro _ <;> (try (exfalso; first | contradiction | omega | (rename_i hz; refine hz ?_; simp; done) | (rename_i hz; simp at hz; done) | (simp only [LN] at *; omega))))
      | with_reducible first | refine Z.rowN_known hx ?_
      | ((with_reducible refine Z.MapL.upd' HM (v := w.sl) ?_ ?_); (focus rfl); (intro es3 HM))
      | ((with_reducible apply ixN_litp); (focus (exact rfl)); (focus ((try simp only [LN] at *) <;> omega)))
      | with_reducible refine wr_i64 (by first | omega | (simp only [LN] at *; omega)) ?_)
    all_goals (try (conv => whnf))
    all_goals try (show Nat.ble _ _ = true; rfl)
    all_goals first
      | ((refine Z.rndK ((i2 + 1, es3)) (fun s => [0, 1, 2, 3, 4, 5, 6, 7, 8]) rfl rfl rfl rfl ?_ ?_ ?_ ?_); (focus (repeat' (first | exact trivial | exact rfl | apply And.intro))); (focus (repeat' (first | exact trivial | exact Z.map_sub (Z.MapL.ren HM fun _ => rfl) rfl | (intro b hb; cases hb; rfl) | apply And.intro))); (focus (refine ⟨by dsimp only; omega, ?_⟩; (try dsimp only); rw [← mapW_snoc hsw hx]; exact HM)); ((try dsimp only); omega))
  have hw9 := take_end hi2
  rw [hw9] at HM
  repeat' ((conv => whnf); first
    | (with_reducible refine spB_dec ?_ ?_ <;> intro _ <;> (try (exfalso; first | contradiction | omega | (rename_i hz; refine hz ?_; simp; done) | (rename_i hz; simp at hz; done) | (simp only [LN] at *; omega)))))
  all_goals (try (conv => whnf))
  all_goals try (show Nat.ble _ _ = true; rfl)
  all_goals try (exfalso; (try simp only [LN] at *) <;> omega)
  refine Z.loopK tabOk (fun zq : Nat × Y.MS => [(25, .val (.int .i64 (zq.1 : Int)))]) (fun zq : Nat × Y.MS => ([(8, some (Z.Ob.m zq.2)), (5, some (Z.Ob.b ⟨[], 2, 66, false⟩))] : Z.Kr)) (fun zq => zq.1 ≤ ([] : List Pl).length ∧ ∃ L, Z.MapL .i64 enI zq.2 L ∧ (∀ y, (Z.lookK L y).getD 0 = slF ws y - cnt (([] : List Pl).take zq.1) y) ∧ sumK L = sumW ws - (zq.1 : Int)) (fun zq => ([] : List Pl).length - zq.1) (0, es) 9 [(3, _), (23, _), (24, _)] ⟨rfl, rfl, rfl, trivial⟩ [(0, some _), (1, some _), (2, some _), (3, some _), (4, some _), (6, some _), (7, some _)] ⟨rfl, rfl, rfl, rfl, rfl, rfl, rfl, trivial⟩ ?_ ?_ rfl rfl ⟨Nat.zero_le _, _, HM, fun y => by rw [look_mapW]; simp [cnt], by rw [sum_mapW]; simp⟩ ?_
  · repeat' (first | exact trivial | apply And.intro | exact ⟨_, rfl, Z.Imp.refl _⟩)
  · repeat' (first | exact trivial | exact (fun b hb => ⟨b, hb, Z.ImpO.refl b⟩) | apply And.intro)
  rintro ⟨j2, es⟩ HINV
  dsimp only at HINV ⊢
  obtain ⟨HJ2, L, HM, HL, HS⟩ := HINV
  by_cases hj2 : j2 < ([] : List Pl).length
  · obtain ⟨q, hx⟩ := getElem?_some' (xs := ([] : List Pl)) (i := j2) hj2
    have hv1 := HL q.wk
    have hv2 := okW_sl hkw q.wk
    have hv3 := cnt_nn (ps := ([] : List Pl).take j2) (y := q.wk)
    have hv4 : (([] : List Pl).take j2).length ≤ 16 := by rw [List.length_take]; omega
    have hsp := sum_put (L := L) (k := q.wk) (v := (Z.lookK L q.wk).getD 0 - 1)
    repeat' ((conv => whnf); first
      | (with_reducible refine spB_dec ?_ ?_ <;> intro _ <;> (try (exfalso; first | contradiction | omega | (rename_i hz; refine hz ?_; simp; done) | (rename_i hz; simp at hz; done) | (simp only [LN] at *; omega)))))
    all_goals (try (conv => whnf))
    all_goals try (show Nat.ble _ _ = true; rfl)
    all_goals first
      | ((refine Z.rndK ((j2 + 1, es3)) (fun s => [0, 1, 2, 3, 4, 5, 6, 7, 8]) rfl rfl rfl rfl ?_ ?_ ?_ ?_); (focus (repeat' (first | apply And.intro))); (focus (repeat' (first | apply And.intro))); (focus (refine ⟨by dsimp only; omega, _, HM, free_step hx HL rfl, ?_⟩; (try dsimp only); omega)); ((try dsimp only); omega))
  have hp9 := take_end hj2
  rw [hp9] at HL
  have hjl : j2 = ([] : List Pl).length := by omega
  subst hjl
  repeat' ((conv => whnf); first
    | with_reducible first | refine spB_no (by decide) ?_
    | ((with_reducible apply ex_and); exact rfl))
  all_goals (try (conv => whnf))
  all_goals try (show Nat.ble _ _ = true; rfl)
  all_goals try (exfalso; rename_i hz; cases hz; done)
  all_goals try (exfalso; (try simp only [LN] at *) <;> omega)
  refine Z.loopK tabOk (fun zq : Nat × Option (List Pl) × Y.MS => [(21, .val (.int .i64 (zq.1 : Int)))]) (fun zq : Nat × Option (List Pl) × Y.MS => ([(6, some (Z.Ob.b ⟨[[.ro true 2 (ws.map eW), cel (.osl 5 0 0 (some 0)) 9 zq.2.1]], 2, 25, true⟩)), (8, some (Z.Ob.m zq.2.2)), (9, bln zq.2.1), (5, blo (some (.b ⟨[], 2, 66, false⟩)) zq.2.1)] : Z.Kr)) (fun zq => zq.1 ≤ ts.length ∧ (zq.2.1.getD []).length = ([] : List Pl).length + zq.1 ∧ layT ws [] ts = layT ws (zq.2.1.getD []) (ts.drop zq.1) ∧ ∃ L, Z.MapL .i64 enI zq.2.2 L ∧ ∀ y, (Z.lookK L y).getD 0 = leftF ws (zq.2.1.getD []) y) (fun zq => ts.length - zq.1) (0, none, es) 10 [(0, _), (1, _), (6, _), (19, _), (20, _)] ⟨rfl, rfl, rfl, rfl, rfl, trivial⟩ [(0, some _), (1, some _), (2, some _), (3, some _), (4, some _)] ⟨rfl, rfl, rfl, rfl, rfl, trivial⟩ ?_ ?_ rfl rfl ⟨Nat.zero_le _, rfl, rfl, L, HM, HL⟩ ?_
  · repeat' (first | exact trivial | apply And.intro | exact ⟨_, rfl, Z.Imp.refl _⟩)
  · repeat' (first | exact trivial | (intro b hb; cases hb; done) | exact (fun b hb => ⟨b, hb, Z.ImpO.refl b⟩) | apply And.intro)
  rintro ⟨i, o, es⟩ HINV
  dsimp only at HINV ⊢
  clear HM HL HS
  obtain ⟨HI, HAl, HO, L, HM, HL⟩ := HINV
  rcases o with _ | A
  · dsimp only [cel, blo, bln, Option.getD_none] at HAl HO HL ⊢
    by_cases hi : i < ts.length
    rotate_left
    · have hlay : ([] : List Pl) = layT ws [] ts := by rw [HO, List.drop_eq_nil_of_le (by omega)]; rfl
      rw [← hlay]
      repeat' ((conv => whnf); first
        | ((with_reducible apply spB_cong); (focus (simp only [beq_self_eq_true, bne_self_eq_false, Bool.true_bne, Bool.false_bne, Bool.bne_true, Bool.bne_false, Bool.true_beq, Bool.false_beq, Bool.not_true, Bool.not_false, Bool.not_not, Int.reduceBEq, Int.reduceBNe, Int.reduceLE, Int.reduceLT, Int.reduceEq, decide_true, decide_false]; rfl)))
        | with_reducible first | refine spB_no (by decide) ?_
        | (with_reducible refine spB_dec ?_ ?_ <;> intro _ <;> (try (exfalso; first | contradiction | omega | (rename_i hz; refine hz ?_; simp; done) | (rename_i hz; simp at hz; done) | (simp only [LN] at *; omega))))
        | ((with_reducible apply ex_and); exact rfl))
      all_goals (try (conv => whnf))
      all_goals try (show Nat.ble _ _ = true; rfl)
      all_goals first
        | (refine Z.retF2 [.agg [.ro true 2 (ws.map eW), .osl 5 0 0 (some 0)], .one (.v (.int .i64 0))] (by rfl) ⟨⟨rfl, (Z.frz_osl (l := ([] : List Pl)) (f := cL) (ty := 66) (bx := false) (by rfl) rfl (fun _ => rfl)), trivial⟩, rfl, trivial⟩)
    obtain ⟨t, hx⟩ := getElem?_some' (xs := ts) (i := i) hi
    repeat' ((conv => whnf); first
      | (with_reducible refine spB_dec ?_ ?_ <;> intro _ <;> (try (exfalso; first | contradiction | omega | (rename_i hz; refine hz ?_; simp; done) | (rename_i hz; simp at hz; done) | (simp only [LN] at *; omega))))
      | with_reducible first | refine Z.rowN_known hx ?_
      | ((with_reducible apply ixN_litp); (focus (exact rfl)); (focus ((try simp only [LN] at *) <;> omega)))
      | with_reducible first | refine Z.callZ_in tabOk 31 Try.f48 _ Try.func48 (by kernel_rfl) rfl rfl rfl ?_)
    all_goals (try (conv => whnf))
    all_goals try (show Nat.ble _ _ = true; rfl)
    all_goals try (exfalso; rename_i hz; cases hz; done)
    all_goals try (exfalso; (try simp only [LN] at *) <;> omega)
    refine Z.loopK tabOk (fun zq : Nat × Int => [(11, .val (.int .i64 (zq.1 : Int))), (5, .val (.int .i64 zq.2))]) (fun zq : Nat × Int => ([] : Z.Kr)) (fun zq => zq.1 ≤ ws.length ∧ roomF (leftF ws []) ws 0 = roomF (leftF ws []) (ws.drop zq.1) zq.2) (fun zq => ws.length - zq.1) (0, 0) 12 [(1, _), (9, _), (10, _)] ⟨rfl, rfl, rfl, trivial⟩ [(0, some _), (1, some _), (2, some _), (3, some _), (4, some _), (5, some _), (6, some _), (8, some _), (10, some _), (11, some _)] ⟨rfl, rfl, rfl, rfl, rfl, rfl, rfl, rfl, rfl, rfl, trivial⟩ ?_ ?_ rfl rfl ⟨Nat.zero_le _, rfl⟩ ?_
    · repeat' (first | exact trivial | apply And.intro | exact ⟨_, rfl, Z.Imp.refl _⟩)
    · repeat' (first | exact trivial)
    rintro ⟨j, bb⟩ HINV
    dsimp only at HINV ⊢
    obtain ⟨HJ, HR⟩ := HINV
    by_cases hj : j < ws.length
    · obtain ⟨w, hy⟩ := getElem?_some' (xs := ws) (i := j) hj
      have h1 := HL w.id
      have h2 := HL bb
      repeat' ((conv => whnf); first
        | with_reducible first | refine spB_t ?_
        | with_reducible first | refine spB_no (by decide) ?_
        | (with_reducible refine spB_dec ?_ ?_ <;> intro _ <;> (try (exfalso; first | contradiction | omega | (rename_i hz; refine hz ?_; simp; done) | (rename_i hz; simp at hz; done) | (simp only [LN] at *; omega))))
        | (with_reducible refine spB_beq ?_ ?_ <;> intro _ <;> (try (exfalso; first | contradiction | omega | (rename_i hz; refine hz ?_; simp; done) | (rename_i hz; simp at hz; done) | (simp only [LN] at *; omega))))
        | with_reducible first | refine Z.rowN_known hy ?_
        | ((with_reducible refine Z.MapL.look HM (z0 := (0 : Int)) ?_ ?_); (focus rfl))
        | ((with_reducible apply ixN_litp); (focus (exact rfl)); (focus ((try simp only [LN] at *) <;> omega)))
        | with_reducible refine wr_i64 (by first | omega | (simp only [LN] at *; omega)) ?_)
      all_goals (try (conv => whnf))
      all_goals try (show Nat.ble _ _ = true; rfl)
      all_goals first
        | ((refine Z.rndK ((j + 1, w.id)) (fun s => [0, 1, 2, 3, 4, 5, 6, 7, 8, 9, 10, 11]) rfl rfl rfl rfl ?_ ?_ ?_ ?_); (focus (repeat' (first | exact trivial | exact rfl | apply And.intro))); (focus (repeat' (first | exact trivial | exact Z.map_sub (Z.MapL.ren HM fun _ => rfl) rfl | (intro b hb; cases hb; rfl) | apply And.intro))); (focus (refine ⟨by (try dsimp only); omega, ?_⟩; (try dsimp only); rw [HR, drop_cons hy, roomF, if_pos (by first | (left; omega) | (right; omega))])); ((try dsimp only); omega))
        | ((refine Z.rndK ((j + 1, bb)) (fun s => [0, 1, 2, 3, 4, 5, 6, 7, 8, 9, 10, 11]) rfl rfl rfl rfl ?_ ?_ ?_ ?_); (focus (repeat' (first | exact trivial | exact rfl | apply And.intro))); (focus (repeat' (first | exact trivial | exact Z.map_sub (Z.MapL.ren HM fun _ => rfl) rfl | (intro b hb; cases hb; rfl) | apply And.intro))); (focus (refine ⟨by (try dsimp only); omega, ?_⟩; (try dsimp only); rw [HR, drop_cons hy, roomF, if_neg (by omega)])); ((try dsimp only); omega))
    rw [drop_end hj, roomF] at HR
    have hlb := HL bb
    have hb1 := okW_sl hkw bb
    have hb2 := cnt_nn (ps := []) (y := bb)
    have hlb2 : (Z.lookK L bb).getD 0 = slF ws bb - cnt [] bb := hlb
    have hAle : ([] : List Pl).length ≤ 1016 := by (try simp only [LN] at *) <;> omega
    repeat' ((conv => whnf); first
      | (with_reducible refine spB_dec ?_ ?_ <;> intro _ <;> (try (exfalso; first | contradiction | omega | (rename_i hz; refine hz ?_; simp; done) | (rename_i hz; simp at hz; done) | (simp only [LN] at *; omega))))
      | ((with_reducible refine Z.MapL.look HM (z0 := (0 : Int)) ?_ ?_); (focus rfl))
      | ((with_reducible refine Z.MapL.upd' HM (v := (Z.lookK L bb).getD 0 - 1) ?_ ?_); (focus rfl); (intro es3 HM))
      | with_reducible refine wr_i64 (by first | omega | (simp only [LN] at *; omega)) ?_
      | with_reducible first | refine Z.callZ_in tabOk 21 Try.f49 _ Try.func49 (by kernel_rfl) rfl rfl rfl ?_
      | ((with_reducible apply ex_and); exact rfl))
    all_goals (try (conv => whnf))
    all_goals try (show Nat.ble _ _ = true; rfl)
    all_goals try (exfalso; rename_i hz; cases hz; done)
    all_goals try (exfalso; (try simp only [LN] at *) <;> omega)
    have hgl : gtT [] t ≤ ([] : List Pl).length := gtT_le
    generalize hgk : gtT [] t = k at *
    have hins : insT [] ⟨t, bb⟩ = [(⟨t, bb⟩ : Pl)] := rfl
    · have hkA : k = 0 := by simp at hgl; omega
      subst hkA
      repeat' ((conv => whnf); first
        | with_reducible first | refine spB_t ?_
        | ((with_reducible apply spB_cong); (focus (simp only [beq_self_eq_true, bne_self_eq_false, Bool.true_bne, Bool.false_bne, Bool.bne_true, Bool.bne_false, Bool.true_beq, Bool.false_beq, Bool.not_true, Bool.not_false, Bool.not_not, Int.reduceBEq, Int.reduceBNe, Int.reduceLE, Int.reduceLT, Int.reduceEq, decide_true, decide_false]; rfl)))
        | with_reducible first | refine spB_no (by decide) ?_
        | ((with_reducible refine Z.ConZ.red ?_); (apply Z.conZ_ins (N := [(⟨t, bb⟩ : Pl)].length) (B := ⟨[(⟨t, bb⟩ : Pl)].map cL, 2, 66, false⟩)); (focus rfl); (focus (repeat (first | exact Z.FK.nil | (apply Z.FK.keep; exact rfl) | (apply Z.FK.drop; exact rfl)))); (focus (repeat (first | exact trivial | (refine ⟨(fun o ho => (by first | (cases ho; rfl) | (cases ho; exact Z.inL_map fun _ => rfl) | (cases ho; exact Z.inL_mapr fun _ => rfl) | exact Z.inL_gB ho fun _ => rfl)), ?_⟩)))); (focus rfl); (focus (exact Z.inL_map fun _ => rfl)))
        | ((with_reducible refine Z.slN_lo 0 ?_ ?_ ?_); (focus rfl); (focus ((try simp only [LN] at *) <;> omega)))
        | with_reducible first | refine Z.loopZ_unroll tabOk 3 ?_
        | ((with_reducible refine apdE_n ?_); (with_reducible refine apdN.mk ?_ ?_ ?_ ?_ ?_ ?_); (focus rfl); (focus (exact one_all (by rfl))); (focus (simp; done)); (focus ((try simp only [LN] at *) <;> omega)); (focus ((try simp only [LN] at *) <;> omega)))
        | ((with_reducible refine slE_b ?_ ?_); (focus ((try simp only [LN] at *) <;> omega)))
        | with_reducible refine wr_i64 (by first | omega | (simp only [LN] at *; omega)) ?_
        | with_reducible first | refine Z.callZ_in tabOk 95 Try.f51 _ Try.func51 (by kernel_rfl) rfl rfl rfl ?_
        | ((with_reducible apply ex_and); exact rfl)
        | with_reducible first | refine Z.drawZ_rule tabOk mixOk ?_ | refine Z.apZ_mk (by kernel_rfl) ?_)
      all_goals (try (conv => whnf))
      all_goals try (show Nat.ble _ _ = true; rfl)
      all_goals first
        | (refine ⟨Nat.le_of_ble_eq_true rfl, _, _, _, _, rfl, rfl, ?_, ?_⟩; (focus ((try simp only [LN]) <;> omega)); (exact g_app (l := []) (f := cL) rfl rfl))
        | ((refine Z.rndK ((i + 1, some [(⟨t, bb⟩ : Pl)], es3)) (fun s => [0, 1, 2, 3, 4, 5, 6, 7, 8, s.idIn 6 1]) rfl rfl rfl rfl ?_ ?_ ?_ ?_); (focus (repeat' (first | exact trivial | exact rfl | apply And.intro))); (focus (repeat' (first | exact trivial | exact Z.map_sub (Z.MapL.ren HM fun _ => rfl) rfl | (intro b hb; cases hb; rfl) | (intro b hb; cases hb; done) | apply And.intro))); (focus (refine ⟨by (try dsimp only); omega, by (try dsimp only [Option.getD_some]); rw [← hins, insT_len]; (try simp only [LN] at *) <;> omega, by (try dsimp only [Option.getD_some]); rw [← hins]; exact layT_step hx HR HO, _, HM, ?_⟩; (try dsimp only [Option.getD_some]); rw [← hins]; exact lay_step (p := ⟨t, bb⟩) HL rfl)); ((try dsimp only); omega))
  · dsimp only [cel, blo, bln, Option.getD_some] at HAl HO HL ⊢
    by_cases hi : i < ts.length
    rotate_left
    · have hlay : A = layT ws [] ts := by rw [HO, List.drop_eq_nil_of_le (by omega)]; rfl
      rw [← hlay]
      repeat' ((conv => whnf); first
        | ((with_reducible apply spB_cong); (focus (simp only [beq_self_eq_true, bne_self_eq_false, Bool.true_bne, Bool.false_bne, Bool.bne_true, Bool.bne_false, Bool.true_beq, Bool.false_beq, Bool.not_true, Bool.not_false, Bool.not_not, Int.reduceBEq, Int.reduceBNe, Int.reduceLE, Int.reduceLT, Int.reduceEq, decide_true, decide_false]; rfl)))
        | with_reducible first | refine spB_no (by decide) ?_
        | (with_reducible refine spB_dec ?_ ?_ <;> intro _ <;> (try (exfalso; first | contradiction | omega | (rename_i hz; refine hz ?_; simp; done) | (rename_i hz; simp at hz; done) | (simp only [LN] at *; omega))))
        | ((with_reducible apply ex_and); exact rfl))
      all_goals (try (conv => whnf))
      all_goals try (show Nat.ble _ _ = true; rfl)
      all_goals first
        | (refine Z.retF2 [.agg [.ro true 2 (ws.map eW), .osl 9 0 A.length none], .one (.v (.int .i64 0))] (by rfl) ⟨⟨rfl, (Z.frz_osl (l := A) (f := cL) (ty := 66) (bx := false) (by rfl) rfl (fun _ => rfl)), trivial⟩, rfl, trivial⟩)
    obtain ⟨t, hx⟩ := getElem?_some' (xs := ts) (i := i) hi
    repeat' ((conv => whnf); first
      | (with_reducible refine spB_dec ?_ ?_ <;> intro _ <;> (try (exfalso; first | contradiction | omega | (rename_i hz; refine hz ?_; simp; done) | (rename_i hz; simp at hz; done) | (simp only [LN] at *; omega))))
      | with_reducible first | refine Z.rowN_known hx ?_
      | ((with_reducible apply ixN_litp); (focus (exact rfl)); (focus ((try simp only [LN] at *) <;> omega)))
      | with_reducible first | refine Z.callZ_in tabOk 31 Try.f48 _ Try.func48 (by kernel_rfl) rfl rfl rfl ?_)
    all_goals (try (conv => whnf))
    all_goals try (show Nat.ble _ _ = true; rfl)
    all_goals try (exfalso; rename_i hz; cases hz; done)
    all_goals try (exfalso; (try simp only [LN] at *) <;> omega)
    refine Z.loopK tabOk (fun zq : Nat × Int => [(11, .val (.int .i64 (zq.1 : Int))), (5, .val (.int .i64 zq.2))]) (fun zq : Nat × Int => ([] : Z.Kr)) (fun zq => zq.1 ≤ ws.length ∧ roomF (leftF ws A) ws 0 = roomF (leftF ws A) (ws.drop zq.1) zq.2) (fun zq => ws.length - zq.1) (0, 0) 12 [(1, _), (9, _), (10, _)] ⟨rfl, rfl, rfl, trivial⟩ [(0, some _), (1, some _), (2, some _), (3, some _), (4, some _), (6, some _), (8, some _), (9, some _), (10, some _), (11, some _)] ⟨rfl, rfl, rfl, rfl, rfl, rfl, rfl, rfl, rfl, rfl, trivial⟩ ?_ ?_ rfl rfl ⟨Nat.zero_le _, rfl⟩ ?_
    · repeat' (first | exact trivial | apply And.intro | exact ⟨_, rfl, Z.Imp.refl _⟩)
    · repeat' (first | exact trivial)
    rintro ⟨j, bb⟩ HINV
    dsimp only at HINV ⊢
    obtain ⟨HJ, HR⟩ := HINV
    by_cases hj : j < ws.length
    · obtain ⟨w, hy⟩ := getElem?_some' (xs := ws) (i := j) hj
      have h1 := HL w.id
      have h2 := HL bb
      repeat' ((conv => whnf); first
        | with_reducible first | refine spB_t ?_
        | with_reducible first | refine spB_no (by decide) ?_
        | (with_reducible refine spB_dec ?_ ?_ <;> intro _ <;> (try (exfalso; first | contradiction | omega | (rename_i hz; refine hz ?_; simp; done) | (rename_i hz; simp at hz; done) | (simp only [LN] at *; omega))))
        | (with_reducible refine spB_beq ?_ ?_ <;> intro _ <;> (try (exfalso; first | contradiction | omega | (rename_i hz; refine hz ?_; simp; done) | (rename_i hz; simp at hz; done) | (simp only [LN] at *; omega))))
        | with_reducible first | refine Z.rowN_known hy ?_
        | ((with_reducible refine Z.MapL.look HM (z0 := (0 : Int)) ?_ ?_); (focus rfl))
        | ((with_reducible apply ixN_litp); (focus (exact rfl)); (focus ((try simp only [LN] at *) <;> omega)))
        | with_reducible refine wr_i64 (by first | omega | (simp only [LN] at *; omega)) ?_)
      all_goals (try (conv => whnf))
      all_goals try (show Nat.ble _ _ = true; rfl)
      all_goals first
        | ((refine Z.rndK ((j + 1, w.id)) (fun s => [0, 1, 2, 3, 4, 5, 6, 7, 8, 9, 10, 11]) rfl rfl rfl rfl ?_ ?_ ?_ ?_); (focus (repeat' (first | exact trivial | exact rfl | apply And.intro))); (focus (repeat' (first | exact trivial | exact Z.map_sub (Z.MapL.ren HM fun _ => rfl) rfl | (intro b hb; cases hb; rfl) | exact Z.blk_sub rfl rfl (ren_map fun _ => rfl) | apply And.intro))); (focus (refine ⟨by (try dsimp only); omega, ?_⟩; (try dsimp only); rw [HR, drop_cons hy, roomF, if_pos (by first | (left; omega) | (right; omega))])); ((try dsimp only); omega))
        | ((refine Z.rndK ((j + 1, bb)) (fun s => [0, 1, 2, 3, 4, 5, 6, 7, 8, 9, 10, 11]) rfl rfl rfl rfl ?_ ?_ ?_ ?_); (focus (repeat' (first | exact trivial | exact rfl | apply And.intro))); (focus (repeat' (first | exact trivial | exact Z.map_sub (Z.MapL.ren HM fun _ => rfl) rfl | (intro b hb; cases hb; rfl) | exact Z.blk_sub rfl rfl (ren_map fun _ => rfl) | apply And.intro))); (focus (refine ⟨by (try dsimp only); omega, ?_⟩; (try dsimp only); rw [HR, drop_cons hy, roomF, if_neg (by omega)])); ((try dsimp only); omega))
    rw [drop_end hj, roomF] at HR
    have hlb := HL bb
    have hb1 := okW_sl hkw bb
    have hb2 := cnt_nn (ps := A) (y := bb)
    have hlb2 : (Z.lookK L bb).getD 0 = slF ws bb - cnt A bb := hlb
    have hAle : A.length ≤ 1016 := by (try simp only [LN] at *) <;> omega
    repeat' ((conv => whnf); first
      | (with_reducible refine spB_dec ?_ ?_ <;> intro _ <;> (try (exfalso; first | contradiction | omega | (rename_i hz; refine hz ?_; simp; done) | (rename_i hz; simp at hz; done) | (simp only [LN] at *; omega))))
      | ((with_reducible refine Z.MapL.look HM (z0 := (0 : Int)) ?_ ?_); (focus rfl))
      | ((with_reducible refine Z.MapL.upd' HM (v := (Z.lookK L bb).getD 0 - 1) ?_ ?_); (focus rfl); (intro es3 HM))
      | with_reducible refine wr_i64 (by first | omega | (simp only [LN] at *; omega)) ?_
      | with_reducible first | refine Z.callZ_in tabOk 21 Try.f49 _ Try.func49 (by kernel_rfl) rfl rfl rfl ?_
      | ((with_reducible apply ex_and); exact rfl))
    all_goals (try (conv => whnf))
    all_goals try (show Nat.ble _ _ = true; rfl)
    all_goals try (exfalso; rename_i hz; cases hz; done)
    all_goals try (exfalso; (try simp only [LN] at *) <;> omega)
    have hgl : gtT A t ≤ A.length := gtT_le
    generalize hgk : gtT A t = k at *
    have hins : insT A ⟨t, bb⟩ = A.take k ++ (⟨t, bb⟩ : Pl) :: A.drop k := by unfold insT; rw [hgk]
    by_cases hkl : k < A.length
    · skip
      refine Z.loopK tabOk (fun zq : Nat => [(9, .val (.int .i64 (zq : Int)))]) (fun zq : Nat => ([] : Z.Kr)) (fun zq => zq ≤ k) (fun zq => A.length - zq) 0 12 [(0, _), (1, _), (7, _), (8, _)] ⟨rfl, rfl, rfl, rfl, trivial⟩ [(0, some _), (1, some _), (2, some _), (3, some _), (4, some _), (6, some _), (8, some _), (9, some _), (10, some _), (11, some _)] ⟨rfl, rfl, rfl, rfl, rfl, rfl, rfl, rfl, rfl, rfl, trivial⟩ ?_ ?_ rfl rfl (Nat.zero_le _) ?_
      · repeat' (first | exact trivial | apply And.intro | exact ⟨_, rfl, Z.Imp.refl _⟩)
      · repeat' (first | exact trivial)
      rintro q HINV
      dsimp only at HINV ⊢
      obtain ⟨x, hy⟩ := getElem?_some' (xs := A) (i := q) (by omega)
      by_cases hj : q < k
      · have hxa : ¬ t < x.task := gtT_lt hgk hj hy
        repeat' ((conv => whnf); first
          | (with_reducible refine spB_dec ?_ ?_ <;> intro _ <;> (try (exfalso; first | contradiction | omega | (rename_i hz; refine hz ?_; simp; done) | (rename_i hz; simp at hz; done) | (simp only [LN] at *; omega))))
          | ((with_reducible refine rowN_mk (cL x) ?_ ?_); (focus (show (List.map cL A)[0 + q]? = some (cL x); rw [Nat.zero_add, List.getElem?_map, hy]; rfl)))
          | ((with_reducible apply ixN_litp); (focus (exact rfl)); (focus ((try simp only [LN] at *) <;> omega)))
          | with_reducible refine wr_i64 (by first | omega | (simp only [LN] at *; omega)) ?_
          | with_reducible first | refine Z.callZ_in tabOk 8 Try.f50 _ Try.func50 (by kernel_rfl) rfl rfl rfl ?_
          | ((with_reducible apply ex_and); exact rfl))
        all_goals (try (conv => whnf))
        all_goals try (show Nat.ble _ _ = true; rfl)
        all_goals first
          | ((refine Z.rndK ((q + 1)) (fun s => [0, 1, 2, 3, 4, 5, 6, 7, 8, 9, 10, 11]) rfl rfl rfl rfl ?_ ?_ ?_ ?_); (focus (repeat' (first | exact trivial | exact rfl | apply And.intro))); (focus (repeat' (first | exact trivial | exact Z.map_sub (Z.MapL.ren HM fun _ => rfl) rfl | (intro b hb; cases hb; rfl) | exact Z.blk_sub rfl rfl (ren_map fun _ => rfl) | apply And.intro))); (focus (omega)); ((try dsimp only); omega))
      have hji : q = k := by omega
      subst hji
      have hxa : t < x.task := gtT_at hgk hy
      repeat' ((conv => whnf); first
        | with_reducible first | refine spB_t ?_
        | ((with_reducible apply spB_cong); (focus (simp only [beq_self_eq_true, bne_self_eq_false, Bool.true_bne, Bool.false_bne, Bool.bne_true, Bool.bne_false, Bool.true_beq, Bool.false_beq, Bool.not_true, Bool.not_false, Bool.not_not, Int.reduceBEq, Int.reduceBNe, Int.reduceLE, Int.reduceLT, Int.reduceEq, decide_true, decide_false]; rfl)))
        | with_reducible first | refine spB_no (by decide) ?_
        | (with_reducible refine spB_dec ?_ ?_ <;> intro _ <;> (try (exfalso; first | contradiction | omega | (rename_i hz; refine hz ?_; simp; done) | (rename_i hz; simp at hz; done) | (simp only [LN] at *; omega))))
        | (with_reducible refine spB_beq ?_ ?_ <;> intro _ <;> (try (exfalso; first | contradiction | omega | (rename_i hz; refine hz ?_; simp; done) | (rename_i hz; simp at hz; done) | (simp only [LN] at *; omega))))
        | ((with_reducible refine Z.ConZ.red ?_); (apply Z.conZ_ins (N := (A.take q ++ (⟨t, bb⟩ : Pl) :: A.drop q).length) (B := ⟨(A.take q ++ (⟨t, bb⟩ : Pl) :: A.drop q).map cL, 2, 66, false⟩)); (focus rfl); (focus (repeat (first | exact Z.FK.nil | (apply Z.FK.keep; exact rfl) | (apply Z.FK.drop; exact rfl)))); (focus (repeat (first | exact trivial | (refine ⟨(fun o ho => (by first | (cases ho; rfl) | (cases ho; exact Z.inL_map fun _ => rfl) | (cases ho; exact Z.inL_mapr fun _ => rfl) | exact Z.inL_gB ho fun _ => rfl)), ?_⟩)))); (focus rfl); (focus (exact Z.inL_map fun _ => rfl)))
        | ((apply Z.callZ_capS (n := A.length)); (focus (exact rfl)); (focus (simp; done)); (intro capv hcapv; refine ⟨fun hcap => ?_, fun hcap gv hgv => ?_⟩))
        | ((with_reducible apply Z.callZ_ovl (tS := 23) (tR := 4) tabOk Try.f65 Try.func65 (by kernel_rfl) (by kernel_rfl) (by kernel_rfl) (by kernel_rfl)); (iterate 4 (focus (exact rfl))); (focus (exact Nat.ne_of_beq_eq_false rfl)); (focus (simp; done)); (focus (exact Nat.zero_lt_succ _)))
        | ((with_reducible refine Z.slN_lo (q) ?_ ?_ ?_); (focus rfl); (focus ((try simp only [LN] at *) <;> omega)))
        | ((with_reducible refine Z.slN_lo (q + 1) ?_ ?_ ?_); (focus rfl); (focus ((try simp only [LN] at *) <;> omega)))
        | ((with_reducible refine slN_hi (q) ?_ ?_ ?_); (focus rfl); (focus ((try simp only [LN] at *) <;> omega)))
        | ((with_reducible refine slN_hc (A.length + 1) ?_ ?_ ?_); (focus rfl); (focus (exact ⟨_, rfl, by omega⟩)))
        | ((with_reducible refine apzE_k ?_); (with_reducible refine apzK_mk (A.length + 1 - q) ⟨_, rfl, ?_⟩ ?_ ?_ ?_ ?_ ?_ ?_); (focus ((try simp only [LN] at *) <;> omega)); (focus ((try simp only [LN] at *) <;> omega)); (focus (exact g_le (f := cL) rfl (by omega))); (iterate 2 (focus ((try simp only [LN] at *) <;> omega))); (focus rfl))
        | ((with_reducible refine cpyN.mk ?_ ?_ ?_ ?_); (focus rfl); (focus (exact one_all (by rfl))); (focus (exact g_fit (f := cL) rfl (by omega) (by (try simp only [LN] at *) <;> omega))))
        | ((with_reducible refine cpyN.mk ?_ ?_ ?_ ?_); (focus (exact g_len (f := cL) rfl (by (try simp only [LN] at *) <;> omega))); (focus (exact g_one cL_one rfl)); (focus (exact g_fit2 (f := cL) rfl (by omega) (by (try simp only [LN] at *) <;> omega) gS_len)))
        | ((with_reducible refine cpyN.mk2 ?_ ?_ ?_ ?_); (focus (exact g_lenp (f := cL) (by (try simp only [LN] at *) <;> omega))); (focus (exact g_onep cL_one (g_min (by (try simp only [LN] at *) <;> omega)))); (focus (exact g_fitp (f := cL) (by (try simp only [LN] at *) <;> omega))))
        | ((with_reducible refine cpyN.mk ?_ ?_ ?_ ?_); (focus rfl); (focus (exact one_all (by rfl))); (focus (exact g_fitp2 (f := cL) (by (try simp only [LN] at *) <;> omega) (g_fitk (by (try simp only [LN] at *) <;> omega)))))
        | ((with_reducible refine rowN_mk (cL x) ?_ ?_); (focus (show (List.map cL A)[0 + q]? = some (cL x); rw [Nat.zero_add, List.getElem?_map, hy]; rfl)))
        | ((with_reducible apply ixN_litp); (focus (exact rfl)); (focus ((try simp only [LN] at *) <;> omega)))
        | ((with_reducible refine slE_a ?_ ?_); (focus ((try simp only [LN] at *) <;> omega)))
        | with_reducible refine wr_i64 (by first | omega | (simp only [LN] at *; omega)) ?_
        | with_reducible first | refine Z.callZ_in tabOk 8 Try.f50 _ Try.func50 (by kernel_rfl) rfl rfl rfl ?_ | refine Z.callZ_in tabOk 95 Try.f51 _ Try.func51 (by kernel_rfl) rfl rfl rfl ?_
        | ((with_reducible apply ex_and); exact rfl)
        | with_reducible first | refine Z.drawZ_rule tabOk mixOk ?_ | refine Z.apZ_mk (by kernel_rfl) ?_)
      all_goals (try (conv => whnf))
      all_goals try (show Nat.ble _ _ = true; rfl)
      all_goals first
        | (refine ⟨Nat.le_of_ble_eq_true rfl, _, _, _, _, rfl, rfl, ?_, ?_⟩; (focus ((try simp only [LN]) <;> omega)); (exact g_ins (f := cL) rfl (by omega) rfl (gS_eq (by omega) rfl) (gT_eq (f := cL) rfl (Nat.le_min.2 ⟨by omega, by omega⟩) (by omega))))
        | (refine ⟨Nat.le_of_ble_eq_true rfl, _, _, _, _, rfl, rfl, ?_, ?_⟩; (focus ((try simp only [LN]) <;> omega)); (exact g_insp (f := cL) (by omega) (gS_eq (by omega) rfl) (gT_eqp (f := cL) (by omega) (.inl ⟨(Nat.min_eq_right (by omega)).trans (by omega), by omega⟩))))
        | ((refine Z.rndK ((i + 1, some (A.take q ++ (⟨t, bb⟩ : Pl) :: A.drop q), es3)) (fun s => [0, 1, 2, 3, 4, 5, 6, 7, 8, s.idIn 6 1]) rfl rfl rfl rfl ?_ ?_ ?_ ?_); (focus (repeat' (first | exact trivial | exact rfl | apply And.intro))); (focus (repeat' (first | exact trivial | exact Z.map_sub (Z.MapL.ren HM fun _ => rfl) rfl | (intro b hb; cases hb; rfl) | (intro b hb; cases hb; done) | exact Z.blk_sub rfl rfl (ren_map fun _ => rfl) | apply And.intro))); (focus (refine ⟨by (try dsimp only); omega, by (try dsimp only [Option.getD_some]); rw [← hins, insT_len]; (try simp only [LN] at *) <;> omega, by (try dsimp only [Option.getD_some]); rw [← hins]; exact layT_step hx HR HO, _, HM, ?_⟩; (try dsimp only [Option.getD_some]); rw [← hins]; exact lay_step (p := ⟨t, bb⟩) HL rfl)); ((try dsimp only); omega))
    · have hkA : k = A.length := by omega
      rw [hkA, List.take_length, List.drop_length] at hins
      refine Z.loopK tabOk (fun zq : Nat => [(9, .val (.int .i64 (zq : Int)))]) (fun zq : Nat => ([] : Z.Kr)) (fun zq => zq ≤ k) (fun zq => A.length - zq) 0 12 [(0, _), (1, _), (7, _), (8, _)] ⟨rfl, rfl, rfl, rfl, trivial⟩ [(0, some _), (1, some _), (2, some _), (3, some _), (4, some _), (6, some _), (8, some _), (9, some _), (10, some _), (11, some _)] ⟨rfl, rfl, rfl, rfl, rfl, rfl, rfl, rfl, rfl, rfl, trivial⟩ ?_ ?_ rfl rfl (Nat.zero_le _) ?_
      · repeat' (first | exact trivial | apply And.intro | exact ⟨_, rfl, Z.Imp.refl _⟩)
      · repeat' (first | exact trivial)
      rintro q HINV
      dsimp only at HINV ⊢
      by_cases hj : q < A.length
      · obtain ⟨x, hy⟩ := getElem?_some' (xs := A) (i := q) hj
        have hxa : ¬ t < x.task := gtT_lt hgk (by omega) hy
        repeat' ((conv => whnf); first
          | (with_reducible refine spB_dec ?_ ?_ <;> intro _ <;> (try (exfalso; first | contradiction | omega | (rename_i hz; refine hz ?_; simp; done) | (rename_i hz; simp at hz; done) | (simp only [LN] at *; omega))))
          | ((with_reducible refine rowN_mk (cL x) ?_ ?_); (focus (show (List.map cL A)[0 + q]? = some (cL x); rw [Nat.zero_add, List.getElem?_map, hy]; rfl)))
          | ((with_reducible apply ixN_litp); (focus (exact rfl)); (focus ((try simp only [LN] at *) <;> omega)))
          | with_reducible refine wr_i64 (by first | omega | (simp only [LN] at *; omega)) ?_
          | with_reducible first | refine Z.callZ_in tabOk 8 Try.f50 _ Try.func50 (by kernel_rfl) rfl rfl rfl ?_
          | ((with_reducible apply ex_and); exact rfl))
        all_goals (try (conv => whnf))
        all_goals try (show Nat.ble _ _ = true; rfl)
        all_goals first
          | ((refine Z.rndK ((q + 1)) (fun s => [0, 1, 2, 3, 4, 5, 6, 7, 8, 9, 10, 11]) rfl rfl rfl rfl ?_ ?_ ?_ ?_); (focus (repeat' (first | exact trivial | exact rfl | apply And.intro))); (focus (repeat' (first | exact trivial | exact Z.map_sub (Z.MapL.ren HM fun _ => rfl) rfl | (intro b hb; cases hb; rfl) | exact Z.blk_sub rfl rfl (ren_map fun _ => rfl) | apply And.intro))); (focus (omega)); ((try dsimp only); omega))
      have hji : q = A.length := by omega
      subst hji
      repeat' ((conv => whnf); first
        | with_reducible first | refine spB_t ?_
        | ((with_reducible apply spB_cong); (focus (simp only [beq_self_eq_true, bne_self_eq_false, Bool.true_bne, Bool.false_bne, Bool.bne_true, Bool.bne_false, Bool.true_beq, Bool.false_beq, Bool.not_true, Bool.not_false, Bool.not_not, Int.reduceBEq, Int.reduceBNe, Int.reduceLE, Int.reduceLT, Int.reduceEq, decide_true, decide_false]; rfl)))
        | with_reducible first | refine spB_no (by decide) ?_
        | (with_reducible refine spB_dec ?_ ?_ <;> intro _ <;> (try (exfalso; first | contradiction | omega | (rename_i hz; refine hz ?_; simp; done) | (rename_i hz; simp at hz; done) | (simp only [LN] at *; omega))))
        | ((with_reducible refine Z.ConZ.red ?_); (apply Z.conZ_ins (N := (A ++ [(⟨t, bb⟩ : Pl)]).length) (B := ⟨(A ++ [(⟨t, bb⟩ : Pl)]).map cL, 2, 66, false⟩)); (focus rfl); (focus (repeat (first | exact Z.FK.nil | (apply Z.FK.keep; exact rfl) | (apply Z.FK.drop; exact rfl)))); (focus (repeat (first | exact trivial | (refine ⟨(fun o ho => (by first | (cases ho; rfl) | (cases ho; exact Z.inL_map fun _ => rfl) | (cases ho; exact Z.inL_mapr fun _ => rfl) | exact Z.inL_gB ho fun _ => rfl)), ?_⟩)))); (focus rfl); (focus (exact Z.inL_map fun _ => rfl)))
        | ((apply Z.callZ_capS (n := A.length)); (focus (exact rfl)); (focus (simp; done)); (intro capv hcapv; refine ⟨fun hcap => ?_, fun hcap gv hgv => ?_⟩))
        | ((with_reducible refine Z.slN_lo (A.length) ?_ ?_ ?_); (focus rfl); (focus ((try simp only [LN] at *) <;> omega)))
        | ((with_reducible refine apdE_r ?_); (with_reducible refine aprN.mk ⟨_, rfl, ?_⟩ ?_ ?_ ?_ ?_); (focus omega); (focus rfl); (focus (exact one_all (by rfl))); (focus (simp; done)))
        | ((with_reducible refine apdE_k ?_); (with_reducible refine apkN.mk ⟨_, rfl, ?_⟩ ?_); (focus omega); (with_reducible refine apdN.mk ?_ ?_ ?_ ?_ ?_ ?_); (focus rfl); (focus (exact one_all (by rfl))); (focus (simp; done)); (focus ((try simp only [LN] at *) <;> omega)); (focus ((try simp only [LN] at *) <;> omega)))
        | ((with_reducible refine slE_b ?_ ?_); (focus ((try simp only [LN] at *) <;> omega)))
        | with_reducible refine wr_i64 (by first | omega | (simp only [LN] at *; omega)) ?_
        | with_reducible first | refine Z.callZ_in tabOk 95 Try.f51 _ Try.func51 (by kernel_rfl) rfl rfl rfl ?_
        | ((with_reducible apply ex_and); exact rfl)
        | with_reducible first | refine Z.drawZ_rule tabOk mixOk ?_ | refine Z.apZ_mk (by kernel_rfl) ?_)
      all_goals (try (conv => whnf))
      all_goals try (show Nat.ble _ _ = true; rfl)
      all_goals first
        | (refine ⟨Nat.le_of_ble_eq_true rfl, _, _, _, _, rfl, rfl, ?_, ?_⟩; (focus ((try simp only [LN]) <;> omega)); (exact g_app (f := cL) rfl rfl))
        | (refine ⟨Nat.le_of_ble_eq_true rfl, _, _, _, _, rfl, rfl, ?_, ?_⟩; (focus ((try simp only [LN]) <;> omega)); (exact g_appr (f := cL) rfl rfl))
        | ((refine Z.rndK ((i + 1, some (A ++ [(⟨t, bb⟩ : Pl)]), es3)) (fun s => [0, 1, 2, 3, 4, 5, 6, 7, 8, s.idIn 6 1]) rfl rfl rfl rfl ?_ ?_ ?_ ?_); (focus (repeat' (first | exact trivial | exact rfl | apply And.intro))); (focus (repeat' (first | exact trivial | exact Z.map_sub (Z.MapL.ren HM fun _ => rfl) rfl | (intro b hb; cases hb; rfl) | (intro b hb; cases hb; done) | exact Z.blk_sub rfl rfl (ren_map fun _ => rfl) | apply And.intro))); (focus (refine ⟨by (try dsimp only); omega, by (try dsimp only [Option.getD_some]); rw [← hins, insT_len]; (try simp only [LN] at *) <;> omega, by (try dsimp only [Option.getD_some]); rw [← hins]; exact layT_step hx HR HO, _, HM, ?_⟩; (try dsimp only [Option.getD_some]); rw [← hins]; exact lay_step (p := ⟨t, bb⟩) HL rfl)); ((try dsimp only); omega))

end Go.Proofs.Ytllnmdmmmkoiaaa
namespace Go.Proofs.Ytllnmdmmmkoiaaa
open Go Go.RowKit Wx
set_option linter.unusedVariables false
set_option linter.unusedSimpArgs false
set_option maxHeartbeats 4000000
theorem lay_bad (ws : List Wk) (ps : List Pl) (ts : List Int) (hw : ws.length ≤ 1000) (hp : ps.length ≤ 1000) (ht : ts.length ≤ 1000) (hk : okF ws ps = false) : Con Try.prog 18 [.agg [.ro false 2 ((ws).map eW), .ro false 2 ((ps).map eL)], .one (.ro false 1 (ts.map eI))] (fun rx rK rt => rx = .tup [.agg [.ro true 2 ((([] : List Wk)).map eW), .ro true 2 ((([] : List Pl)).map eL)], .one (.v (.int .i64 210))] ∧ rK = [] ∧ rt = 0) := by
  refine Z.con_ofF tabOk 11 Try.f18 _ Try.func18 (by kernel_rfl) rfl rfl rfl rfl ?_
  have ck := check_con ws ps (by omega) (by omega)
  rw [hk] at ck
  simp only [cond_false] at ck
  repeat' ((conv => whnf); first
    | with_reducible first | refine spB_t ?_
    | ((with_reducible apply spB_cong); (focus (simp only [beq_self_eq_true, bne_self_eq_false, Bool.true_bne, Bool.false_bne, Bool.bne_true, Bool.bne_false, Bool.true_beq, Bool.false_beq, Bool.not_true, Bool.not_false, Bool.not_not, Int.reduceBEq, Int.reduceBNe, Int.reduceLE, Int.reduceLT, Int.reduceEq, decide_true, decide_false]; rfl)))
    | with_reducible first | refine Z.callZ_in tabOk 29 Try.f31 _ Try.func31 (by kernel_rfl) rfl rfl rfl ?_
    | ((first | (with_reducible refine Z.callZ_mk ?_ (ck) ?_)); (focus ((repeat' (first | exact trivial | exact rfl | apply And.intro)); done)))
    | ((with_reducible apply ex_and); exact rfl))
  all_goals (try (conv => whnf))
  all_goals try (show Nat.ble _ _ = true; rfl)
  all_goals first
    | ((first | (with_reducible apply Z.retF2)); (focus (exact rfl)); (repeat' (first | exact trivial | (with_reducible apply Z.frz_agg) | (exact Z.frz_nil) | exact rfl | apply And.intro)); (all_goals (try exact (fun _ => none))); all_goals (first | (simp; done)))

theorem lay_no (ws : List Wk) (ps : List Pl) (ts : List Int) (hw : ws.length ≤ 1000) (hp : ps.length ≤ 1000) (ht : ts.length ≤ 1000) (hk : okF ws ps = true) (hwt : ¬ wantT ws ps ts = 0) : Con Try.prog 18 [.agg [.ro false 2 ((ws).map eW), .ro false 2 ((ps).map eL)], .one (.ro false 1 (ts.map eI))] (fun rx rK rt => rx = .tup [.agg [.ro true 2 ((([] : List Wk)).map eW), .ro true 2 ((([] : List Pl)).map eL)], .one (.v (.int .i64 (wantT ws ps ts)))] ∧ rK = [] ∧ rt = 0) := by
  refine Z.con_ofF tabOk 11 Try.f18 _ Try.func18 (by kernel_rfl) rfl rfl rfl rfl ?_
  have ck := check_con ws ps (by omega) (by omega)
  rw [hk] at ck
  simp only [cond_true] at ck
  have cw := wanted_con ws ps ts hw hp ht hk
  have cc := clonew_f3 ws hw
  have cp := clonep_con ps hp
  generalize wantT ws ps ts = ee at *
  repeat' ((conv => whnf); first
    | ((with_reducible apply spB_cong); (focus (simp only [beq_self_eq_true, bne_self_eq_false, Bool.true_bne, Bool.false_bne, Bool.bne_true, Bool.bne_false, Bool.true_beq, Bool.false_beq, Bool.not_true, Bool.not_false, Bool.not_not, Int.reduceBEq, Int.reduceBNe, Int.reduceLE, Int.reduceLT, Int.reduceEq, decide_true, decide_false]; rfl)))
    | with_reducible first | refine spB_no (by decide) ?_
    | (with_reducible refine spB_bne ?_ ?_ <;> intro _ <;> (try (exfalso; first | contradiction | omega | (rename_i hz; refine hz ?_; simp; done) | (rename_i hz; simp at hz; done) | (simp only [LN] at *; omega))))
    | with_reducible first | refine Z.callZ_in tabOk 52 Try.f45 _ Try.func45 (by kernel_rfl) rfl rfl rfl ?_ | refine Z.callZ_in tabOk 29 Try.f31 _ Try.func31 (by kernel_rfl) rfl rfl rfl ?_
    | ((first | (with_reducible refine Z.callZ_mk ?_ (cw) ?_) | (with_reducible refine Z.callZ_mk ?_ (ck) ?_) | (with_reducible refine Z.conZ_mz ?_ (cc) ?_) | (with_reducible refine Z.conZ_mz ?_ (cp) ?_)); (focus ((repeat' (first | exact trivial | exact rfl | apply And.intro)); done)))
    | ((with_reducible apply ex_and); exact rfl)
    | with_reducible first | refine Z.drawZ_rule tabOk mixOk ?_ | refine Z.apZ_mk (by kernel_rfl) ?_)
  all_goals (try (conv => whnf))
  all_goals try (show Nat.ble _ _ = true; rfl)
  all_goals first
    | ((first | (with_reducible apply Z.retF2)); (focus (exact rfl)); (repeat' (first | exact trivial | (with_reducible apply Z.frz_agg) | (exact Z.frz_nil) | exact rfl | apply And.intro)); (all_goals (try exact (fun _ => none))); all_goals (first | (simp; done)))

end Go.Proofs.Ytllnmdmmmkoiaaa
namespace Go.Proofs.Ytllnmdmmmkoiaaa
open Go Go.RowKit Wx
set_option linter.unusedVariables false
set_option linter.unusedSimpArgs false
set_option maxHeartbeats 4000000
def zL : Pl := ⟨0, 0⟩
def padL (N : Nat) (K : List Pl) : List Pl := K ++ List.replicate (N - K.length) zL
theorem padL_len {N : Nat} {K : List Pl} (h : K.length ≤ N) : (padL N K).length = N := by
  simp only [padL, List.length_append, List.length_replicate]; omega
theorem padL_full {K : List Pl} : padL K.length K = K := by simp [padL]
theorem padL_take {N n : Nat} {K : List Pl} (h : n = K.length) : List.take n ((padL N K).map cL) = K.map cL := by
  subst h
  unfold padL; rw [List.map_append, List.take_left' (by simp)]
theorem pad_drop {N i m : Nat} {K : List Pl} (hm : m = K.length) : List.take (m - (i + 1)) (List.drop (0 + (i + 1)) ((padL N K).map cL)) = (K.map cL).drop (i + 1) := by
  subst hm
  unfold padL
  rw [Nat.zero_add, List.map_append]
  rcases Nat.lt_or_ge (i + 1) (K.map cL).length with h | h
  · rw [List.drop_append_of_le_length (by omega), List.take_left' (by simp)]
  · rw [List.length_map] at h
    rw [show K.length - (i + 1) = 0 by omega, List.take_zero, List.drop_eq_nil_of_le (by simpa using h)]
theorem pad_del {N i : Nat} {K : List Pl} {R : List (List Ce)} (hi : i < K.length) (hN : K.length ≤ N) (hR : R = (K.map cL).drop (i + 1)) : lay (lay ((padL N K).map cL) (i - 0) R) (0 + (K.length - 1)) [cL zL] = (padL N (K.eraseIdx i)).map cL := by
  subst hR
  unfold padL
  rw [List.length_eraseIdx, if_pos hi, List.eraseIdx_eq_take_drop_succ, List.map_append, List.map_append, List.map_append, List.map_take, List.map_drop, List.map_replicate, List.map_replicate, show N - (K.length - 1) = (N - K.length) + 1 by omega, List.replicate_succ]
  generalize hM : K.map cL = M
  have hl : M.length = K.length := by rw [← hM, List.length_map]
  generalize List.replicate (N - K.length) (cL zL) = Z
  rw [Nat.sub_zero, Nat.zero_add]
  unfold lay
  have e1 : (List.take i (M ++ Z) : List (List Ce)) = M.take i := List.take_append_of_le_length (by omega)
  have e2 : List.drop (i + (List.drop (i + 1) M).length) (M ++ Z) = M.drop (K.length - 1) ++ Z := by
    rw [List.length_drop, show i + (M.length - (i + 1)) = K.length - 1 by omega, List.drop_append_of_le_length (by omega)]
  rw [e1, e2, ← List.append_assoc (M.take i)]
  have e3 : (M.take i ++ M.drop (i + 1)).length = K.length - 1 := by simp; omega
  have e4 : (M.drop (K.length - 1)).length = 1 := by simp; omega
  generalize M.take i ++ M.drop (i + 1) = A at *
  generalize M.drop (K.length - 1) = B at *
  rw [List.take_left' e3, show K.length - 1 + [cL zL].length = A.length + B.length by simp; omega, ← List.append_assoc, ← List.append_assoc A, List.drop_left' (by simp)]
  simp
theorem pad_cL {L : List Pl} {n : Nat} (h : L.length = n) : L.map cL = (padL n L).map cL := by subst h; rw [padL_full]
theorem pad_del2 {N i c : Nat} {K : List Pl} {R : List (List Ce)} {z : List Ce} (hc : c = 1) (hz : z = cL zL) (hi : i < K.length) (hN : K.length ≤ N) (hR : R = (K.map cL).drop (i + 1)) : lay (lay ((padL N K).map cL) (i - 0) R) (0 + (K.length - 1)) (List.replicate c z) = (padL N (K.eraseIdx i)).map cL := by
  subst hc hz; exact pad_del hi hN hR
theorem ren_cL {L : List Pl} {r : Nat → Nat} : (L.map cL).map (List.map (Ce.ren r)) = L.map cL := by rw [List.map_map]; exact List.map_congr_left fun x _ => rfl
theorem low_pad {N : Nat} {A : List Pl} : ∃ rows, Ce.ro false 2 (A.map eL) = Ce.ro false 2 rows ∧ rows.length = A.length ∧ ((((padL N A).map cL).drop 0).take A.length).map (List.map RT.of) = rows.map (List.map some) := ⟨_, rfl, by simp, by rw [List.drop_zero, padL_take rfl, List.map_map, List.map_map]; exact List.map_congr_left fun x _ => rfl⟩
/-! ### Tasks are taken -/
def takT : List Pl → List Int → Option (List Pl)
  | A, [] => some A
  | A, t :: l => if idxT A t < A.length then takT (A.eraseIdx (idxT A t)) l else none
theorem takT_yes {ps A : List Pl} {ts : List Int} {i m : Nat} {t : Int} (h : ts[i]? = some t) (ho : takT ps ts = takT A (ts.drop i)) (hm : idxT A t = m) (hl : m < A.length) : takT ps ts = takT (A.eraseIdx m) (ts.drop (i + 1)) := by
  subst hm; rw [ho, drop_cons h, takT, if_pos hl]
theorem takT_no {ps A : List Pl} {ts : List Int} {i : Nat} {t : Int} (h : ts[i]? = some t) (ho : takT ps ts = takT A (ts.drop i)) (hl : ¬ idxT A t < A.length) : takT ps ts = none := by
  rw [ho, drop_cons h, takT, if_neg hl]
/-- What Take tells: the workers, the places, and whether it was refused. -/
def takeT (ws : List Wk) (ps : List Pl) (ts : List Int) : List Wk × List Pl × Int :=
  if okF ws ps = true then (match takT ps ts with
    | some A => (ws, A, 0)
    | none => ([], [], 4)) else ([], [], 210)
theorem takeT_yes {ws : List Wk} {ps A : List Pl} {ts : List Int} (hk : okF ws ps = true) (h : takT ps ts = some A) : takeT ws ps ts = (ws, A, 0) := by unfold takeT; rw [if_pos hk, h]
theorem takeT_no {ws : List Wk} {ps : List Pl} {ts : List Int} (hk : okF ws ps = true) (h : takT ps ts = none) : takeT ws ps ts = ([], [], 4) := by unfold takeT; rw [if_pos hk, h]
theorem take_bad (ws : List Wk) (ps : List Pl) (ts : List Int) (hw : ws.length ≤ 1000) (hp : ps.length ≤ 1000) (ht : ts.length ≤ 1000) (hk : okF ws ps = false) : Con Try.prog 20 [.agg [.ro false 2 ((ws).map eW), .ro false 2 ((ps).map eL)], .one (.ro false 1 (ts.map eI))] (fun rx rK rt => rx = .tup [.agg [.ro true 2 (((takeT ws ps ts).1).map eW), .ro true 2 (((takeT ws ps ts).2.1).map eL)], .one (.v (.int .i64 (takeT ws ps ts).2.2))] ∧ rK = [] ∧ rt = 0) := by
  refine Z.con_ofF tabOk 11 Try.f20 _ Try.func20 (by kernel_rfl) rfl rfl rfl rfl ?_
  have ck := check_con ws ps (by omega) (by omega)
  rw [hk] at ck
  simp only [cond_false] at ck
  rw [show takeT ws ps ts = ([], [], 210) by unfold takeT; rw [if_neg (by rw [hk]; simp)]]
  repeat' ((conv => whnf); first
    | with_reducible first | refine spB_t ?_
    | ((with_reducible apply spB_cong); (focus (simp only [beq_self_eq_true, bne_self_eq_false, Bool.true_bne, Bool.false_bne, Bool.bne_true, Bool.bne_false, Bool.true_beq, Bool.false_beq, Bool.not_true, Bool.not_false, Bool.not_not, Int.reduceBEq, Int.reduceBNe, Int.reduceLE, Int.reduceLT, Int.reduceEq, decide_true, decide_false]; rfl)))
    | with_reducible first | refine Z.callZ_in tabOk 29 Try.f31 _ Try.func31 (by kernel_rfl) rfl rfl rfl ?_
    | ((first | (with_reducible refine Z.callZ_mk ?_ (ck) ?_)); (focus ((repeat' (first | exact trivial | exact rfl | apply And.intro)); done)))
    | ((with_reducible apply ex_and); exact rfl))
  all_goals (try (conv => whnf))
  all_goals try (show Nat.ble _ _ = true; rfl)
  all_goals first
    | ((first | (with_reducible apply Z.retF2)); (focus (exact rfl)); (repeat' (first | exact trivial | (with_reducible apply Z.frz_agg) | (exact Z.frz_nil) | exact rfl | apply And.intro)); (all_goals (try exact (fun _ => none))); all_goals (first | (simp; done)))

theorem take_0 (ws : List Wk) (ts : List Int) (hw : ws.length ≤ 1000) (ht : ts.length ≤ 1000) (hk : okF ws [] = true) : Con Try.prog 20 [.agg [.ro false 2 ((ws).map eW), .ro false 2 ((([] : List Pl)).map eL)], .one (.ro false 1 (ts.map eI))] (fun rx rK rt => rx = .tup [.agg [.ro true 2 (((takeT ws [] ts).1).map eW), .ro true 2 (((takeT ws [] ts).2.1).map eL)], .one (.v (.int .i64 (takeT ws [] ts).2.2))] ∧ rK = [] ∧ rt = 0) := by
  refine Z.con_ofF tabOk 11 Try.f20 _ Try.func20 (by kernel_rfl) rfl rfl rfl rfl ?_
  have ck := check_con ws [] (by omega) (by simp)
  rw [hk] at ck
  simp only [cond_true] at ck
  have cc := clonew_f3 ws hw
  have cp := clonep_con [] (by simp)
  cases ts with
  | nil =>
    rw [takeT_yes hk rfl]
    repeat' ((conv => whnf); first
      | ((with_reducible apply spB_cong); (focus (simp only [beq_self_eq_true, bne_self_eq_false, Bool.true_bne, Bool.false_bne, Bool.bne_true, Bool.bne_false, Bool.true_beq, Bool.false_beq, Bool.not_true, Bool.not_false, Bool.not_not, Int.reduceBEq, Int.reduceBNe, Int.reduceLE, Int.reduceLT, Int.reduceEq, decide_true, decide_false]; rfl)))
      | with_reducible first | refine spB_no (by decide) ?_
      | with_reducible first | refine Z.loopZ_unroll tabOk 2 ?_
      | with_reducible first | refine Z.callZ_in tabOk 36 Try.f53 _ Try.func53 (by kernel_rfl) rfl rfl rfl ?_ | refine Z.callZ_in tabOk 29 Try.f31 _ Try.func31 (by kernel_rfl) rfl rfl rfl ?_
      | ((first | (with_reducible refine Z.callZ_mk ?_ (ck) ?_) | (with_reducible refine Z.conZ_mz ?_ (cc) ?_) | (with_reducible refine Z.conZ_mz ?_ (cp) ?_)); (focus ((repeat' (first | exact trivial | exact rfl | apply And.intro)); done)))
      | ((with_reducible apply ex_and); exact rfl)
      | with_reducible first | refine Z.drawZ_rule tabOk mixOk ?_ | refine Z.apZ_mk (by kernel_rfl) ?_)
    all_goals (try (conv => whnf))
    all_goals try (show Nat.ble _ _ = true; rfl)
    all_goals first
      | ((first | (with_reducible apply Z.retF2)); (focus (exact rfl)); (repeat' (first | exact trivial | (with_reducible apply Z.frz_one) | (with_reducible apply Z.frz_agg) | (with_reducible apply Z.fq_int) | exact rfl | apply And.intro)); (all_goals (try exact (fun _ => none))); all_goals (first | (simp; done)))
  | cons t l =>
    have ca := placeAt_con ws [] t (by omega) (by simp)
    rw [decide_eq_false (by simp)] at ca
    have hx : (t :: l)[0]? = some t := rfl
    rw [takeT_no hk (takT_no hx rfl (by simp))]
    repeat' ((conv => whnf); first
      | with_reducible first | refine spB_t ?_
      | ((with_reducible apply spB_cong); (focus (simp only [beq_self_eq_true, bne_self_eq_false, Bool.true_bne, Bool.false_bne, Bool.bne_true, Bool.bne_false, Bool.true_beq, Bool.false_beq, Bool.not_true, Bool.not_false, Bool.not_not, Int.reduceBEq, Int.reduceBNe, Int.reduceLE, Int.reduceLT, Int.reduceEq, decide_true, decide_false]; rfl)))
      | with_reducible first | refine spB_no (by decide) ?_
      | (with_reducible refine spB_dec ?_ ?_ <;> intro _ <;> (try (exfalso; first | contradiction | omega | (rename_i hz; refine hz ?_; simp; done) | (rename_i hz; simp at hz; done) | (simp only [LN] at *; omega))))
      | with_reducible first | refine Z.loopZ_unroll tabOk 2 ?_ | refine Z.rowN_known hx ?_
      | ((with_reducible apply ixN_lit); (focus (exact rfl)); (focus (exact rfl)))
      | with_reducible first | refine Z.callZ_in tabOk 36 Try.f53 _ Try.func53 (by kernel_rfl) rfl rfl rfl ?_ | refine Z.callZ_in tabOk 29 Try.f31 _ Try.func31 (by kernel_rfl) rfl rfl rfl ?_
      | ((first | (with_reducible refine Z.callZ_mk ?_ (ca) ?_) | (with_reducible refine Z.callZ_mk ?_ (ck) ?_) | (with_reducible refine Z.conZ_mz ?_ (cc) ?_) | (with_reducible refine Z.conZ_mz ?_ (cp) ?_)); (focus ((repeat' (first | exact trivial | exact rfl | apply And.intro)); done)))
      | ((with_reducible apply ex_and); exact rfl)
      | with_reducible first | refine Z.drawZ_rule tabOk mixOk ?_ | refine Z.apZ_mk (by kernel_rfl) ?_)
    all_goals (try (conv => whnf))
    all_goals try (show Nat.ble _ _ = true; rfl)
    all_goals first
      | ((first | (with_reducible apply Z.retF2)); (focus (exact rfl)); (repeat' (first | exact trivial | (with_reducible apply Z.frz_one) | (with_reducible apply Z.frz_agg) | (with_reducible apply Z.fq_int) | (exact Z.frz_nil) | exact rfl | apply And.intro)); (all_goals (try exact (fun _ => none))); all_goals (first | (simp; done)))

theorem take_n (ws : List Wk) (ps : List Pl) (ts : List Int) (hw : ws.length ≤ 1000) (hp : ps.length ≤ 1000) (ht : ts.length ≤ 1000) (hk : okF ws ps = true) (hpe : ps ≠ []) : Con Try.prog 20 [.agg [.ro false 2 ((ws).map eW), .ro false 2 ((ps).map eL)], .one (.ro false 1 (ts.map eI))] (fun rx rK rt => rx = .tup [.agg [.ro true 2 (((takeT ws ps ts).1).map eW), .ro true 2 (((takeT ws ps ts).2.1).map eL)], .one (.v (.int .i64 (takeT ws ps ts).2.2))] ∧ rK = [] ∧ rt = 0) := by
  refine Z.con_ofF tabOk 11 Try.f20 _ Try.func20 (by kernel_rfl) rfl rfl rfl rfl ?_
  have ck := check_con ws ps (by omega) (by omega)
  rw [hk] at ck
  simp only [cond_true] at ck
  have cc := clonew_f3 ws hw
  have cp := cloneq_con ps hp hpe
  obtain ⟨n, hn⟩ : ∃ n, n = ps.length := ⟨_, rfl⟩
  repeat' ((conv => whnf); first
    | ((with_reducible apply spB_cong); (focus (simp only [beq_self_eq_true, bne_self_eq_false, Bool.true_bne, Bool.false_bne, Bool.bne_true, Bool.bne_false, Bool.true_beq, Bool.false_beq, Bool.not_true, Bool.not_false, Bool.not_not, Int.reduceBEq, Int.reduceBNe, Int.reduceLE, Int.reduceLT, Int.reduceEq, decide_true, decide_false]; rfl)))
    | with_reducible first | refine spB_no (by decide) ?_
    | with_reducible first | refine Z.callZ_in tabOk 36 Try.f53 _ Try.func53 (by kernel_rfl) rfl rfl rfl ?_ | refine Z.callZ_in tabOk 29 Try.f31 _ Try.func31 (by kernel_rfl) rfl rfl rfl ?_
    | ((first | (with_reducible refine Z.callZ_mk ?_ (ck) ?_) | (with_reducible refine Z.conZ_mz ?_ (cc) ?_) | (with_reducible refine Z.conZ_mz ?_ (cp) ?_)); (focus ((repeat' (first | exact trivial | exact rfl | apply And.intro)); done)))
    | with_reducible first | refine Z.drawZ_rule tabOk mixOk ?_ | refine Z.apZ_mk (by kernel_rfl) ?_)
  all_goals (try (conv => whnf))
  all_goals try (show Nat.ble _ _ = true; rfl)
  all_goals try (exfalso; rename_i hz; cases hz; done)
  all_goals try (exfalso; (try simp only [LN] at *) <;> omega)
  refine Z.loopK tabOk (fun zq : Nat × List Pl => [(10, .val (.int .i64 (zq.1 : Int)))]) (fun zq : Nat × List Pl => ([(5, some (Z.Ob.b ⟨(padL n zq.2).map cL, 2, 66, false⟩)), (6, some (Z.Ob.b ⟨[[.ro true 2 (ws.map eW), .osl 5 0 zq.2.length none]], 2, 25, true⟩))] : Z.Kr)) (fun zq => zq.1 ≤ ts.length ∧ zq.2.length + zq.1 = n ∧ takT ps ts = takT zq.2 (ts.drop zq.1)) (fun zq => ts.length - zq.1) (0, ps) 7 [(0, _), (8, _), (9, _)] ⟨rfl, rfl, rfl, trivial⟩ [(0, some _), (1, some _), (2, some _), (3, some _), (4, some _)] ⟨rfl, rfl, rfl, rfl, rfl, trivial⟩ ?_ ?_ rfl rfl ⟨Nat.zero_le _, hn.symm, rfl⟩ ?_
  · repeat' (first | exact trivial | apply And.intro | exact ⟨_, rfl, Z.Imp.refl _⟩)
  · repeat' (first | exact trivial | exact (fun b hb => ⟨b, hb, Z.ImpO.refl b⟩) | (intro b hb; cases hb; refine ⟨_, rfl, ⟨rfl, rfl, rfl⟩, Z.imp_eq ?_⟩; first | rfl | exact pad_cL hn.symm | exact ren_cL.trans (pad_cL hn.symm); done) | apply And.intro)
  rintro ⟨i, A⟩ HINV
  dsimp only at HINV ⊢
  obtain ⟨HI, HA, HO⟩ := HINV
  by_cases hi : i < ts.length
  rotate_left
  · rw [takeT_yes hk (show takT ps ts = some A by rw [HO, List.drop_eq_nil_of_le (by omega)]; rfl)]
    repeat' ((conv => whnf); first
      | ((with_reducible apply spB_cong); (focus (simp only [beq_self_eq_true, bne_self_eq_false, Bool.true_bne, Bool.false_bne, Bool.bne_true, Bool.bne_false, Bool.true_beq, Bool.false_beq, Bool.not_true, Bool.not_false, Bool.not_not, Int.reduceBEq, Int.reduceBNe, Int.reduceLE, Int.reduceLT, Int.reduceEq, decide_true, decide_false]; rfl)))
      | with_reducible first | refine spB_no (by decide) ?_
      | (with_reducible refine spB_dec ?_ ?_ <;> intro _ <;> (try (exfalso; first | contradiction | omega | (rename_i hz; refine hz ?_; simp; done) | (rename_i hz; simp at hz; done) | (simp only [LN] at *; omega))))
      | ((with_reducible apply ex_and); exact rfl))
    all_goals (try (conv => whnf))
    all_goals try (show Nat.ble _ _ = true; rfl)
    all_goals first
      | (refine Z.retF2 [.agg [.ro true 2 (ws.map eW), .osl 5 0 A.length none], .one (.v (.int .i64 0))] (by rfl) ⟨⟨rfl, (Z.frz_oslw (l := A) (f := cL) (ty := 66) (bx := false) (by rfl) rfl (padL_take rfl) (fun _ => rfl)), trivial⟩, rfl, trivial⟩)
  obtain ⟨t, hx⟩ := getElem?_some' (xs := ts) (i := i) hi
  have ca := placeAt_con ws A t (by omega) (by omega)
  by_cases hth : idxT A t < A.length
  rotate_left
  · rw [takeT_no hk (takT_no hx HO hth)]
    rw [decide_eq_false hth] at ca
    repeat' ((conv => whnf); first
      | with_reducible first | refine spB_t ?_
      | ((with_reducible apply spB_cong); (focus (simp only [beq_self_eq_true, bne_self_eq_false, Bool.true_bne, Bool.false_bne, Bool.bne_true, Bool.bne_false, Bool.true_beq, Bool.false_beq, Bool.not_true, Bool.not_false, Bool.not_not, Int.reduceBEq, Int.reduceBNe, Int.reduceLE, Int.reduceLT, Int.reduceEq, decide_true, decide_false]; rfl)))
      | (with_reducible refine spB_dec ?_ ?_ <;> intro _ <;> (try (exfalso; first | contradiction | omega | (rename_i hz; refine hz ?_; simp; done) | (rename_i hz; simp at hz; done) | (simp only [LN] at *; omega))))
      | with_reducible first | refine Z.rowN_known hx ?_
      | ((with_reducible apply ixN_litp); (focus (exact rfl)); (focus ((try simp only [LN] at *) <;> omega)))
      | ((first | (with_reducible refine Z.callZ_mk ?_ (ca) ?_)); (focus ((repeat' (first | exact trivial | exact low_pad | exact rfl | apply And.intro)); done)))
      | ((with_reducible apply ex_and); exact rfl))
    all_goals (try (conv => whnf))
    all_goals try (show Nat.ble _ _ = true; rfl)
    all_goals first
      | ((first | (with_reducible apply Z.retF2)); (focus (exact rfl)); (repeat' (first | exact trivial | (with_reducible apply Z.frz_one) | (with_reducible apply Z.frz_agg) | (with_reducible apply Z.fq_int) | (exact Z.frz_nil) | exact rfl | apply And.intro)); (all_goals (try exact (fun _ => none))); all_goals (first | (simp; done)))
  rw [decide_eq_true hth] at ca
  have hst := fun m (h : idxT A t = m) (h2 : m < A.length) => takT_yes hx HO h h2
  generalize hm : idxT A t = m at *
  have hst := hst m rfl hth
  have hsl := hth
  have hpl : (padL n A).length = n := padL_len (by omega)
  repeat' ((conv => whnf); first
    | ((with_reducible apply spB_cong); (focus (simp only [beq_self_eq_true, bne_self_eq_false, Bool.true_bne, Bool.false_bne, Bool.bne_true, Bool.bne_false, Bool.true_beq, Bool.false_beq, Bool.not_true, Bool.not_false, Bool.not_not, Int.reduceBEq, Int.reduceBNe, Int.reduceLE, Int.reduceLT, Int.reduceEq, decide_true, decide_false]; rfl)))
    | with_reducible first | refine spB_no (by decide) ?_
    | (with_reducible refine spB_dec ?_ ?_ <;> intro _ <;> (try (exfalso; first | contradiction | omega | (rename_i hz; refine hz ?_; simp; done) | (rename_i hz; simp at hz; done) | (simp only [LN] at *; omega))))
    | (with_reducible refine spB_beq ?_ ?_ <;> intro _ <;> (try (exfalso; first | contradiction | omega | (rename_i hz; refine hz ?_; simp; done) | (rename_i hz; simp at hz; done) | (simp only [LN] at *; omega))))
    | ((with_reducible refine Z.callZ_cap ?_); intro capv hcapv)
    | with_reducible first | refine Z.rowN_known hx ?_
    | ((with_reducible refine slN_hi (m) ?_ ?_ ?_); (focus omega); (focus ((try simp only [LN] at *) <;> omega)))
    | ((with_reducible refine Z.slN_lo (m + 1) ?_ ?_ ?_); (focus omega); (focus ((try simp only [LN] at *) <;> omega)))
    | ((with_reducible refine Z.slN_lhc (A.length - 1) A.length ?_ ?_ ?_ ?_ ?_); (iterate 3 (focus ((try simp only [LN] at *) <;> omega))); (focus (exact ⟨_, rfl, by (try simp only [LN] at *) <;> omega⟩)))
    | ((with_reducible refine clrN_mk ?_ ?_ ?_); (focus (show _ ≤ (lay (List.map cL (padL n A)) _ _).length; rw [lay_length (by (try simp only [LN] at *) <;> omega)]; ((try simp only [LN] at *) <;> omega))); (focus rfl))
    | ((with_reducible apply ixN_litp); (focus (exact rfl)); (focus ((try simp only [LN] at *) <;> omega)))
    | ((with_reducible refine apdE_r ?_); (with_reducible refine aprN.mk ⟨_, rfl, ?_⟩ ?_ ?_ ?_ ?_); (focus ((try simp only [LN] at *) <;> omega)); (focus (first | rfl | ((try simp only [LN] at *) <;> omega))); (focus (first | exact one_all (by rfl) | exact one_drop (fun _ => rfl))); (focus ((try simp only [LN] at *) <;> omega)))
    | ((with_reducible refine slE_a ?_ ?_); (focus ((try simp only [LN] at *) <;> omega)))
    | ((with_reducible refine slE_split ?_ ?_ ?_); (focus ((try simp only [LN] at *) <;> omega)); (all_goals intro _))
    | ((with_reducible apply sl3N_mk); (focus (exact rfl)); (focus (exact rfl)); (focus (exact rfl)); (focus ((try simp only [LN] at *) <;> omega)); (focus ((try simp only [LN] at *) <;> omega)); (focus ((try simp only [LN] at *) <;> omega)); (focus ((try simp only [LN] at *) <;> omega)))
    | with_reducible refine wr_i64 (by first | omega | (simp only [LN] at *; omega)) ?_
    | with_reducible first | refine Z.callZ_in tabOk 33 Try.f55 _ Try.func55 (by kernel_rfl) rfl rfl rfl ?_
    | ((first | (with_reducible refine Z.callZ_mk ?_ (ca) ?_)); (focus ((repeat' (first | exact trivial | exact low_pad | exact rfl | apply And.intro)); done)))
    | ((with_reducible apply ex_and); exact rfl)
    | with_reducible first | refine Z.drawZ_rule tabOk mixOk ?_ | refine Z.apZ_mk (by kernel_rfl) ?_)
  all_goals (try (conv => whnf))
  all_goals try (show Nat.ble _ _ = true; rfl)
  all_goals first
    | ((refine Z.rnd_rw 5 ((padL n (A.eraseIdx m)).map cL) rfl rfl ?_ ?_); (focus (exact pad_del2 (by omega) rfl hsl (by omega) (by first | exact pad_drop rfl | (rw [List.drop_eq_nil_of_le (by simp only [List.length_map]; omega)]; rfl)))); ((refine Z.rnd_bi 6 [[.ro true 2 (ws.map eW), .osl 5 0 (A.eraseIdx m).length none]] rfl rfl ⟨⟨Z.Imp.refl _, Z.Imp.oslcn (by rw [List.length_eraseIdx, if_pos hsl]; (try simp only [LN] at *) <;> omega), trivial⟩, trivial⟩ ?_); ((refine Z.rndK ((i + 1, A.eraseIdx m)) (fun s => [0, 1, 2, 3, 4, 5, 6]) rfl rfl rfl rfl ?_ ?_ ?_ ?_); (focus (repeat' (first | exact trivial | exact rfl | apply And.intro))); (focus (repeat' (first | exact trivial | (intro b hb; cases hb; rfl) | exact Z.blk_sub rfl rfl (ren_map fun _ => rfl) | apply And.intro))); (focus (exact ⟨by (try dsimp only); omega, by (try dsimp only); rw [List.length_eraseIdx, if_pos hsl]; omega, by (try dsimp only); exact hst⟩)); ((try dsimp only); omega))))

end Go.Proofs.Ytllnmdmmmkoiaaa
namespace Go.Proofs.Ytllnmdmmmkoiaaa
open Go Go.RowKit Wx
set_option linter.unusedVariables false
set_option linter.unusedSimpArgs false
set_option maxHeartbeats 4000000
theorem come_n (ws : List Wk) (ps : List Pl) (a c : Int) (i : Nat) (hw : ws.length ≤ 1000) (hp : ps.length ≤ 1000) (hk : okF ws ps = true) (hv : (1 ≤ a ∧ a ≤ 4) ∧ 1 ≤ c ∧ c ≤ 8) (hno : ¬ idxW ws a < ws.length) (hi : gtW ws a = i) (hil : i < ws.length) : Con Try.prog 12 [.agg [.ro false 2 ((ws).map eW), .ro false 2 ((ps).map eL)], .agg [.v (.int .i64 a), .v (.int .i64 c)]] (fun rx rK rt => rx = .tup [.agg [.ro true 2 (((ws.take i ++ (⟨a, c⟩ : Wk) :: ws.drop i)).map eW), .ro true 2 ((ps).map eL)], .one (.v (.int .i64 0))] ∧ rK = [] ∧ rt = 0) := by
  refine Z.con_ofF tabOk 11 Try.f12 _ Try.func12 (by kernel_rfl) rfl rfl rfl rfl ?_
  have ck := check_con ws ps (by omega) (by omega)
  rw [hk] at ck
  simp only [cond_true] at ck
  have ca := workerAt_con ws ps a (by omega) (by omega)
  rw [decide_eq_false hno] at ca
  have hne : ws ≠ [] := fun e => by subst e; simp at hil
  have cw := clonew_con ws hw hne
  have cp := clonep_con ps hp
  repeat' ((conv => whnf); first
    | with_reducible first | refine spB_t ?_
    | ((with_reducible apply spB_cong); (focus (simp only [beq_self_eq_true, bne_self_eq_false, Bool.true_bne, Bool.false_bne, Bool.bne_true, Bool.bne_false, Bool.true_beq, Bool.false_beq, Bool.not_true, Bool.not_false, Bool.not_not, Int.reduceBEq, Int.reduceBNe, Int.reduceLE, Int.reduceLT, Int.reduceEq, decide_true, decide_false]; rfl)))
    | with_reducible first | refine spB_no (by decide) ?_ | refine spB_not ?_
    | (with_reducible refine spB_dec ?_ ?_ <;> intro _ <;> (try (exfalso; first | contradiction | omega | (rename_i hz; refine hz ?_; simp; done) | (rename_i hz; simp at hz; done) | (simp only [LN] at *; omega))))
    | with_reducible first | refine Z.callZ_in tabOk 34 Try.f32 _ Try.func32 (by kernel_rfl) rfl rfl rfl ?_ | refine Z.callZ_in tabOk 21 Try.f33 _ Try.func33 (by kernel_rfl) rfl rfl rfl ?_ | refine Z.callZ_in tabOk 21 Try.f35 _ Try.func35 (by kernel_rfl) rfl rfl rfl ?_ | refine Z.callZ_in tabOk 29 Try.f31 _ Try.func31 (by kernel_rfl) rfl rfl rfl ?_
    | ((first | (with_reducible refine Z.callZ_mk ?_ (ca) ?_) | (with_reducible refine Z.callZ_mk ?_ (ck) ?_) | (with_reducible refine Z.conZ_mz ?_ (cw) ?_) | (with_reducible refine Z.conZ_mz ?_ (cp) ?_)); (focus ((repeat' (first | exact trivial | exact rfl | apply And.intro)); done)))
    | ((with_reducible apply ex_and); exact rfl)
    | with_reducible first | refine Z.drawZ_rule tabOk mixOk ?_ | refine Z.apZ_mk (by kernel_rfl) ?_)
  all_goals (try (conv => whnf))
  all_goals try (show Nat.ble _ _ = true; rfl)
  all_goals try (exfalso; rename_i hz; cases hz; done)
  all_goals try (exfalso; (try simp only [LN] at *) <;> omega)
  refine Z.loopK tabOk (fun zq : Nat => [(9, .val (.int .i64 (zq : Int)))]) (fun zq : Nat => ([(5, some (Z.Ob.b ⟨ws.map cW, 2, 27, false⟩))] : Z.Kr)) (fun zq => zq ≤ i) (fun zq => ws.length - zq) 0 8 [(0, _), (1, _), (7, _), (8, _)] ⟨rfl, rfl, rfl, rfl, trivial⟩ [(0, some _), (1, some _), (2, some _), (3, some _), (4, some _), (6, some _), (7, some _)] ⟨rfl, rfl, rfl, rfl, rfl, rfl, rfl, trivial⟩ ?_ ?_ rfl rfl (Nat.zero_le _) ?_
  · repeat' (first | exact trivial | apply And.intro | exact ⟨_, rfl, Z.Imp.refl _⟩)
  · repeat' (first | exact trivial | (intro b hb; cases hb; refine ⟨_, rfl, ⟨rfl, rfl, rfl⟩, Z.imp_eq ?_⟩; first | rfl | exact ren_map (fun _ => rfl) | exact (ren_map (fun _ => rfl)).symm; done) | apply And.intro)
  rintro j HINV
  dsimp only at HINV ⊢
  obtain ⟨x, hx⟩ := getElem?_some' (xs := ws) (i := j) (by omega)
  by_cases hj : j < i
  · have hxa : ¬ a < x.id := gtW_lt hi hj hx
    repeat' ((conv => whnf); first
      | (with_reducible refine spB_dec ?_ ?_ <;> intro _ <;> (try (exfalso; first | contradiction | omega | (rename_i hz; refine hz ?_; simp; done) | (rename_i hz; simp at hz; done) | (simp only [LN] at *; omega))))
      | with_reducible first | refine Z.rowN_known hx ?_
      | ((with_reducible apply ixN_litp); (focus (exact rfl)); (focus ((try simp only [LN] at *) <;> omega)))
      | with_reducible refine wr_i64 (by first | omega | (simp only [LN] at *; omega)) ?_
      | with_reducible first | refine Z.callZ_in tabOk 9 Try.f36 _ Try.func36 (by kernel_rfl) rfl rfl rfl ?_
      | ((with_reducible apply ex_and); exact rfl))
    all_goals (try (conv => whnf))
    all_goals try (show Nat.ble _ _ = true; rfl)
    all_goals first
      | ((refine Z.rndK ((j + 1)) (fun s => [0, 1, 2, 3, 4, 5, 6, 7]) rfl rfl rfl rfl ?_ ?_ ?_ ?_); (focus (repeat' (first | exact trivial | exact rfl | apply And.intro))); (focus (repeat' (first | exact trivial | (intro b hb; cases hb; rfl) | exact Z.blk_sub rfl rfl (ren_map fun _ => rfl) | apply And.intro))); (focus (omega)); ((try dsimp only); omega))
  have hji : j = i := by omega
  subst hji
  have hxa : a < x.id := gtW_at hi hx
  repeat' ((conv => whnf); first
    | with_reducible first | refine spB_t ?_
    | ((with_reducible apply spB_cong); (focus (simp only [beq_self_eq_true, bne_self_eq_false, Bool.true_bne, Bool.false_bne, Bool.bne_true, Bool.bne_false, Bool.true_beq, Bool.false_beq, Bool.not_true, Bool.not_false, Bool.not_not, Int.reduceBEq, Int.reduceBNe, Int.reduceLE, Int.reduceLT, Int.reduceEq, decide_true, decide_false]; rfl)))
    | with_reducible first | refine spB_no (by decide) ?_
    | (with_reducible refine spB_dec ?_ ?_ <;> intro _ <;> (try (exfalso; first | contradiction | omega | (rename_i hz; refine hz ?_; simp; done) | (rename_i hz; simp at hz; done) | (simp only [LN] at *; omega))))
    | (with_reducible refine spB_beq ?_ ?_ <;> intro _ <;> (try (exfalso; first | contradiction | omega | (rename_i hz; refine hz ?_; simp; done) | (rename_i hz; simp at hz; done) | (simp only [LN] at *; omega))))
    | ((with_reducible refine Z.ConZ.red ?_); (apply Z.conZ_ins (N := (ws.length + 1)) (B := ⟨(ws.take j ++ (⟨a, c⟩ : Wk) :: ws.drop j).map cW, 2, 27, false⟩)); (focus rfl); (focus (repeat (first | exact Z.FK.nil | (apply Z.FK.keep; exact rfl) | (apply Z.FK.drop; exact rfl)))); (focus (repeat (first | exact trivial | (refine ⟨(fun o ho => (by first | (cases ho; rfl) | (cases ho; exact Z.inL_map fun _ => rfl) | (cases ho; exact Z.inL_mapr fun _ => rfl) | exact Z.inL_gB ho fun _ => rfl)), ?_⟩)))); (focus rfl); (focus (exact Z.inL_map fun _ => rfl)))
    | ((apply Z.callZ_capS (n := ws.length)); (focus (exact rfl)); (focus (simp; done)); (intro capv hcapv; refine ⟨fun hcap => ?_, fun hcap gv hgv => ?_⟩))
    | ((with_reducible apply Z.callZ_ovl (tS := 22) (tR := 4) tabOk Try.f62 Try.func62 (by kernel_rfl) (by kernel_rfl) (by kernel_rfl) (by kernel_rfl)); (iterate 4 (focus (exact rfl))); (focus (exact Nat.ne_of_beq_eq_false rfl)); (focus (simp; done)); (focus (exact Nat.zero_lt_succ _)))
    | ((with_reducible refine Z.slN_lo (j) ?_ ?_ ?_); (focus rfl); (focus ((try simp only [LN] at *) <;> omega)))
    | ((with_reducible refine Z.slN_lo (j + 1) ?_ ?_ ?_); (focus rfl); (focus ((try simp only [LN] at *) <;> omega)))
    | ((with_reducible refine slN_hi (j) ?_ ?_ ?_); (focus rfl); (focus ((try simp only [LN] at *) <;> omega)))
    | ((with_reducible refine slN_hc (ws.length + 1) ?_ ?_ ?_); (focus rfl); (focus (exact ⟨_, rfl, by omega⟩)))
    | ((with_reducible refine apzE_k ?_); (with_reducible refine apzK_mk (ws.length + 1 - j) ⟨_, rfl, ?_⟩ ?_ ?_ ?_ ?_ ?_ ?_); (focus ((try simp only [LN] at *) <;> omega)); (focus ((try simp only [LN] at *) <;> omega)); (focus (exact g_le (f := cW) rfl (by omega))); (iterate 2 (focus ((try simp only [LN] at *) <;> omega))); (focus rfl))
    | ((with_reducible refine cpyN.mk ?_ ?_ ?_ ?_); (focus rfl); (focus (exact one_all (by rfl))); (focus (exact g_fit (f := cW) rfl (by omega) (by (try simp only [LN] at *) <;> omega))))
    | ((with_reducible refine cpyN.mk ?_ ?_ ?_ ?_); (focus (exact g_len (f := cW) rfl (by (try simp only [LN] at *) <;> omega))); (focus (exact g_one cW_one rfl)); (focus (exact g_fit2 (f := cW) rfl (by omega) (by (try simp only [LN] at *) <;> omega) gS_len)))
    | ((with_reducible refine cpyN.mk2 ?_ ?_ ?_ ?_); (focus (exact g_lenp (f := cW) (by (try simp only [LN] at *) <;> omega))); (focus (exact g_onep cW_one (g_min (by (try simp only [LN] at *) <;> omega)))); (focus (exact g_fitp (f := cW) (by (try simp only [LN] at *) <;> omega))))
    | ((with_reducible refine cpyN.mk ?_ ?_ ?_ ?_); (focus rfl); (focus (exact one_all (by rfl))); (focus (exact g_fitp2 (f := cW) (by (try simp only [LN] at *) <;> omega) (g_fitk (by (try simp only [LN] at *) <;> omega)))))
    | with_reducible first | refine Z.rowN_known hx ?_
    | ((with_reducible apply ixN_litp); (focus (exact rfl)); (focus ((try simp only [LN] at *) <;> omega)))
    | ((with_reducible refine slE_a ?_ ?_); (focus ((try simp only [LN] at *) <;> omega)))
    | with_reducible refine wr_i64 (by first | omega | (simp only [LN] at *; omega)) ?_
    | with_reducible first | refine Z.callZ_in tabOk 9 Try.f36 _ Try.func36 (by kernel_rfl) rfl rfl rfl ?_ | refine Z.callZ_in tabOk 95 Try.f37 _ Try.func37 (by kernel_rfl) rfl rfl rfl ?_
    | ((with_reducible apply ex_and); exact rfl)
    | with_reducible first | refine Z.drawZ_rule tabOk mixOk ?_ | refine Z.apZ_mk (by kernel_rfl) ?_)
  all_goals (try (conv => whnf))
  all_goals try (show Nat.ble _ _ = true; rfl)
  all_goals first
  | (refine ⟨Nat.le_of_ble_eq_true rfl, _, _, _, _, rfl, rfl, ?_, ?_⟩; (focus omega); (exact g_ins (f := cW) rfl (by omega) rfl (gS_eq (by omega) rfl) (gT_eq (f := cW) rfl (Nat.le_min.2 ⟨by omega, by omega⟩) (by omega))))
  | (refine ⟨Nat.le_of_ble_eq_true rfl, _, _, _, _, rfl, rfl, ?_, ?_⟩; (focus omega); (exact g_insp (f := cW) (by omega) (gS_eq (by omega) rfl) (gT_eqp (f := cW) (by omega) (.inl ⟨(Nat.min_eq_right (by omega)).trans (by omega), by omega⟩))))
  | (refine Z.retF2 [.agg [.osl 11 0 (ws.length + 1) none, .ro true 2 (ps.map eL)], .one (.v (.int .i64 0))] (by rfl) ⟨⟨(Z.frz_osl (l := ws.take j ++ (⟨a, c⟩ : Wk) :: ws.drop j) (f := cW) (ty := 27) (bx := false) (by rfl) (by simp; omega) (fun _ => rfl)), rfl, trivial⟩, rfl, trivial⟩)
  | (refine ⟨Nat.le_of_ble_eq_true rfl, _, _, _, _, rfl, rfl, ?_, ?_⟩; (focus omega); skip)
  | skip

end Go.Proofs.Ytllnmdmmmkoiaaa
namespace Go.Proofs.Ytllnmdmmmkoiaaa
open Go Go.RowKit Wx
set_option linter.unusedVariables false
set_option linter.unusedSimpArgs false
set_option maxHeartbeats 4000000
theorem clonew_fr_nil   : Con Try.prog 59 [.one (.v (.slice none 0 0))] (fun rx rK rt => rx = .c (.ro true 2 (([] : List Wk).map eW)) ∧ rK = [] ∧ rt = 0) := by
  refine Z.con_ofF tabOk 8 Try.f59 _ Try.func59 (by kernel_rfl) rfl rfl rfl rfl ?_
  repeat' ((conv => whnf); first
    | with_reducible first | refine spB_t ?_)
  all_goals (try (conv => whnf))
  all_goals first
    | ((first | (with_reducible apply Z.retF1)); (focus (exact rfl)); (repeat' (first | exact trivial | (with_reducible apply Z.frz_one) | (exact Z.frz_nil) | apply And.intro)); (all_goals (try exact (fun _ => none))); all_goals (rfl))

theorem clonew_fr_emp (ad : Addr) (cap : Nat)  : Con Try.prog 59 [.one (.v (.slice (some ad) 0 cap))] (fun rx rK rt => rx = .c (.ro true 2 (([] : List Wk).map eW)) ∧ rK = [] ∧ rt = 0) := by
  refine Z.con_ofF tabOk 8 Try.f59 _ Try.func59 (by kernel_rfl) rfl rfl rfl rfl ?_
  repeat' ((conv => whnf); first
    | with_reducible first | refine spB_no (by decide) ?_
    | ((with_reducible refine apdE_r ?_); (with_reducible refine aprN.mk ⟨_, rfl, ?_⟩ ?_ ?_ ?_ ?_); (focus ((try simp only [LN] at *) <;> omega)); (focus (first | rfl)); (focus (first | exact one_all (by rfl))); (focus ((try simp only [LN] at *) <;> omega))))
  all_goals (try (conv => whnf))
  all_goals first
    | ((first | (with_reducible apply Z.retF1)); (focus (exact rfl)); (repeat' (first | exact trivial | (with_reducible apply Z.frz_one) | (exact Z.frz_osl0 rfl rfl rfl) | apply And.intro)); (all_goals (try exact (fun _ => none))); all_goals (rfl))

theorem clonew_fr_ne (x : Wk) (l : List Wk) (hl : l.length ≤ 1000) : Con Try.prog 59 [.one (.ro false 2 ((x :: l).map eW))] (fun rx rK rt => rx = .c (.ro true 2 ((x :: l).map eW)) ∧ rK = [] ∧ rt = 0) := by
  refine Z.con_ofF tabOk 8 Try.f59 _ Try.func59 (by kernel_rfl) rfl rfl rfl rfl ?_
  repeat' ((conv => whnf); first
    | with_reducible first | refine spB_no (by decide) ?_
    | ((with_reducible refine apdE_k ?_); (with_reducible refine apkN.mk ⟨_, rfl, ?_⟩ ?_); (focus ((try simp only [LN] at *) <;> omega)))
    | ((with_reducible refine apdN.mk ?_ ?_ ?_ ?_ ?_ ?_); (focus (first | (simp; done))); (focus (first | exact one_map2 (fun _ => rfl))); (focus ((try simp only [LN] at *) <;> omega)); (focus ((try simp only [LN] at *) <;> omega)); (focus ((try simp only [LN] at *) <;> omega))))
  all_goals (try (conv => whnf))
  all_goals first
    | ((first | (with_reducible apply Z.retF1)); (focus (exact rfl)); (repeat' (first | exact trivial | (with_reducible apply Z.frz_one) | ((with_reducible apply Z.fq_src); (focus (exact rfl)); (focus (first | (simp only [List.length_map, Nat.zero_add]; done))); (focus (exact fun _ => rfl))) | exact rfl | apply And.intro)); (all_goals (try exact (fun _ => none))); all_goals (rfl))

theorem clonew_fr (l : List Wk) (hl : l.length ≤ 1000) : Con Try.prog 59 [.one (.ro false 2 (l.map eW))] (fun rx rK rt => rx = .c (.ro true 2 (l.map eW)) ∧ rK = [] ∧ rt = 0) := by
  cases l with
  | nil => exact Z.con_nilcases (fun _ => clonew_fr_nil) (fun _ ad cap => clonew_fr_emp ad cap) (fun r rs h => by cases h)
  | cons x l => exact clonew_fr_ne x l (by simp only [List.length_cons] at hl; omega)
theorem come_bad (ws : List Wk) (ps : List Pl) (a c : Int) (hw : ws.length ≤ 1000) (hp : ps.length ≤ 1000) (hk : okF ws ps = false) : Con Try.prog 12 [.agg [.ro false 2 ((ws).map eW), .ro false 2 ((ps).map eL)], .agg [.v (.int .i64 a), .v (.int .i64 c)]] (fun rx rK rt => rx = .tup [.agg [.ro true 2 ((([] : List Wk)).map eW), .ro true 2 ((([] : List Pl)).map eL)], .one (.v (.int .i64 210))] ∧ rK = [] ∧ rt = 0) := by
  refine Z.con_ofF tabOk 11 Try.f12 _ Try.func12 (by kernel_rfl) rfl rfl rfl rfl ?_
  have ck := check_con ws ps (by omega) (by omega)
  rw [hk] at ck
  simp only [cond_false] at ck
  repeat' ((conv => whnf); first
    | with_reducible first | refine spB_t ?_
    | ((with_reducible apply spB_cong); (focus (simp only [beq_self_eq_true, bne_self_eq_false, Bool.true_bne, Bool.false_bne, Bool.bne_true, Bool.bne_false, Bool.true_beq, Bool.false_beq, Bool.not_true, Bool.not_false, Bool.not_not, Int.reduceBEq, Int.reduceBNe, Int.reduceLE, Int.reduceLT, Int.reduceEq, decide_true, decide_false]; rfl)))
    | with_reducible first | refine Z.callZ_in tabOk 29 Try.f31 _ Try.func31 (by kernel_rfl) rfl rfl rfl ?_
    | ((first | (with_reducible refine Z.callZ_mk ?_ (ck) ?_)); (focus ((repeat' (first | exact trivial | exact rfl | apply And.intro)); done)))
    | ((with_reducible apply ex_and); exact rfl))
  all_goals (try (conv => whnf))
  all_goals try (show Nat.ble _ _ = true; rfl)
  all_goals first
    | ((first | (with_reducible apply Z.retF2)); (focus (exact rfl)); (repeat' (first | exact trivial | (with_reducible apply Z.frz_agg) | (exact Z.frz_nil) | exact rfl | apply And.intro)); (all_goals (try exact (fun _ => none))); all_goals (first | (simp; done)))

theorem come_arg (ws : List Wk) (ps : List Pl) (a c : Int) (hw : ws.length ≤ 1000) (hp : ps.length ≤ 1000) (hk : okF ws ps = true) (hv : ¬ ((1 ≤ a ∧ a ≤ 4) ∧ 1 ≤ c ∧ c ≤ 8)) : Con Try.prog 12 [.agg [.ro false 2 ((ws).map eW), .ro false 2 ((ps).map eL)], .agg [.v (.int .i64 a), .v (.int .i64 c)]] (fun rx rK rt => rx = .tup [.agg [.ro true 2 ((([] : List Wk)).map eW), .ro true 2 ((([] : List Pl)).map eL)], .one (.v (.int .i64 2))] ∧ rK = [] ∧ rt = 0) := by
  refine Z.con_ofF tabOk 11 Try.f12 _ Try.func12 (by kernel_rfl) rfl rfl rfl rfl ?_
  have ck := check_con ws ps (by omega) (by omega)
  rw [hk] at ck
  simp only [cond_true] at ck
  have cw := clonew_fr ws hw
  have cp := clonep_con ps hp
  repeat' ((conv => whnf); first
    | with_reducible first | refine spB_t ?_
    | ((with_reducible apply spB_cong); (focus (simp only [beq_self_eq_true, bne_self_eq_false, Bool.true_bne, Bool.false_bne, Bool.bne_true, Bool.bne_false, Bool.true_beq, Bool.false_beq, Bool.not_true, Bool.not_false, Bool.not_not, Int.reduceBEq, Int.reduceBNe, Int.reduceLE, Int.reduceLT, Int.reduceEq, decide_true, decide_false]; rfl)))
    | with_reducible first | refine spB_no (by decide) ?_ | refine spB_not ?_
    | (with_reducible refine spB_dec ?_ ?_ <;> intro _ <;> (try (exfalso; first | contradiction | omega | (rename_i hz; refine hz ?_; simp; done) | (simp only [LN] at *; omega))))
    | with_reducible first | refine Z.callZ_in tabOk 34 Try.f32 _ Try.func32 (by kernel_rfl) rfl rfl rfl ?_ | refine Z.callZ_in tabOk 21 Try.f33 _ Try.func33 (by kernel_rfl) rfl rfl rfl ?_ | refine Z.callZ_in tabOk 29 Try.f31 _ Try.func31 (by kernel_rfl) rfl rfl rfl ?_
    | ((first | (with_reducible refine Z.callZ_mk ?_ (ck) ?_) | (with_reducible refine Z.conZ_mz ?_ (cw) ?_) | (with_reducible refine Z.conZ_mz ?_ (cp) ?_)); (focus ((repeat' (first | exact trivial | exact rfl | apply And.intro)); done)))
    | ((with_reducible apply ex_and); exact rfl)
    | with_reducible first | refine Z.drawZ_rule tabOk mixOk ?_ | refine Z.apZ_mk (by kernel_rfl) ?_)
  all_goals (try (conv => whnf))
  all_goals try (show Nat.ble _ _ = true; rfl)
  all_goals first
    | ((first | (with_reducible apply Z.retF2)); (focus (exact rfl)); (repeat' (first | exact trivial | (with_reducible apply Z.frz_one) | (with_reducible apply Z.frz_agg) | (with_reducible apply Z.fq_int) | (exact Z.frz_nil) | exact rfl | apply And.intro)); (all_goals (try exact (fun _ => none))); all_goals (first | (simp; done)))

theorem come_there (ws : List Wk) (ps : List Pl) (a c : Int) (hw : ws.length ≤ 1000) (hp : ps.length ≤ 1000) (hk : okF ws ps = true) (hv : (1 ≤ a ∧ a ≤ 4) ∧ 1 ≤ c ∧ c ≤ 8) (hyes : idxW ws a < ws.length) : Con Try.prog 12 [.agg [.ro false 2 ((ws).map eW), .ro false 2 ((ps).map eL)], .agg [.v (.int .i64 a), .v (.int .i64 c)]] (fun rx rK rt => rx = .tup [.agg [.ro true 2 ((([] : List Wk)).map eW), .ro true 2 ((([] : List Pl)).map eL)], .one (.v (.int .i64 5))] ∧ rK = [] ∧ rt = 0) := by
  refine Z.con_ofF tabOk 11 Try.f12 _ Try.func12 (by kernel_rfl) rfl rfl rfl rfl ?_
  have ck := check_con ws ps (by omega) (by omega)
  rw [hk] at ck
  simp only [cond_true] at ck
  have cw := clonew_fr ws hw
  have cp := clonep_con ps hp
  have ca := workerAt_con ws ps a (by omega) (by omega)
  rw [decide_eq_true hyes] at ca
  repeat' ((conv => whnf); first
    | with_reducible first | refine spB_t ?_
    | ((with_reducible apply spB_cong); (focus (simp only [beq_self_eq_true, bne_self_eq_false, Bool.true_bne, Bool.false_bne, Bool.bne_true, Bool.bne_false, Bool.true_beq, Bool.false_beq, Bool.not_true, Bool.not_false, Bool.not_not, Int.reduceBEq, Int.reduceBNe, Int.reduceLE, Int.reduceLT, Int.reduceEq, decide_true, decide_false]; rfl)))
    | with_reducible first | refine spB_no (by decide) ?_ | refine spB_not ?_
    | (with_reducible refine spB_dec ?_ ?_ <;> intro _ <;> (try (exfalso; first | contradiction | omega | (rename_i hz; refine hz ?_; simp; done) | (simp only [LN] at *; omega))))
    | with_reducible first | refine Z.callZ_in tabOk 34 Try.f32 _ Try.func32 (by kernel_rfl) rfl rfl rfl ?_ | refine Z.callZ_in tabOk 21 Try.f33 _ Try.func33 (by kernel_rfl) rfl rfl rfl ?_ | refine Z.callZ_in tabOk 29 Try.f31 _ Try.func31 (by kernel_rfl) rfl rfl rfl ?_
    | ((first | (with_reducible refine Z.callZ_mk ?_ (ca) ?_) | (with_reducible refine Z.callZ_mk ?_ (ck) ?_) | (with_reducible refine Z.conZ_mz ?_ (cw) ?_) | (with_reducible refine Z.conZ_mz ?_ (cp) ?_)); (focus ((repeat' (first | exact trivial | exact rfl | apply And.intro)); done)))
    | ((with_reducible apply ex_and); exact rfl)
    | with_reducible first | refine Z.drawZ_rule tabOk mixOk ?_ | refine Z.apZ_mk (by kernel_rfl) ?_)
  all_goals (try (conv => whnf))
  all_goals try (show Nat.ble _ _ = true; rfl)
  all_goals first
    | ((first | (with_reducible apply Z.retF2)); (focus (exact rfl)); (repeat' (first | exact trivial | (with_reducible apply Z.frz_one) | (with_reducible apply Z.frz_agg) | (with_reducible apply Z.fq_int) | (exact Z.frz_nil) | exact rfl | apply And.intro)); (all_goals (try exact (fun _ => none))); all_goals (first | (simp; done)))

end Go.Proofs.Ytllnmdmmmkoiaaa
namespace Go.Proofs.Ytllnmdmmmkoiaaa
open Go Go.RowKit Wx
set_option linter.unusedVariables false
set_option linter.unusedSimpArgs false
set_option maxHeartbeats 4000000
/-- A record whose first field is a slice of nothing: nil, or empty. -/
theorem con_nilagg {P : Program} {g : FuncId} {sz : Nat} {cs : List Ce} {av : List A0} {post : AV → Wx.Kr → Nat → Prop} (h0 : Con P g (.agg (.v (.slice none 0 0) :: cs) :: av) post) (h1 : ∀ ad cap, Con P g (.agg (.v (.slice (some ad) 0 cap) :: cs) :: av) post) : Con P g (.agg (.ro false sz [] :: cs) :: av) post := by
  refine ⟨h0.fn, fun w vs hvs => ?_⟩
  cases vs with
  | nil => exact hvs.elim
  | cons v vs =>
    obtain ⟨⟨us, rfl, hus⟩, hvs⟩ := hvs
    cases us with
    | nil => exact hus.elim
    | cons u us =>
      obtain ⟨hu, hus⟩ := hus
      have hu : Rd _ (.ro sz []) u := hu
      cases hu with
      | nil => exact h0.run w _ ⟨⟨_, rfl, rfl, hus⟩, hvs⟩
      | emp _ ad cap => exact (h1 ad cap).run w _ ⟨⟨_, rfl, rfl, hus⟩, hvs⟩
      | ro => exact (h1 _ _).run w _ ⟨⟨_, rfl, rfl, hus⟩, hvs⟩
theorem con_empagg {P : Program} {g : FuncId} {sz : Nat} {cs : List Ce} {av : List A0} {post : AV → Wx.Kr → Nat → Prop} (ad : Addr) (cap : Nat) (h : Con P g (.agg (.ro false sz [] :: cs) :: av) post) : Con P g (.agg (.v (.slice (some ad) 0 cap) :: cs) :: av) post := by
  refine ⟨h.fn, fun w vs hvs => ?_⟩
  cases vs with
  | nil => exact hvs.elim
  | cons v vs =>
    obtain ⟨⟨us, rfl, hus⟩, hvs⟩ := hvs
    cases us with
    | nil => exact hus.elim
    | cons u us =>
      obtain ⟨hu, hus⟩ := hus
      have hu : u = .slice (some ad) 0 cap := hu
      subst hu
      exact h.run w _ ⟨⟨_, rfl, (show Rd _ (.ro sz []) _ from .emp _ ad cap), hus⟩, hvs⟩
theorem clonew_0   : Con Try.prog 59 [.one (.v (.slice none 0 0))] (fun rx rK rt => rx = .val (.slice none 0 0) ∧ rK = [] ∧ rt = 0) := by
  refine con_of tabOk 8 Try.f59 _ Try.func59 (by kernel_rfl) rfl rfl rfl rfl (fun W => ?_)
  repeat' ((conv => whnf); first
    | with_reducible first | refine spB_t ?_
    | ((with_reducible apply spB_cong); (focus (simp only [beq_self_eq_true, bne_self_eq_false, Bool.true_bne, Bool.false_bne, Bool.bne_true, Bool.bne_false, Bool.true_beq, Bool.false_beq, Bool.not_true, Bool.not_false, Bool.not_not, Int.reduceBEq, Int.reduceBNe, Int.reduceLE, Int.reduceLT, Int.reduceEq, decide_true, decide_false]; rfl)))
    | with_reducible first | refine spB_yes (by decide) ?_ | refine spB_no (by decide) ?_ | refine spB_f ?_ | refine spB_not ?_ | refine spB_yes (by assumption) ?_ | refine spB_no (by assumption) ?_
    | (with_reducible refine spB_dec ?_ ?_ <;> intro _ <;> (try (exfalso; first | contradiction | omega | (rename_i hz; with_reducible exact absurd rfl hz))))
    | (with_reducible refine spB_beq ?_ ?_ <;> intro _ <;> (try (exfalso; first | contradiction | omega | (rename_i hz; with_reducible exact absurd rfl hz))))
    | (with_reducible refine spB_bne ?_ ?_ <;> intro _ <;> (try (exfalso; first | contradiction | omega | (rename_i hz; with_reducible exact absurd rfl hz))))
    | (with_reducible refine spB_mk ?_ ?_ <;> intro _ <;> (try (exfalso; first | contradiction | omega | (rename_i hz; with_reducible exact absurd rfl hz))))
    | ((with_reducible refine apz0N_mk _ ?_ ?_ ?_ ?_ ?_); (focus (first | rfl | exact (Int.toNat_of_nonneg (by omega)).symm)); (focus ((try simp only [LN] at *) <;> omega)); (focus ((try simp only [LN] at *) <;> omega)); (focus ((try simp only [LN] at *) <;> omega)))
    | ((with_reducible refine posE_pos ?_ ?_); (focus ((try simp only [LN] at *) <;> omega)))
    | ((with_reducible refine posE_nil ?_ ?_); (focus rfl))
    | ((with_reducible apply rowN_mk); (focus rfl))
    | ((with_reducible apply ixN_lit); (focus (exact rfl)); (focus (exact rfl)))
    | ((with_reducible apply ixN_litp); (focus (exact rfl)); (focus ((try simp only [LN] at *) <;> omega)))
    | ((with_reducible refine eqN_mk2 ?_ ?_); (focus rfl))
    | ((with_reducible refine posN_mk2 ?_ ?_); (focus (first | decide | ((try simp only [LN] at *) <;> omega))))
    | ((with_reducible refine apdE_r ?_); (with_reducible refine aprN.mk ⟨_, rfl, ?_⟩ ?_ ?_ ?_ ?_); (focus ((try simp only [LN] at *) <;> omega)); (focus (first | rfl | (simp; done) | ((try simp only [LN] at *) <;> omega))); (focus (first | exact one_all (by rfl) | exact one_map (fun _ => rfl) | exact one_map2 (fun _ => rfl) | exact one_drop (fun _ => rfl))); (focus ((try simp only [LN] at *) <;> omega)))
    | ((with_reducible refine apdE_k ?_); (with_reducible refine apkN.mk ⟨_, rfl, ?_⟩ ?_); (focus ((try simp only [LN] at *) <;> omega)))
    | (with_reducible refine apdE_n ?_)
    | ((with_reducible refine slE_a ?_ ?_); (focus ((try simp only [LN] at *) <;> omega)))
    | ((with_reducible refine slE_b ?_ ?_); (focus ((try simp only [LN] at *) <;> omega)))
    | ((with_reducible refine slE_split ?_ ?_ ?_); (focus ((try simp only [LN] at *) <;> omega)); (all_goals intro _))
    | ((with_reducible refine strN_src ?_ ?_ ?_); (focus (exact fun _ => rfl)); (focus ((try simp only [LN] at *) <;> omega)))
    | ((with_reducible refine strN_own ?_ ?_ ?_ ?_); (focus (exact fun _ => rfl)); (focus ((try simp only [LN] at *) <;> omega)); (focus ((try simp only [LN] at *) <;> omega)))
    | ((with_reducible apply sl3N_mk); (focus (exact rfl)); (focus (exact rfl)); (focus (exact rfl)); (focus ((try simp only [LN] at *) <;> omega)); (focus ((try simp only [LN] at *) <;> omega)); (focus ((try simp only [LN] at *) <;> omega)); (focus ((try simp only [LN] at *) <;> omega)))
    | ((with_reducible refine clrN_mk ?_ ?_ ?_); (focus ((try simp only [LN] at *) <;> omega)); (focus rfl))
    | ((with_reducible refine apdN.mk ?_ ?_ ?_ ?_ ?_ ?_); (focus (first | rfl | (simp; done))); (focus (first | exact one_all (by rfl) | exact one_map (fun _ => rfl) | exact one_map2 (fun _ => rfl))); (focus ((try simp only [LN] at *) <;> omega)); (focus ((try simp only [LN] at *) <;> omega)); (focus ((try simp only [LN] at *) <;> omega)))
    | ((with_reducible refine cpyN.mk ?_ ?_ ?_ ?_); (focus (first | rfl | (simp; done))); (focus (first | exact one_all (by rfl) | exact one_map (fun _ => rfl) | exact one_map2 (fun _ => rfl))); (focus ((try simp only [LN] at *) <;> omega)))
    | with_reducible refine wr_i64 (by first | omega | (simp only [LN] at *; omega)) ?_
    | with_reducible refine wr_u64 (by omega) ?_
    | with_reducible refine wr_u8 (by omega) ?_
    | with_reducible refine wr_u32 (by omega) ?_
    | with_reducible first | refine wr_mk _ rfl ?_
    | ((with_reducible refine ixN_nat ?_ ?_); (focus ((try simp only [LN] at *) <;> omega)))
    | ((with_reducible refine rowN_map ?_ ?_); (focus ((try simp only [LN] at *) <;> omega)); intro x hx)
    | ((with_reducible refine posE_nil (by rfl) ?_))
    | ((with_reducible refine posE_pos (by decide) ?_))
    | with_reducible refine vN_mod (by omega) ?_
    | with_reducible first | refine vN_mk ?_
    | with_reducible refine nzN_mk (by omega) ?_
    | with_reducible refine eqN_dec (by omega) ?_
    | with_reducible first | refine draw_rule tabOk mixOk ?_
    | with_reducible refine apN_mk (by kernel_rfl) ?_)
  all_goals (try (conv => whnf))
  refine ret1 [.one (.v (.slice none 0 0))] rfl [] (.val (.slice none 0 0)) [] rfl trivial List.nodup_nil rfl ?_ (fun p hp => nomatch hp) ⟨rfl, rfl, rfl⟩
  intro p b hp; cases hp

theorem clonew_1 (ad : Addr) (cap : Nat)  : Con Try.prog 59 [.one (.v (.slice (some ad) 0 cap))] (fun rx rK rt => rx = .c (.osl 0 0 0 (some 0)) ∧ rK = [(0, some ⟨[], 2, 27, false⟩)] ∧ rt = 1) := by
  refine con_of tabOk 8 Try.f59 _ Try.func59 (by kernel_rfl) rfl rfl rfl rfl (fun W => ?_)
  repeat' ((conv => whnf); first
    | with_reducible first | refine spB_t ?_
    | ((with_reducible apply spB_cong); (focus (simp only [beq_self_eq_true, bne_self_eq_false, Bool.true_bne, Bool.false_bne, Bool.bne_true, Bool.bne_false, Bool.true_beq, Bool.false_beq, Bool.not_true, Bool.not_false, Bool.not_not, Int.reduceBEq, Int.reduceBNe, Int.reduceLE, Int.reduceLT, Int.reduceEq, decide_true, decide_false]; rfl)))
    | with_reducible first | refine spB_yes (by decide) ?_ | refine spB_no (by decide) ?_ | refine spB_f ?_ | refine spB_not ?_ | refine spB_yes (by assumption) ?_ | refine spB_no (by assumption) ?_
    | (with_reducible refine spB_dec ?_ ?_ <;> intro _ <;> (try (exfalso; first | contradiction | omega | (rename_i hz; with_reducible exact absurd rfl hz))))
    | (with_reducible refine spB_beq ?_ ?_ <;> intro _ <;> (try (exfalso; first | contradiction | omega | (rename_i hz; with_reducible exact absurd rfl hz))))
    | (with_reducible refine spB_bne ?_ ?_ <;> intro _ <;> (try (exfalso; first | contradiction | omega | (rename_i hz; with_reducible exact absurd rfl hz))))
    | (with_reducible refine spB_mk ?_ ?_ <;> intro _ <;> (try (exfalso; first | contradiction | omega | (rename_i hz; with_reducible exact absurd rfl hz))))
    | ((with_reducible refine apz0N_mk _ ?_ ?_ ?_ ?_ ?_); (focus (first | rfl | exact (Int.toNat_of_nonneg (by omega)).symm)); (focus ((try simp only [LN] at *) <;> omega)); (focus ((try simp only [LN] at *) <;> omega)); (focus ((try simp only [LN] at *) <;> omega)))
    | ((with_reducible refine posE_pos ?_ ?_); (focus ((try simp only [LN] at *) <;> omega)))
    | ((with_reducible refine posE_nil ?_ ?_); (focus rfl))
    | ((with_reducible apply rowN_mk); (focus rfl))
    | ((with_reducible apply ixN_lit); (focus (exact rfl)); (focus (exact rfl)))
    | ((with_reducible apply ixN_litp); (focus (exact rfl)); (focus ((try simp only [LN] at *) <;> omega)))
    | ((with_reducible refine eqN_mk2 ?_ ?_); (focus rfl))
    | ((with_reducible refine posN_mk2 ?_ ?_); (focus (first | decide | ((try simp only [LN] at *) <;> omega))))
    | ((with_reducible refine apdE_r ?_); (with_reducible refine aprN.mk ⟨_, rfl, ?_⟩ ?_ ?_ ?_ ?_); (focus ((try simp only [LN] at *) <;> omega)); (focus (first | rfl | (simp; done) | ((try simp only [LN] at *) <;> omega))); (focus (first | exact one_all (by rfl) | exact one_map (fun _ => rfl) | exact one_map2 (fun _ => rfl) | exact one_drop (fun _ => rfl))); (focus ((try simp only [LN] at *) <;> omega)))
    | ((with_reducible refine apdE_k ?_); (with_reducible refine apkN.mk ⟨_, rfl, ?_⟩ ?_); (focus ((try simp only [LN] at *) <;> omega)))
    | (with_reducible refine apdE_n ?_)
    | ((with_reducible refine slE_a ?_ ?_); (focus ((try simp only [LN] at *) <;> omega)))
    | ((with_reducible refine slE_b ?_ ?_); (focus ((try simp only [LN] at *) <;> omega)))
    | ((with_reducible refine slE_split ?_ ?_ ?_); (focus ((try simp only [LN] at *) <;> omega)); (all_goals intro _))
    | ((with_reducible refine strN_src ?_ ?_ ?_); (focus (exact fun _ => rfl)); (focus ((try simp only [LN] at *) <;> omega)))
    | ((with_reducible refine strN_own ?_ ?_ ?_ ?_); (focus (exact fun _ => rfl)); (focus ((try simp only [LN] at *) <;> omega)); (focus ((try simp only [LN] at *) <;> omega)))
    | ((with_reducible apply sl3N_mk); (focus (exact rfl)); (focus (exact rfl)); (focus (exact rfl)); (focus ((try simp only [LN] at *) <;> omega)); (focus ((try simp only [LN] at *) <;> omega)); (focus ((try simp only [LN] at *) <;> omega)); (focus ((try simp only [LN] at *) <;> omega)))
    | ((with_reducible refine clrN_mk ?_ ?_ ?_); (focus ((try simp only [LN] at *) <;> omega)); (focus rfl))
    | ((with_reducible refine apdN.mk ?_ ?_ ?_ ?_ ?_ ?_); (focus (first | rfl | (simp; done))); (focus (first | exact one_all (by rfl) | exact one_map (fun _ => rfl) | exact one_map2 (fun _ => rfl))); (focus ((try simp only [LN] at *) <;> omega)); (focus ((try simp only [LN] at *) <;> omega)); (focus ((try simp only [LN] at *) <;> omega)))
    | ((with_reducible refine cpyN.mk ?_ ?_ ?_ ?_); (focus (first | rfl | (simp; done))); (focus (first | exact one_all (by rfl) | exact one_map (fun _ => rfl) | exact one_map2 (fun _ => rfl))); (focus ((try simp only [LN] at *) <;> omega)))
    | with_reducible refine wr_i64 (by first | omega | (simp only [LN] at *; omega)) ?_
    | with_reducible refine wr_u64 (by omega) ?_
    | with_reducible refine wr_u8 (by omega) ?_
    | with_reducible refine wr_u32 (by omega) ?_
    | with_reducible first | refine wr_mk _ rfl ?_
    | ((with_reducible refine ixN_nat ?_ ?_); (focus ((try simp only [LN] at *) <;> omega)))
    | ((with_reducible refine rowN_map ?_ ?_); (focus ((try simp only [LN] at *) <;> omega)); intro x hx)
    | ((with_reducible refine posE_nil (by rfl) ?_))
    | ((with_reducible refine posE_pos (by decide) ?_))
    | with_reducible refine vN_mod (by omega) ?_
    | with_reducible first | refine vN_mk ?_
    | with_reducible refine nzN_mk (by omega) ?_
    | with_reducible refine eqN_dec (by omega) ?_
    | with_reducible first | refine draw_rule tabOk mixOk ?_
    | with_reducible refine apN_mk (by kernel_rfl) ?_)
  all_goals (try (conv => whnf))
  refine ret1b 0 (.c (.osl 0 0 0 (some 0))) [] 2 27 false _ rfl ?_ rfl ?_ rfl rfl (fun r hr => nomatch hr) ⟨rfl, rfl, rfl⟩
  all_goals rfl

theorem come_0n (ps : List Pl) (a c : Int) (hp : ps.length ≤ 1000) (hk : okF [] ps = true) (hv : (1 ≤ a ∧ a ≤ 4) ∧ 1 ≤ c ∧ c ≤ 8) : Con Try.prog 12 [.agg [.v (.slice none 0 0), .ro false 2 (ps.map eL)], .agg [.v (.int .i64 a), .v (.int .i64 c)]] (fun rx rK rt => rx = .tup [.agg [.ro true 2 (([(⟨a, c⟩ : Wk)]).map eW), .ro true 2 ((ps).map eL)], .one (.v (.int .i64 0))] ∧ rK = [] ∧ rt = 0) := by
  refine Z.con_ofF tabOk 11 Try.f12 _ Try.func12 (by kernel_rfl) rfl rfl rfl rfl ?_
  have ck := check_con [] ps (by simp) (by omega)
  rw [hk] at ck
  simp only [cond_true] at ck
  have ca := workerAt_con [] ps a (by simp) (by omega)
  have hno : ¬ idxW [] a < ([] : List Wk).length := by simp
  rw [decide_eq_false hno] at ca
  have cp := clonep_con ps hp
  have cw := clonew_0
  repeat' ((conv => whnf); first
    | with_reducible first | refine spB_t ?_
    | ((with_reducible apply spB_cong); (focus (simp only [beq_self_eq_true, bne_self_eq_false, Bool.true_bne, Bool.false_bne, Bool.bne_true, Bool.bne_false, Bool.true_beq, Bool.false_beq, Bool.not_true, Bool.not_false, Bool.not_not, Int.reduceBEq, Int.reduceBNe, Int.reduceLE, Int.reduceLT, Int.reduceEq, decide_true, decide_false]; rfl)))
    | with_reducible first | refine spB_yes (by decide) ?_ | refine spB_no (by decide) ?_ | refine spB_f ?_ | refine spB_not ?_ | refine spB_yes (by assumption) ?_ | refine spB_no (by assumption) ?_
    | (with_reducible refine spB_dec ?_ ?_ <;> intro _ <;> (try (exfalso; first | contradiction | omega | (rename_i hz; refine hz ?_; simp; done) | (rename_i hz; simp at hz; done) | (simp only [LN] at *; omega))))
    | (with_reducible refine spB_beq ?_ ?_ <;> intro _ <;> (try (exfalso; first | contradiction | omega | (rename_i hz; refine hz ?_; simp; done) | (rename_i hz; simp at hz; done) | (simp only [LN] at *; omega))))
    | (with_reducible refine spB_bne ?_ ?_ <;> intro _ <;> (try (exfalso; first | contradiction | omega | (rename_i hz; refine hz ?_; simp; done) | (rename_i hz; simp at hz; done) | (simp only [LN] at *; omega))))
    | (with_reducible refine spB_mk ?_ ?_ <;> intro _ <;> (try (exfalso; first | contradiction | omega | (rename_i hz; refine hz ?_; simp; done) | (rename_i hz; simp at hz; done) | (simp only [LN] at *; omega))))
    | with_reducible first | refine Z.loopZ_unroll tabOk 3 ?_
    | ((with_reducible refine Z.slN_lo 0 ?_ ?_ ?_); (focus rfl); (focus ((try simp only [LN] at *) <;> omega)))
    | ((with_reducible refine apdE_n ?_); (with_reducible refine apdN.mk ?_ ?_ ?_ ?_ ?_ ?_); (focus rfl); (focus (exact one_all (by rfl))); (focus (simp; done)); (focus ((try simp only [LN] at *) <;> omega)); (focus ((try simp only [LN] at *) <;> omega)))
    | ((with_reducible refine apdE_k ?_); (with_reducible refine apkN.mk ⟨_, rfl, ?_⟩ ?_); (focus omega); (with_reducible refine apdN.mk ?_ ?_ ?_ ?_ ?_ ?_); (focus rfl); (focus (exact one_all (by rfl))); (focus (simp; done)); (focus ((try simp only [LN] at *) <;> omega)); (focus ((try simp only [LN] at *) <;> omega)))
    | ((with_reducible refine apz0N_mk _ ?_ ?_ ?_ ?_ ?_); (focus (first | rfl | exact (Int.toNat_of_nonneg (by omega)).symm)); (focus ((try simp only [LN] at *) <;> omega)); (focus ((try simp only [LN] at *) <;> omega)); (focus ((try simp only [LN] at *) <;> omega)))
    | ((with_reducible refine posE_pos ?_ ?_); (focus ((try simp only [LN] at *) <;> omega)))
    | ((with_reducible refine posE_nil ?_ ?_); (focus rfl))
    | ((with_reducible apply rowN_mk); (focus rfl))
    | ((with_reducible apply ixN_lit); (focus (exact rfl)); (focus (exact rfl)))
    | ((with_reducible apply ixN_litp); (focus (exact rfl)); (focus ((try simp only [LN] at *) <;> omega)))
    | ((with_reducible refine eqN_mk2 ?_ ?_); (focus rfl))
    | ((with_reducible refine posN_mk2 ?_ ?_); (focus (first | decide | ((try simp only [LN] at *) <;> omega))))
    | ((with_reducible refine apdE_r ?_); (with_reducible refine aprN.mk ⟨_, rfl, ?_⟩ ?_ ?_ ?_ ?_); (focus ((try simp only [LN] at *) <;> omega)); (focus (first | rfl | (simp; done) | ((try simp only [LN] at *) <;> omega))); (focus (first | exact one_all (by rfl) | exact one_map (fun _ => rfl) | exact one_map2 (fun _ => rfl) | exact one_drop (fun _ => rfl))); (focus ((try simp only [LN] at *) <;> omega)))
    | ((with_reducible refine apdE_k ?_); (with_reducible refine apkN.mk ⟨_, rfl, ?_⟩ ?_); (focus ((try simp only [LN] at *) <;> omega)))
    | with_reducible first | refine apdE_n ?_
    | ((with_reducible refine slE_a ?_ ?_); (focus ((try simp only [LN] at *) <;> omega)))
    | ((with_reducible refine slE_b ?_ ?_); (focus ((try simp only [LN] at *) <;> omega)))
    | ((with_reducible refine slE_split ?_ ?_ ?_); (focus ((try simp only [LN] at *) <;> omega)); (all_goals intro _))
    | ((with_reducible refine apdN.mk ?_ ?_ ?_ ?_ ?_ ?_); (focus (first | rfl | (simp; done))); (focus (first | exact one_all (by rfl) | exact one_map (fun _ => rfl) | exact one_map2 (fun _ => rfl))); (focus ((try simp only [LN] at *) <;> omega)); (focus ((try simp only [LN] at *) <;> omega)); (focus ((try simp only [LN] at *) <;> omega)))
    | ((with_reducible refine cpyN.mk ?_ ?_ ?_ ?_); (focus (first | rfl | (simp; done))); (focus (first | exact one_all (by rfl) | exact one_map (fun _ => rfl) | exact one_map2 (fun _ => rfl))); (focus ((try simp only [LN] at *) <;> omega)))
    | with_reducible refine wr_i64 (by first | omega | (simp only [LN] at *; omega)) ?_
    | with_reducible refine wr_u64 (by omega) ?_
    | with_reducible refine wr_u8 (by omega) ?_
    | with_reducible refine wr_u32 (by omega) ?_
    | with_reducible first | refine wr_mk _ rfl ?_
    | ((with_reducible refine ixN_nat ?_ ?_); (focus ((try simp only [LN] at *) <;> omega)))
    | ((with_reducible refine rowN_map ?_ ?_); (focus ((try simp only [LN] at *) <;> omega)); intro x hx)
    | ((with_reducible refine posE_nil (by rfl) ?_))
    | ((with_reducible refine posE_pos (by decide) ?_))
    | with_reducible refine eqN_dec (by omega) ?_
    | with_reducible first | refine apN_mk (by kernel_rfl) ?_ | refine Z.callZ_in tabOk 34 Try.f32 _ Try.func32 (by kernel_rfl) rfl rfl rfl ?_ | refine Z.callZ_in tabOk 9 Try.f36 _ Try.func36 (by kernel_rfl) rfl rfl rfl ?_ | refine Z.callZ_in tabOk 21 Try.f35 _ Try.func35 (by kernel_rfl) rfl rfl rfl ?_ | refine Z.callZ_in tabOk 21 Try.f33 _ Try.func33 (by kernel_rfl) rfl rfl rfl ?_ | refine Z.callZ_in tabOk 95 Try.f37 _ Try.func37 (by kernel_rfl) rfl rfl rfl ?_ | refine Z.callZ_in tabOk 10 Try.f63 _ Try.func63 (by kernel_rfl) rfl rfl rfl ?_ | refine Z.callZ_in tabOk 14 Try.f68 _ Try.func68 (by kernel_rfl) rfl rfl rfl ?_ | refine Z.callZ_in tabOk 28 Try.f70 _ Try.func70 (by kernel_rfl) rfl rfl rfl ?_ | refine Z.callZ_in tabOk 29 Try.f31 _ Try.func31 (by kernel_rfl) rfl rfl rfl ?_
    | ((first | (with_reducible refine Z.conZ_mz ?_ (ca) ?_) | (with_reducible refine Z.callZ_mk ?_ (ca) ?_) | (with_reducible refine Z.conZ_mz ?_ (ck) ?_) | (with_reducible refine Z.callZ_mk ?_ (ck) ?_) | (with_reducible refine Z.conZ_mz ?_ (cw) ?_) | (with_reducible refine Z.callZ_mk ?_ (cw) ?_) | (with_reducible refine Z.conZ_mz ?_ (cp) ?_) | (with_reducible refine Z.callZ_mk ?_ (cp) ?_)); (focus ((repeat' (first | exact trivial | exact rfl | exact Z.low_nil | exact Z.low_nil2 | exact low_osl (fun _ => rfl) | (refine Z.low_osln ?_ (fun _ => rfl); (simp only [List.length_map]; done)) | exact low_oslr (fun _ => rfl) | exact Z.low_gslm (by first | rfl | exact Z.kb_some rfl) (fun _ => rfl) | exact .inl rfl | exact .inr ⟨_, rfl⟩ | apply And.intro)); done)))
    | ((with_reducible refine eqN_mk2 ?_ ?_); (focus (exact Z.kb_some rfl)))
    | ((with_reducible apply ex_and); exact rfl)
    | with_reducible first | refine Z.drawZ_rule tabOk mixOk ?_ | refine Z.apZ_mk (by kernel_rfl) ?_
    | ((with_reducible refine Z.ConZ.red ?_); (try subst hlb); (apply Z.conZ_all); (focus (repeat (first | exact Z.FK.nil | (apply Z.FK.keep; exact rfl)))); (focus rfl); (focus rfl); (focus (repeat (first | exact trivial | (refine ⟨(fun o ho => (by first | (cases ho; rfl) | (cases ho; exact Z.inL_map fun _ => rfl) | (cases ho; exact Z.inL_mapr fun _ => rfl) | exact Z.inL_gB ho fun _ => rfl)), ?_⟩)))))
    | ((refine ⟨rfl, ?_, rfl⟩); (focus (repeat (first | exact Z.DK.nil | apply Z.DK.cons))))
    | (focus (exact (rfl : Nat.ble _ _ = true))))
  all_goals (try (conv => whnf))
  all_goals try (show Nat.ble _ _ = true; rfl)
  all_goals first
  | (refine Z.retF2 [.agg [.osl 6 0 (0 + 1) none, .ro true 2 (ps.map eL)], .one (.v (.int .i64 0))] (by rfl) ⟨⟨(Z.frz_osl (l := [(⟨a, c⟩ : Wk)]) (f := cW) (ty := 27) (bx := false) (by rfl) (by simp) (fun _ => rfl)), rfl, trivial⟩, rfl, trivial⟩)
  | (refine Z.retF2 [.agg [.osl 6 0 (1) none, .ro true 2 (ps.map eL)], .one (.v (.int .i64 0))] (by rfl) ⟨⟨(Z.frz_osl (l := [(⟨a, c⟩ : Wk)]) (f := cW) (ty := 27) (bx := false) (by rfl) (by simp) (fun _ => rfl)), rfl, trivial⟩, rfl, trivial⟩)
  | (refine Z.retF2 [.agg [.osl 7 0 (0 + 1) none, .ro true 2 (ps.map eL)], .one (.v (.int .i64 0))] (by rfl) ⟨⟨(Z.frz_osl (l := [(⟨a, c⟩ : Wk)]) (f := cW) (ty := 27) (bx := false) (by rfl) (by simp) (fun _ => rfl)), rfl, trivial⟩, rfl, trivial⟩)
  | (refine Z.retF2 [.agg [.osl 7 0 (1) none, .ro true 2 (ps.map eL)], .one (.v (.int .i64 0))] (by rfl) ⟨⟨(Z.frz_osl (l := [(⟨a, c⟩ : Wk)]) (f := cW) (ty := 27) (bx := false) (by rfl) (by simp) (fun _ => rfl)), rfl, trivial⟩, rfl, trivial⟩)
  | (refine Z.retF2 [.agg [.osl 8 0 (0 + 1) none, .ro true 2 (ps.map eL)], .one (.v (.int .i64 0))] (by rfl) ⟨⟨(Z.frz_osl (l := [(⟨a, c⟩ : Wk)]) (f := cW) (ty := 27) (bx := false) (by rfl) (by simp) (fun _ => rfl)), rfl, trivial⟩, rfl, trivial⟩)
  | (refine Z.retF2 [.agg [.osl 8 0 (1) none, .ro true 2 (ps.map eL)], .one (.v (.int .i64 0))] (by rfl) ⟨⟨(Z.frz_osl (l := [(⟨a, c⟩ : Wk)]) (f := cW) (ty := 27) (bx := false) (by rfl) (by simp) (fun _ => rfl)), rfl, trivial⟩, rfl, trivial⟩)
  | (refine Z.retF2 [.agg [.osl 9 0 (0 + 1) none, .ro true 2 (ps.map eL)], .one (.v (.int .i64 0))] (by rfl) ⟨⟨(Z.frz_osl (l := [(⟨a, c⟩ : Wk)]) (f := cW) (ty := 27) (bx := false) (by rfl) (by simp) (fun _ => rfl)), rfl, trivial⟩, rfl, trivial⟩)
  | (refine Z.retF2 [.agg [.osl 9 0 (1) none, .ro true 2 (ps.map eL)], .one (.v (.int .i64 0))] (by rfl) ⟨⟨(Z.frz_osl (l := [(⟨a, c⟩ : Wk)]) (f := cW) (ty := 27) (bx := false) (by rfl) (by simp) (fun _ => rfl)), rfl, trivial⟩, rfl, trivial⟩)
  | (refine Z.retF2 [.agg [.osl 10 0 (0 + 1) none, .ro true 2 (ps.map eL)], .one (.v (.int .i64 0))] (by rfl) ⟨⟨(Z.frz_osl (l := [(⟨a, c⟩ : Wk)]) (f := cW) (ty := 27) (bx := false) (by rfl) (by simp) (fun _ => rfl)), rfl, trivial⟩, rfl, trivial⟩)
  | (refine Z.retF2 [.agg [.osl 10 0 (1) none, .ro true 2 (ps.map eL)], .one (.v (.int .i64 0))] (by rfl) ⟨⟨(Z.frz_osl (l := [(⟨a, c⟩ : Wk)]) (f := cW) (ty := 27) (bx := false) (by rfl) (by simp) (fun _ => rfl)), rfl, trivial⟩, rfl, trivial⟩)
  | (refine Z.retF2 [.agg [.gsl 8 [cW ⟨a, c⟩], .ro true 2 (ps.map eL)], .one (.v (.int .i64 0))] (by rfl) ⟨⟨⟨2, 27, _, rfl, rfl, rfl⟩, rfl, trivial⟩, rfl, trivial⟩)
  | (fail)

theorem come_0e (ad : Addr) (cap : Nat) (ps : List Pl) (a c : Int) (hp : ps.length ≤ 1000) (hk : okF [] ps = true) (hv : (1 ≤ a ∧ a ≤ 4) ∧ 1 ≤ c ∧ c ≤ 8) : Con Try.prog 12 [.agg [.v (.slice (some ad) 0 cap), .ro false 2 (ps.map eL)], .agg [.v (.int .i64 a), .v (.int .i64 c)]] (fun rx rK rt => rx = .tup [.agg [.ro true 2 (([(⟨a, c⟩ : Wk)]).map eW), .ro true 2 ((ps).map eL)], .one (.v (.int .i64 0))] ∧ rK = [] ∧ rt = 0) := by
  refine Z.con_ofF tabOk 11 Try.f12 _ Try.func12 (by kernel_rfl) rfl rfl rfl rfl ?_
  have ck := check_con [] ps (by simp) (by omega)
  rw [hk] at ck
  simp only [cond_true] at ck
  have ca := workerAt_con [] ps a (by simp) (by omega)
  have hno : ¬ idxW [] a < ([] : List Wk).length := by simp
  rw [decide_eq_false hno] at ca
  have cp := clonep_con ps hp
  have ck := con_empagg ad cap ck
  have ca := con_empagg ad cap ca
  have cw := clonew_1 ad cap
  repeat' ((conv => whnf); first
    | with_reducible first | refine spB_t ?_
    | ((with_reducible apply spB_cong); (focus (simp only [beq_self_eq_true, bne_self_eq_false, Bool.true_bne, Bool.false_bne, Bool.bne_true, Bool.bne_false, Bool.true_beq, Bool.false_beq, Bool.not_true, Bool.not_false, Bool.not_not, Int.reduceBEq, Int.reduceBNe, Int.reduceLE, Int.reduceLT, Int.reduceEq, decide_true, decide_false]; rfl)))
    | with_reducible first | refine spB_yes (by decide) ?_ | refine spB_no (by decide) ?_ | refine spB_f ?_ | refine spB_not ?_ | refine spB_yes (by assumption) ?_ | refine spB_no (by assumption) ?_
    | (with_reducible refine spB_dec ?_ ?_ <;> intro _ <;> (try (exfalso; first | contradiction | omega | (rename_i hz; refine hz ?_; simp; done) | (rename_i hz; simp at hz; done) | (simp only [LN] at *; omega))))
    | (with_reducible refine spB_beq ?_ ?_ <;> intro _ <;> (try (exfalso; first | contradiction | omega | (rename_i hz; refine hz ?_; simp; done) | (rename_i hz; simp at hz; done) | (simp only [LN] at *; omega))))
    | (with_reducible refine spB_bne ?_ ?_ <;> intro _ <;> (try (exfalso; first | contradiction | omega | (rename_i hz; refine hz ?_; simp; done) | (rename_i hz; simp at hz; done) | (simp only [LN] at *; omega))))
    | (with_reducible refine spB_mk ?_ ?_ <;> intro _ <;> (try (exfalso; first | contradiction | omega | (rename_i hz; refine hz ?_; simp; done) | (rename_i hz; simp at hz; done) | (simp only [LN] at *; omega))))
    | with_reducible first | refine Z.loopZ_unroll tabOk 3 ?_
    | ((with_reducible refine Z.slN_lo 0 ?_ ?_ ?_); (focus rfl); (focus ((try simp only [LN] at *) <;> omega)))
    | ((with_reducible refine apdE_n ?_); (with_reducible refine apdN.mk ?_ ?_ ?_ ?_ ?_ ?_); (focus rfl); (focus (exact one_all (by rfl))); (focus (simp; done)); (focus ((try simp only [LN] at *) <;> omega)); (focus ((try simp only [LN] at *) <;> omega)))
    | ((with_reducible refine apdE_k ?_); (with_reducible refine apkN.mk ⟨_, rfl, ?_⟩ ?_); (focus omega); (with_reducible refine apdN.mk ?_ ?_ ?_ ?_ ?_ ?_); (focus rfl); (focus (exact one_all (by rfl))); (focus (simp; done)); (focus ((try simp only [LN] at *) <;> omega)); (focus ((try simp only [LN] at *) <;> omega)))
    | ((with_reducible refine apz0N_mk _ ?_ ?_ ?_ ?_ ?_); (focus (first | rfl | exact (Int.toNat_of_nonneg (by omega)).symm)); (focus ((try simp only [LN] at *) <;> omega)); (focus ((try simp only [LN] at *) <;> omega)); (focus ((try simp only [LN] at *) <;> omega)))
    | ((with_reducible refine posE_pos ?_ ?_); (focus ((try simp only [LN] at *) <;> omega)))
    | ((with_reducible refine posE_nil ?_ ?_); (focus rfl))
    | ((with_reducible apply rowN_mk); (focus rfl))
    | ((with_reducible apply ixN_lit); (focus (exact rfl)); (focus (exact rfl)))
    | ((with_reducible apply ixN_litp); (focus (exact rfl)); (focus ((try simp only [LN] at *) <;> omega)))
    | ((with_reducible refine eqN_mk2 ?_ ?_); (focus rfl))
    | ((with_reducible refine posN_mk2 ?_ ?_); (focus (first | decide | ((try simp only [LN] at *) <;> omega))))
    | ((with_reducible refine apdE_r ?_); (with_reducible refine aprN.mk ⟨_, rfl, ?_⟩ ?_ ?_ ?_ ?_); (focus ((try simp only [LN] at *) <;> omega)); (focus (first | rfl | (simp; done) | ((try simp only [LN] at *) <;> omega))); (focus (first | exact one_all (by rfl) | exact one_map (fun _ => rfl) | exact one_map2 (fun _ => rfl) | exact one_drop (fun _ => rfl))); (focus ((try simp only [LN] at *) <;> omega)))
    | ((with_reducible refine apdE_k ?_); (with_reducible refine apkN.mk ⟨_, rfl, ?_⟩ ?_); (focus ((try simp only [LN] at *) <;> omega)))
    | with_reducible first | refine apdE_n ?_
    | ((with_reducible refine slE_a ?_ ?_); (focus ((try simp only [LN] at *) <;> omega)))
    | ((with_reducible refine slE_b ?_ ?_); (focus ((try simp only [LN] at *) <;> omega)))
    | ((with_reducible refine slE_split ?_ ?_ ?_); (focus ((try simp only [LN] at *) <;> omega)); (all_goals intro _))
    | ((with_reducible refine apdN.mk ?_ ?_ ?_ ?_ ?_ ?_); (focus (first | rfl | (simp; done))); (focus (first | exact one_all (by rfl) | exact one_map (fun _ => rfl) | exact one_map2 (fun _ => rfl))); (focus ((try simp only [LN] at *) <;> omega)); (focus ((try simp only [LN] at *) <;> omega)); (focus ((try simp only [LN] at *) <;> omega)))
    | ((with_reducible refine cpyN.mk ?_ ?_ ?_ ?_); (focus (first | rfl | (simp; done))); (focus (first | exact one_all (by rfl) | exact one_map (fun _ => rfl) | exact one_map2 (fun _ => rfl))); (focus ((try simp only [LN] at *) <;> omega)))
    | with_reducible refine wr_i64 (by first | omega | (simp only [LN] at *; omega)) ?_
    | with_reducible refine wr_u64 (by omega) ?_
    | with_reducible refine wr_u8 (by omega) ?_
    | with_reducible refine wr_u32 (by omega) ?_
    | with_reducible first | refine wr_mk _ rfl ?_
    | ((with_reducible refine ixN_nat ?_ ?_); (focus ((try simp only [LN] at *) <;> omega)))
    | ((with_reducible refine rowN_map ?_ ?_); (focus ((try simp only [LN] at *) <;> omega)); intro x hx)
    | ((with_reducible refine posE_nil (by rfl) ?_))
    | ((with_reducible refine posE_pos (by decide) ?_))
    | with_reducible refine eqN_dec (by omega) ?_
    | with_reducible first | refine apN_mk (by kernel_rfl) ?_ | refine Z.callZ_in tabOk 34 Try.f32 _ Try.func32 (by kernel_rfl) rfl rfl rfl ?_ | refine Z.callZ_in tabOk 9 Try.f36 _ Try.func36 (by kernel_rfl) rfl rfl rfl ?_ | refine Z.callZ_in tabOk 21 Try.f35 _ Try.func35 (by kernel_rfl) rfl rfl rfl ?_ | refine Z.callZ_in tabOk 21 Try.f33 _ Try.func33 (by kernel_rfl) rfl rfl rfl ?_ | refine Z.callZ_in tabOk 95 Try.f37 _ Try.func37 (by kernel_rfl) rfl rfl rfl ?_ | refine Z.callZ_in tabOk 10 Try.f63 _ Try.func63 (by kernel_rfl) rfl rfl rfl ?_ | refine Z.callZ_in tabOk 14 Try.f68 _ Try.func68 (by kernel_rfl) rfl rfl rfl ?_ | refine Z.callZ_in tabOk 28 Try.f70 _ Try.func70 (by kernel_rfl) rfl rfl rfl ?_ | refine Z.callZ_in tabOk 29 Try.f31 _ Try.func31 (by kernel_rfl) rfl rfl rfl ?_
    | ((first | (with_reducible refine Z.conZ_mz ?_ (ca) ?_) | (with_reducible refine Z.callZ_mk ?_ (ca) ?_) | (with_reducible refine Z.conZ_mz ?_ (ck) ?_) | (with_reducible refine Z.callZ_mk ?_ (ck) ?_) | (with_reducible refine Z.conZ_mz ?_ (cw) ?_) | (with_reducible refine Z.callZ_mk ?_ (cw) ?_) | (with_reducible refine Z.conZ_mz ?_ (cp) ?_) | (with_reducible refine Z.callZ_mk ?_ (cp) ?_)); (focus ((repeat' (first | exact trivial | exact rfl | exact Z.low_nil | exact Z.low_nil2 | exact low_osl (fun _ => rfl) | (refine Z.low_osln ?_ (fun _ => rfl); (simp only [List.length_map]; done)) | exact low_oslr (fun _ => rfl) | exact Z.low_gslm (by first | rfl | exact Z.kb_some rfl) (fun _ => rfl) | exact .inl rfl | exact .inr ⟨_, rfl⟩ | apply And.intro)); done)))
    | ((with_reducible refine eqN_mk2 ?_ ?_); (focus (exact Z.kb_some rfl)))
    | ((with_reducible apply ex_and); exact rfl)
    | with_reducible first | refine Z.drawZ_rule tabOk mixOk ?_ | refine Z.apZ_mk (by kernel_rfl) ?_
    | ((with_reducible refine Z.ConZ.red ?_); (try subst hlb); (apply Z.conZ_all); (focus (repeat (first | exact Z.FK.nil | (apply Z.FK.keep; exact rfl)))); (focus rfl); (focus rfl); (focus (repeat (first | exact trivial | (refine ⟨(fun o ho => (by first | (cases ho; rfl) | (cases ho; exact Z.inL_map fun _ => rfl) | (cases ho; exact Z.inL_mapr fun _ => rfl) | exact Z.inL_gB ho fun _ => rfl)), ?_⟩)))))
    | ((refine ⟨rfl, ?_, rfl⟩); (focus (repeat (first | exact Z.DK.nil | apply Z.DK.cons))))
    | (focus (exact (rfl : Nat.ble _ _ = true))))
  all_goals (try (conv => whnf))
  all_goals try (show Nat.ble _ _ = true; rfl)
  all_goals first
  | (refine Z.retF2 [.agg [.osl 6 0 (0 + 1) none, .ro true 2 (ps.map eL)], .one (.v (.int .i64 0))] (by rfl) ⟨⟨(Z.frz_osl (l := [(⟨a, c⟩ : Wk)]) (f := cW) (ty := 27) (bx := false) (by rfl) (by simp) (fun _ => rfl)), rfl, trivial⟩, rfl, trivial⟩)
  | (refine Z.retF2 [.agg [.osl 6 0 (1) none, .ro true 2 (ps.map eL)], .one (.v (.int .i64 0))] (by rfl) ⟨⟨(Z.frz_osl (l := [(⟨a, c⟩ : Wk)]) (f := cW) (ty := 27) (bx := false) (by rfl) (by simp) (fun _ => rfl)), rfl, trivial⟩, rfl, trivial⟩)
  | (refine Z.retF2 [.agg [.osl 7 0 (0 + 1) none, .ro true 2 (ps.map eL)], .one (.v (.int .i64 0))] (by rfl) ⟨⟨(Z.frz_osl (l := [(⟨a, c⟩ : Wk)]) (f := cW) (ty := 27) (bx := false) (by rfl) (by simp) (fun _ => rfl)), rfl, trivial⟩, rfl, trivial⟩)
  | (refine Z.retF2 [.agg [.osl 7 0 (1) none, .ro true 2 (ps.map eL)], .one (.v (.int .i64 0))] (by rfl) ⟨⟨(Z.frz_osl (l := [(⟨a, c⟩ : Wk)]) (f := cW) (ty := 27) (bx := false) (by rfl) (by simp) (fun _ => rfl)), rfl, trivial⟩, rfl, trivial⟩)
  | (refine Z.retF2 [.agg [.osl 8 0 (0 + 1) none, .ro true 2 (ps.map eL)], .one (.v (.int .i64 0))] (by rfl) ⟨⟨(Z.frz_osl (l := [(⟨a, c⟩ : Wk)]) (f := cW) (ty := 27) (bx := false) (by rfl) (by simp) (fun _ => rfl)), rfl, trivial⟩, rfl, trivial⟩)
  | (refine Z.retF2 [.agg [.osl 8 0 (1) none, .ro true 2 (ps.map eL)], .one (.v (.int .i64 0))] (by rfl) ⟨⟨(Z.frz_osl (l := [(⟨a, c⟩ : Wk)]) (f := cW) (ty := 27) (bx := false) (by rfl) (by simp) (fun _ => rfl)), rfl, trivial⟩, rfl, trivial⟩)
  | (refine Z.retF2 [.agg [.osl 9 0 (0 + 1) none, .ro true 2 (ps.map eL)], .one (.v (.int .i64 0))] (by rfl) ⟨⟨(Z.frz_osl (l := [(⟨a, c⟩ : Wk)]) (f := cW) (ty := 27) (bx := false) (by rfl) (by simp) (fun _ => rfl)), rfl, trivial⟩, rfl, trivial⟩)
  | (refine Z.retF2 [.agg [.osl 9 0 (1) none, .ro true 2 (ps.map eL)], .one (.v (.int .i64 0))] (by rfl) ⟨⟨(Z.frz_osl (l := [(⟨a, c⟩ : Wk)]) (f := cW) (ty := 27) (bx := false) (by rfl) (by simp) (fun _ => rfl)), rfl, trivial⟩, rfl, trivial⟩)
  | (refine Z.retF2 [.agg [.osl 10 0 (0 + 1) none, .ro true 2 (ps.map eL)], .one (.v (.int .i64 0))] (by rfl) ⟨⟨(Z.frz_osl (l := [(⟨a, c⟩ : Wk)]) (f := cW) (ty := 27) (bx := false) (by rfl) (by simp) (fun _ => rfl)), rfl, trivial⟩, rfl, trivial⟩)
  | (refine Z.retF2 [.agg [.osl 10 0 (1) none, .ro true 2 (ps.map eL)], .one (.v (.int .i64 0))] (by rfl) ⟨⟨(Z.frz_osl (l := [(⟨a, c⟩ : Wk)]) (f := cW) (ty := 27) (bx := false) (by rfl) (by simp) (fun _ => rfl)), rfl, trivial⟩, rfl, trivial⟩)
  | (refine Z.retF2 [.agg [.gsl 8 [cW ⟨a, c⟩], .ro true 2 (ps.map eL)], .one (.v (.int .i64 0))] (by rfl) ⟨⟨⟨2, 27, _, rfl, rfl, rfl⟩, rfl, trivial⟩, rfl, trivial⟩)
  | (fail)

end Go.Proofs.Ytllnmdmmmkoiaaa
namespace Go.Proofs.Ytllnmdmmmkoiaaa
open Go Go.RowKit Wx
set_option linter.unusedVariables false
set_option linter.unusedSimpArgs false
set_option maxHeartbeats 4000000
/-- What Come tells: the workers, the places, and whether it was refused. -/
def comeT (ws : List Wk) (ps : List Pl) (a c : Int) : List Wk × List Pl × Int :=
  if okF ws ps = true then
    if (1 ≤ a ∧ a ≤ 4) ∧ 1 ≤ c ∧ c ≤ 8 then
      if idxW ws a < ws.length then ([], [], 5) else (ws.take (gtW ws a) ++ ⟨a, c⟩ :: ws.drop (gtW ws a), ps, 0)
    else ([], [], 2)
  else ([], [], 210)
theorem come_con (ws : List Wk) (ps : List Pl) (a c : Int) (hw : ws.length ≤ 1000) (hp : ps.length ≤ 1000) : Con Try.prog 12 [.agg [.ro false 2 (ws.map eW), .ro false 2 (ps.map eL)], .agg [.v (.int .i64 a), .v (.int .i64 c)]] (fun rx rK rt => rx = .tup [.agg [.ro true 2 ((comeT ws ps a c).1.map eW), .ro true 2 ((comeT ws ps a c).2.1.map eL)], .one (.v (.int .i64 (comeT ws ps a c).2.2))] ∧ rK = [] ∧ rt = 0) := by
  by_cases hk : okF ws ps = true
  · by_cases hv : (1 ≤ a ∧ a ≤ 4) ∧ 1 ≤ c ∧ c ≤ 8
    · by_cases hno : idxW ws a < ws.length
      · rw [show comeT ws ps a c = ([], [], 5) by unfold comeT; rw [if_pos hk, if_pos hv, if_pos hno]]
        exact come_there ws ps a c hw hp hk hv hno
      · rw [show comeT ws ps a c = (ws.take (gtW ws a) ++ ⟨a, c⟩ :: ws.drop (gtW ws a), ps, 0) by unfold comeT; rw [if_pos hk, if_pos hv, if_neg hno]]
        by_cases hg : gtW ws a < ws.length
        · exact come_n ws ps a c (gtW ws a) hw hp hk hv hno rfl hg
        · have hl : gtW ws a = ws.length := by
            have : gtW ws a ≤ ws.length := List.findIdx_le_length
            omega
          rw [hl, List.take_length, List.drop_length]
          cases ws with
          | nil => exact con_nilagg (come_0n ps a c hp hk hv) (fun ad cap => come_0e ad cap ps a c hp hk hv)
          | cons w ws => exact come_e (w :: ws) ps a c hw hp hk hv hno hl (by simp)
    · rw [show comeT ws ps a c = ([], [], 2) by unfold comeT; rw [if_pos hk, if_neg hv]]
      exact come_arg ws ps a c hw hp hk hv
  · rw [show comeT ws ps a c = ([], [], 210) by unfold comeT; rw [if_neg hk]]
    exact come_bad ws ps a c hw hp (by cases h : okF ws ps <;> simp_all)
end Go.Proofs.Ytllnmdmmmkoiaaa
namespace Go.Proofs.Ytllnmdmmmkoiaaa
open Go Go.RowKit Wx
set_option linter.unusedVariables false
set_option linter.unusedSimpArgs false
set_option maxHeartbeats 4000000
/-! ### Come, as the document has it -/
def insW (a c : Int) : List Wk → List Wk
  | [] => [⟨a, c⟩]
  | w :: l => if a < w.id then ⟨a, c⟩ :: w :: l else w :: insW a c l
theorem insW_eq {a c : Int} : ∀ {ws : List Wk}, ws.take (gtW ws a) ++ ⟨a, c⟩ :: ws.drop (gtW ws a) = insW a c ws
  | [] => rfl
  | w :: l => by
    unfold gtW insW
    rw [List.findIdx_cons]
    by_cases h : a < w.id
    · rw [if_pos h, decide_eq_true h]; rfl
    · rw [if_neg h, decide_eq_false h]
      show w :: (List.take (gtW l a) l ++ _ :: List.drop (gtW l a) l) = _
      rw [insW_eq]
theorem slF_no {y : Int} : ∀ {ws : List Wk}, (∀ w ∈ ws, w.id ≠ y) → slF ws y = 0
  | [], _ => rfl
  | w :: l, h => by rw [slF, if_neg (h w (by simp)), slF_no fun z hz => h z (List.mem_cons_of_mem _ hz)]
end Go.Proofs.Ytllnmdmmmkoiaaa
