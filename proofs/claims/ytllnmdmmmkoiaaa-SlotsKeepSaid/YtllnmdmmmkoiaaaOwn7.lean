import Derived.Test.YtllnmdmmmkoiaaaOwn6
import Derived.Test.YtllnmdmmmkoiaaaLib5
namespace Go.Proofs.Ytllnmdmmmkoiaaa
open Go Go.RowKit Wx
set_option linter.unusedVariables false
set_option linter.unusedSimpArgs false
set_option maxHeartbeats 4000000
/-- A record whose second field is a slice of nothing: nil, or empty. -/
theorem con_nil2 {P : Program} {g : FuncId} {sz : Nat} {c0 : Ce} {cs : List Ce} {av : List A0} {post : AV → Wx.Kr → Nat → Prop} (h0 : Con P g (.agg (c0 :: .v (.slice none 0 0) :: cs) :: av) post) (h1 : ∀ ad cap, Con P g (.agg (c0 :: .v (.slice (some ad) 0 cap) :: cs) :: av) post) : Con P g (.agg (c0 :: .ro false sz [] :: cs) :: av) post := by
  refine ⟨h0.fn, fun w vs hvs => ?_⟩
  cases vs with
  | nil => exact hvs.elim
  | cons v vs =>
    obtain ⟨⟨us, rfl, hus⟩, hvs⟩ := hvs
    cases us with
    | nil => exact hus.elim
    | cons u0 us => cases us with
      | nil => exact hus.2.elim
      | cons u us =>
        obtain ⟨hu0, hu, hus⟩ := hus
        have hu : Rd _ (.ro sz []) u := hu
        cases hu with
        | nil => exact h0.run w _ ⟨⟨_, rfl, hu0, rfl, hus⟩, hvs⟩
        | emp _ ad cap => exact (h1 ad cap).run w _ ⟨⟨_, rfl, hu0, rfl, hus⟩, hvs⟩
        | ro => exact (h1 _ _).run w _ ⟨⟨_, rfl, hu0, rfl, hus⟩, hvs⟩
theorem con_emp2 {P : Program} {g : FuncId} {sz : Nat} {c0 : Ce} {cs : List Ce} {av : List A0} {post : AV → Wx.Kr → Nat → Prop} (ad : Addr) (cap : Nat) (h : Con P g (.agg (c0 :: .ro false sz [] :: cs) :: av) post) : Con P g (.agg (c0 :: .v (.slice (some ad) 0 cap) :: cs) :: av) post := by
  refine ⟨h.fn, fun w vs hvs => ?_⟩
  cases vs with
  | nil => exact hvs.elim
  | cons v vs =>
    obtain ⟨⟨us, rfl, hus⟩, hvs⟩ := hvs
    cases us with
    | nil => exact hus.elim
    | cons u0 us => cases us with
      | nil => exact hus.2.elim
      | cons u us =>
        obtain ⟨hu0, hu, hus⟩ := hus
        have hu : u = .slice (some ad) 0 cap := hu
        subst hu
        exact h.run w _ ⟨⟨_, rfl, hu0, (show Rd _ (.ro sz []) _ from .emp _ ad cap), hus⟩, hvs⟩
theorem clonep_0   : Con Try.prog 60 [.one (.v (.slice none 0 0))] (fun rx rK rt => rx = .val (.slice none 0 0) ∧ rK = [] ∧ rt = 0) := by
  refine con_of tabOk 8 Try.f60 _ Try.func60 (by kernel_rfl) rfl rfl rfl rfl (fun W => ?_)
  repeat' ((conv => whnf); first
    | with_reducible first | refine spB_t ?_)
  all_goals (try (conv => whnf))
  refine ret1 [.one (.v (.slice none 0 0))] rfl [] (.val (.slice none 0 0)) [] rfl trivial List.nodup_nil rfl ?_ (fun p hp => nomatch hp) ⟨rfl, rfl, rfl⟩
  intro p b hp; cases hp

theorem clonep_1 (ad : Addr) (cap : Nat)  : Con Try.prog 60 [.one (.v (.slice (some ad) 0 cap))] (fun rx rK rt => rx = .c (.osl 0 0 0 (some 0)) ∧ rK = [(0, some ⟨[], 2, 66, false⟩)] ∧ rt = 1) := by
  refine con_of tabOk 8 Try.f60 _ Try.func60 (by kernel_rfl) rfl rfl rfl rfl (fun W => ?_)
  repeat' ((conv => whnf); first
    | with_reducible first | refine spB_no (by decide) ?_
    | ((with_reducible refine apdE_r ?_); (with_reducible refine aprN.mk ⟨_, rfl, ?_⟩ ?_ ?_ ?_ ?_); (focus ((try simp only [LN] at *) <;> omega)); (focus (first | rfl)); (focus (first | exact one_all (by rfl))); (focus ((try simp only [LN] at *) <;> omega))))
  all_goals (try (conv => whnf))
  refine ret1b 0 (.c (.osl 0 0 0 (some 0))) [] 2 66 false _ rfl ?_ rfl ?_ rfl rfl (fun r hr => nomatch hr) ⟨rfl, rfl, rfl⟩
  all_goals rfl

theorem lay_0n (ws : List Wk) (ts : List Int) (hw : ws.length ≤ 1000) (ht : ts.length ≤ 1000) (hk : okF ws [] = true) (hwt : wantT ws [] ts = 0) : Con Try.prog 18 [.agg [.ro false 2 (ws.map eW), .v (.slice none 0 0)], .one (.ro false 1 (ts.map eI))] (fun rx rK rt => rx = .tup [.agg [.ro true 2 ((ws).map eW), .ro true 2 (((layT ws [] ts)).map eL)], .one (.v (.int .i64 0))] ∧ rK = [] ∧ rt = 0) := by
  refine Z.con_ofF tabOk 11 Try.f18 _ Try.func18 (by kernel_rfl) rfl rfl rfl rfl ?_
  have ck := check_con ws [] (by omega) (by (try simp only [LN] at *) <;> omega)
  rw [hk] at ck
  simp only [cond_true] at ck
  have cw := wanted_con ws [] ts hw (by (try simp only [LN] at *) <;> omega) ht hk
  rw [hwt] at cw
  have cc := clonew_f3 ws hw
  have cp := clonep_0
  obtain ⟨hkw, hkp, hkc⟩ := okF_all hk
  have hwl := okW_len hkw
  have hpl := okT_len hkp
  have hsw := (okW_all.1 hkw).1
  repeat' ((conv => whnf); first
    | ((with_reducible apply spB_cong); (focus (simp only [beq_self_eq_true, bne_self_eq_false, Bool.true_bne, Bool.false_bne, Bool.bne_true, Bool.bne_false, Bool.true_beq, Bool.false_beq, Bool.not_true, Bool.not_false, Bool.not_not, Int.reduceBEq, Int.reduceBNe, Int.reduceLE, Int.reduceLT, Int.reduceEq, decide_true, decide_false]; rfl)))
    | with_reducible first | refine spB_no (by decide) ?_
    | with_reducible first | refine Z.callZ_in tabOk 52 Try.f45 _ Try.func45 (by kernel_rfl) rfl rfl rfl ?_ | refine Z.callZ_in tabOk 36 Try.f47 _ Try.func47 (by kernel_rfl) rfl rfl rfl ?_ | refine Z.callZ_in tabOk 29 Try.f31 _ Try.func31 (by kernel_rfl) rfl rfl rfl ?_
    | ((first | (with_reducible refine Z.callZ_mk ?_ (cw) ?_) | (with_reducible refine Z.callZ_mk ?_ (ck) ?_) | (with_reducible refine Z.conZ_mz ?_ (cc) ?_) | (with_reducible refine Z.conZ_mz ?_ (cp) ?_)); (focus ((repeat' (first | exact trivial | exact rfl | exact Z.low_nil | exact .inl rfl | apply And.intro)); done)))
    | with_reducible first | refine Z.drawZ_rule tabOk mixOk ?_ | refine Z.apZ_mk (by kernel_rfl) ?_)
  all_goals (try (conv => whnf))
  all_goals try (show Nat.ble _ _ = true; rfl)
  all_goals try (exfalso; rename_i hz; cases hz; done)
  all_goals try (exfalso; (try simp only [LN] at *) <;> omega)
  refine Z.loopK tabOk (fun zq : Nat × Y.MS => [(12, .val (.int .i64 (zq.1 : Int)))]) (fun zq : Nat × Y.MS => ([(7, some (Z.Ob.m zq.2))] : Z.Kr)) (fun zq => zq.1 ≤ ws.length ∧ Z.MapL .i64 enI zq.2 (mapW (ws.take zq.1))) (fun zq => ws.length - zq.1) (0, ⟨[], 0⟩) 8 [(1, _), (3, _), (10, _), (11, _)] ⟨rfl, rfl, rfl, rfl, trivial⟩ [(0, some _), (1, some _), (2, some _), (3, some _), (4, some _), (5, some _), (6, some _)] ⟨rfl, rfl, rfl, rfl, rfl, rfl, rfl, trivial⟩ ?_ ?_ rfl rfl ⟨Nat.zero_le _, Z.MapL.nil⟩ ?_
  · repeat' (first | exact trivial | apply And.intro | exact ⟨_, rfl, Z.Imp.refl _⟩)
  · repeat' (first | exact trivial | exact (fun b hb => ⟨b, hb, Z.ImpO.refl b⟩) | apply And.intro)
  rintro ⟨i2, es⟩ HINV
  dsimp only at HINV ⊢
  obtain ⟨HI2, HM⟩ := HINV
  by_cases hi2 : i2 < ws.length
  · obtain ⟨w, hx⟩ := getElem?_some' (xs := ws) (i := i2) hi2
    repeat' ((conv => whnf); first
      | (with_reducible refine spB_dec ?_ ?_ <;> intro _ <;> (try (exfalso; first | contradiction | omega | (rename_i hz; refine hz ?_; simp; done) | (rename_i hz; simp at hz; done) | (simp only [LN] at *; omega))))
      | with_reducible first | refine Z.rowN_known hx ?_
      | ((with_reducible refine Z.MapL.upd' HM (v := w.sl) ?_ ?_); (focus rfl); (intro es3 HM))
      | ((with_reducible apply ixN_litp); (focus (exact rfl)); (focus ((try simp only [LN] at *) <;> omega)))
      | with_reducible refine wr_i64 (by first | omega | (simp only [LN] at *; omega)) ?_)
    all_goals (try (conv => whnf))
    all_goals try (show Nat.ble _ _ = true; rfl)
    all_goals first
      | ((refine Z.rndK ((i2 + 1, es3)) (fun s => [0, 1, 2, 3, 4, 5, 6, 7]) rfl rfl rfl rfl ?_ ?_ ?_ ?_); (focus (repeat' (first | exact trivial | exact rfl | apply And.intro))); (focus (repeat' (first | exact trivial | exact Z.map_sub (Z.MapL.ren HM fun _ => rfl) rfl | (intro b hb; cases hb; rfl) | apply And.intro))); (focus (refine ⟨by dsimp only; omega, ?_⟩; (try dsimp only); rw [← mapW_snoc hsw hx]; exact HM)); ((try dsimp only); omega))
  have hw9 := take_end hi2
  rw [hw9] at HM
  repeat' ((conv => whnf); first
    | (with_reducible refine spB_dec ?_ ?_ <;> intro _ <;> (try (exfalso; first | contradiction | omega | (rename_i hz; refine hz ?_; simp; done) | (rename_i hz; simp at hz; done) | (simp only [LN] at *; omega)))))
  all_goals (try (conv => whnf))
  all_goals try (show Nat.ble _ _ = true; rfl)
  all_goals try (exfalso; (try simp only [LN] at *) <;> omega)
  refine Z.loopK tabOk (fun zq : Nat × Y.MS => [(25, .val (.int .i64 (zq.1 : Int)))]) (fun zq : Nat × Y.MS => ([(7, some (Z.Ob.m zq.2))] : Z.Kr)) (fun zq => zq.1 ≤ ([] : List Pl).length ∧ ∃ L, Z.MapL .i64 enI zq.2 L ∧ (∀ y, (Z.lookK L y).getD 0 = slF ws y - cnt (([] : List Pl).take zq.1) y) ∧ sumK L = sumW ws - (zq.1 : Int)) (fun zq => ([] : List Pl).length - zq.1) (0, es) 8 [(3, _), (23, _), (24, _)] ⟨rfl, rfl, rfl, trivial⟩ [(0, some _), (1, some _), (2, some _), (3, some _), (4, some _), (5, some _), (6, some _)] ⟨rfl, rfl, rfl, rfl, rfl, rfl, rfl, trivial⟩ ?_ ?_ rfl rfl ⟨Nat.zero_le _, _, HM, fun y => by rw [look_mapW]; simp [cnt], by rw [sum_mapW]; simp⟩ ?_
  · repeat' (first | exact trivial | apply And.intro | exact ⟨_, rfl, Z.Imp.refl _⟩)
  · repeat' (first | exact trivial | exact (fun b hb => ⟨b, hb, Z.ImpO.refl b⟩) | apply And.intro)
  rintro ⟨j2, es⟩ HINV
  dsimp only at HINV ⊢
  obtain ⟨HJ2, L, HM, HL, HS⟩ := HINV
  by_cases hj2 : j2 < ([] : List Pl).length
  · obtain ⟨q, hx⟩ := getElem?_some' (xs := ([] : List Pl)) (i := j2) hj2
    have hv1 := HL q.wk
    have hv2 := okW_sl hkw q.wk
    have hv3 := cnt_nn (ps := ([] : List Pl).take j2) (y := q.wk)
    have hv4 : (([] : List Pl).take j2).length ≤ 16 := by rw [List.length_take]; omega
    have hsp := sum_put (L := L) (k := q.wk) (v := (Z.lookK L q.wk).getD 0 - 1)
    repeat' ((conv => whnf); first
      | (with_reducible refine spB_dec ?_ ?_ <;> intro _ <;> (try (exfalso; first | contradiction | omega | (rename_i hz; refine hz ?_; simp; done) | (rename_i hz; simp at hz; done) | (simp only [LN] at *; omega)))))
    all_goals (try (conv => whnf))
    all_goals try (show Nat.ble _ _ = true; rfl)
    all_goals first
      | ((refine Z.rndK ((j2 + 1, es3)) (fun s => [0, 1, 2, 3, 4, 5, 6, 7]) rfl rfl rfl rfl ?_ ?_ ?_ ?_); (focus (repeat' (first | apply And.intro))); (focus (repeat' (first | apply And.intro))); (focus (refine ⟨by dsimp only; omega, _, HM, free_step hx HL rfl, ?_⟩; (try dsimp only); omega)); ((try dsimp only); omega))
  have hp9 := take_end hj2
  rw [hp9] at HL
  have hjl : j2 = ([] : List Pl).length := by omega
  subst hjl
  repeat' ((conv => whnf); first
    | with_reducible first | refine spB_no (by decide) ?_
    | ((with_reducible apply ex_and); exact rfl))
  all_goals (try (conv => whnf))
  all_goals try (show Nat.ble _ _ = true; rfl)
  all_goals try (exfalso; rename_i hz; cases hz; done)
  all_goals try (exfalso; (try simp only [LN] at *) <;> omega)
  refine Z.loopK tabOk (fun zq : Nat × Option (List Pl) × Y.MS => [(21, .val (.int .i64 (zq.1 : Int)))]) (fun zq : Nat × Option (List Pl) × Y.MS => ([(5, some (Z.Ob.b ⟨[[.ro true 2 (ws.map eW), cel (.v (.slice none 0 0)) 8 zq.2.1]], 2, 25, true⟩)), (7, some (Z.Ob.m zq.2.2)), (8, bln zq.2.1)] : Z.Kr)) (fun zq => zq.1 ≤ ts.length ∧ (zq.2.1.getD []).length = ([] : List Pl).length + zq.1 ∧ layT ws [] ts = layT ws (zq.2.1.getD []) (ts.drop zq.1) ∧ ∃ L, Z.MapL .i64 enI zq.2.2 L ∧ ∀ y, (Z.lookK L y).getD 0 = leftF ws (zq.2.1.getD []) y) (fun zq => ts.length - zq.1) (0, none, es) 9 [(0, _), (1, _), (6, _), (19, _), (20, _)] ⟨rfl, rfl, rfl, rfl, rfl, trivial⟩ [(0, some _), (1, some _), (2, some _), (3, some _), (4, some _)] ⟨rfl, rfl, rfl, rfl, rfl, trivial⟩ ?_ ?_ rfl rfl ⟨Nat.zero_le _, rfl, rfl, L, HM, HL⟩ ?_
  · repeat' (first | exact trivial | apply And.intro | exact ⟨_, rfl, Z.Imp.refl _⟩)
  · repeat' (first | exact trivial | (intro b hb; cases hb; done) | exact (fun b hb => ⟨b, hb, Z.ImpO.refl b⟩) | apply And.intro)
  rintro ⟨i, o, es⟩ HINV
  dsimp only at HINV ⊢
  clear HM HL HS
  obtain ⟨HI, HAl, HO, L, HM, HL⟩ := HINV
  rcases o with _ | A
  · dsimp only [cel, blo, bln, Option.getD_none] at HAl HO HL ⊢
    by_cases hi : i < ts.length
    rotate_left
    · have hlay : ([] : List Pl) = layT ws [] ts := by rw [HO, List.drop_eq_nil_of_le (by omega)]; rfl
      rw [← hlay]
      repeat' ((conv => whnf); first
        | ((with_reducible apply spB_cong); (focus (simp only [beq_self_eq_true, bne_self_eq_false, Bool.true_bne, Bool.false_bne, Bool.bne_true, Bool.bne_false, Bool.true_beq, Bool.false_beq, Bool.not_true, Bool.not_false, Bool.not_not, Int.reduceBEq, Int.reduceBNe, Int.reduceLE, Int.reduceLT, Int.reduceEq, decide_true, decide_false]; rfl)))
        | with_reducible first | refine spB_no (by decide) ?_
        | (with_reducible refine spB_dec ?_ ?_ <;> intro _ <;> (try (exfalso; first | contradiction | omega | (rename_i hz; refine hz ?_; simp; done) | (rename_i hz; simp at hz; done) | (simp only [LN] at *; omega))))
        | ((with_reducible apply ex_and); exact rfl))
      all_goals (try (conv => whnf))
      all_goals try (show Nat.ble _ _ = true; rfl)
      all_goals first
        | ((first | (with_reducible apply Z.retF2)); (focus (exact rfl)); (repeat' (first | exact trivial | (with_reducible apply Z.frz_one) | (with_reducible apply Z.frz_agg) | (with_reducible apply Z.fq_int) | (exact Z.frz_nil) | (with_reducible apply Z.fq_ro) | exact rfl | apply And.intro)); (all_goals (try exact (fun _ => none))); all_goals (first | (simp; done)))
    obtain ⟨t, hx⟩ := getElem?_some' (xs := ts) (i := i) hi
    repeat' ((conv => whnf); first
      | (with_reducible refine spB_dec ?_ ?_ <;> intro _ <;> (try (exfalso; first | contradiction | omega | (rename_i hz; refine hz ?_; simp; done) | (rename_i hz; simp at hz; done) | (simp only [LN] at *; omega))))
      | with_reducible first | refine Z.rowN_known hx ?_
      | ((with_reducible apply ixN_litp); (focus (exact rfl)); (focus ((try simp only [LN] at *) <;> omega)))
      | with_reducible first | refine Z.callZ_in tabOk 31 Try.f48 _ Try.func48 (by kernel_rfl) rfl rfl rfl ?_)
    all_goals (try (conv => whnf))
    all_goals try (show Nat.ble _ _ = true; rfl)
    all_goals try (exfalso; rename_i hz; cases hz; done)
    all_goals try (exfalso; (try simp only [LN] at *) <;> omega)
    refine Z.loopK tabOk (fun zq : Nat × Int => [(11, .val (.int .i64 (zq.1 : Int))), (5, .val (.int .i64 zq.2))]) (fun zq : Nat × Int => ([] : Z.Kr)) (fun zq => zq.1 ≤ ws.length ∧ roomF (leftF ws []) ws 0 = roomF (leftF ws []) (ws.drop zq.1) zq.2) (fun zq => ws.length - zq.1) (0, 0) 11 [(1, _), (9, _), (10, _)] ⟨rfl, rfl, rfl, trivial⟩ [(0, some _), (1, some _), (2, some _), (3, some _), (4, some _), (5, some _), (7, some _), (9, some _), (10, some _)] ⟨rfl, rfl, rfl, rfl, rfl, rfl, rfl, rfl, rfl, trivial⟩ ?_ ?_ rfl rfl ⟨Nat.zero_le _, rfl⟩ ?_
    · repeat' (first | exact trivial | apply And.intro | exact ⟨_, rfl, Z.Imp.refl _⟩)
    · repeat' (first | exact trivial)
    rintro ⟨j, bb⟩ HINV
    dsimp only at HINV ⊢
    obtain ⟨HJ, HR⟩ := HINV
    by_cases hj : j < ws.length
    · obtain ⟨w, hy⟩ := getElem?_some' (xs := ws) (i := j) hj
      have h1 := HL w.id
      have h2 := HL bb
      repeat' ((conv => whnf); first
        | with_reducible first | refine spB_t ?_
        | with_reducible first | refine spB_no (by decide) ?_
        | (with_reducible refine spB_dec ?_ ?_ <;> intro _ <;> (try (exfalso; first | contradiction | omega | (rename_i hz; refine hz ?_; simp; done) | (rename_i hz; simp at hz; done) | (simp only [LN] at *; omega))))
        | (with_reducible refine spB_beq ?_ ?_ <;> intro _ <;> (try (exfalso; first | contradiction | omega | (rename_i hz; refine hz ?_; simp; done) | (rename_i hz; simp at hz; done) | (simp only [LN] at *; omega))))
        | with_reducible first | refine Z.rowN_known hy ?_
        | ((with_reducible refine Z.MapL.look HM (z0 := (0 : Int)) ?_ ?_); (focus rfl))
        | ((with_reducible apply ixN_litp); (focus (exact rfl)); (focus ((try simp only [LN] at *) <;> omega)))
        | with_reducible refine wr_i64 (by first | omega | (simp only [LN] at *; omega)) ?_)
      all_goals (try (conv => whnf))
      all_goals try (show Nat.ble _ _ = true; rfl)
      all_goals first
        | ((refine Z.rndK ((j + 1, w.id)) (fun s => [0, 1, 2, 3, 4, 5, 6, 7, 8, 9, 10]) rfl rfl rfl rfl ?_ ?_ ?_ ?_); (focus (repeat' (first | exact trivial | exact rfl | apply And.intro))); (focus (repeat' (first | exact trivial | exact Z.map_sub (Z.MapL.ren HM fun _ => rfl) rfl | (intro b hb; cases hb; rfl) | apply And.intro))); (focus (refine ⟨by (try dsimp only); omega, ?_⟩; (try dsimp only); rw [HR, drop_cons hy, roomF, if_pos (by first | (left; omega) | (right; omega))])); ((try dsimp only); omega))
        | ((refine Z.rndK ((j + 1, bb)) (fun s => [0, 1, 2, 3, 4, 5, 6, 7, 8, 9, 10]) rfl rfl rfl rfl ?_ ?_ ?_ ?_); (focus (repeat' (first | exact trivial | exact rfl | apply And.intro))); (focus (repeat' (first | exact trivial | exact Z.map_sub (Z.MapL.ren HM fun _ => rfl) rfl | (intro b hb; cases hb; rfl) | apply And.intro))); (focus (refine ⟨by (try dsimp only); omega, ?_⟩; (try dsimp only); rw [HR, drop_cons hy, roomF, if_neg (by omega)])); ((try dsimp only); omega))
    rw [drop_end hj, roomF] at HR
    have hlb := HL bb
    have hb1 := okW_sl hkw bb
    have hb2 := cnt_nn (ps := []) (y := bb)
    have hlb2 : (Z.lookK L bb).getD 0 = slF ws bb - cnt [] bb := hlb
    have hAle : ([] : List Pl).length ≤ 1016 := by (try simp only [LN] at *) <;> omega
    repeat' ((conv => whnf); first
      | (with_reducible refine spB_dec ?_ ?_ <;> intro _ <;> (try (exfalso; first | contradiction | omega | (rename_i hz; refine hz ?_; simp; done) | (rename_i hz; simp at hz; done) | (simp only [LN] at *; omega))))
      | ((with_reducible refine Z.MapL.look HM (z0 := (0 : Int)) ?_ ?_); (focus rfl))
      | ((with_reducible refine Z.MapL.upd' HM (v := (Z.lookK L bb).getD 0 - 1) ?_ ?_); (focus rfl); (intro es3 HM))
      | with_reducible refine wr_i64 (by first | omega | (simp only [LN] at *; omega)) ?_
      | with_reducible first | refine Z.callZ_in tabOk 21 Try.f49 _ Try.func49 (by kernel_rfl) rfl rfl rfl ?_
      | ((with_reducible apply ex_and); exact rfl))
    all_goals (try (conv => whnf))
    all_goals try (show Nat.ble _ _ = true; rfl)
    all_goals try (exfalso; rename_i hz; cases hz; done)
    all_goals try (exfalso; (try simp only [LN] at *) <;> omega)
    have hgl : gtT [] t ≤ ([] : List Pl).length := gtT_le
    generalize hgk : gtT [] t = k at *
    have hins : insT [] ⟨t, bb⟩ = [(⟨t, bb⟩ : Pl)] := rfl
    · have hkA : k = 0 := by simp at hgl; omega
      subst hkA
      repeat' ((conv => whnf); first
        | with_reducible first | refine spB_t ?_
        | ((with_reducible apply spB_cong); (focus (simp only [beq_self_eq_true, bne_self_eq_false, Bool.true_bne, Bool.false_bne, Bool.bne_true, Bool.bne_false, Bool.true_beq, Bool.false_beq, Bool.not_true, Bool.not_false, Bool.not_not, Int.reduceBEq, Int.reduceBNe, Int.reduceLE, Int.reduceLT, Int.reduceEq, decide_true, decide_false]; rfl)))
        | with_reducible first | refine spB_no (by decide) ?_
        | ((with_reducible refine Z.ConZ.red ?_); (apply Z.conZ_insn (N := [(⟨t, bb⟩ : Pl)].length) (B := ⟨[(⟨t, bb⟩ : Pl)].map cL, 2, 66, false⟩)); (focus rfl); (focus (repeat (first | exact Z.FK.nil | (apply Z.FK.keep; exact rfl) | (apply Z.FK.drop; exact rfl)))); (focus (repeat (first | exact trivial | (refine ⟨(fun o ho => (by first | (cases ho; rfl) | (cases ho; exact Z.inL_map fun _ => rfl) | (cases ho; exact Z.inL_mapr fun _ => rfl) | exact Z.inL_gB ho fun _ => rfl)), ?_⟩)))); (focus rfl); (focus (exact Z.inL_map fun _ => rfl)))
        | ((with_reducible refine Z.slN_lo 0 ?_ ?_ ?_); (focus rfl); (focus ((try simp only [LN] at *) <;> omega)))
        | with_reducible first | refine Z.loopZ_unroll tabOk 3 ?_
        | ((with_reducible refine posE_pos ?_ ?_); (focus ((try simp only [LN] at *) <;> omega)))
        | ((with_reducible refine apdN.mk ?_ ?_ ?_ ?_ ?_ ?_); (focus (first | rfl)); (focus (first | exact one_all (by rfl))); (focus ((try simp only [LN] at *) <;> omega)); (focus ((try simp only [LN] at *) <;> omega)); (focus ((try simp only [LN] at *) <;> omega)))
        | with_reducible refine wr_i64 (by first | omega | (simp only [LN] at *; omega)) ?_
        | with_reducible first | refine Z.callZ_in tabOk 95 Try.f51 _ Try.func51 (by kernel_rfl) rfl rfl rfl ?_
        | ((with_reducible apply ex_and); exact rfl)
        | with_reducible first | refine Z.drawZ_rule tabOk mixOk ?_ | refine Z.apZ_mk (by kernel_rfl) ?_)
      all_goals (try (conv => whnf))
      all_goals try (show Nat.ble _ _ = true; rfl)
      all_goals first
        | (refine ⟨Nat.le_of_ble_eq_true rfl, _, _, rfl, rfl, rfl, rfl, by simp⟩)
        | ((refine Z.rndK ((i + 1, some [(⟨t, bb⟩ : Pl)], es3)) (fun s => [0, 1, 2, 3, 4, 5, 6, 7, s.idIn 5 1]) rfl rfl rfl rfl ?_ ?_ ?_ ?_); (focus (repeat' (first | exact trivial | exact rfl | apply And.intro))); (focus (repeat' (first | exact trivial | exact Z.map_sub (Z.MapL.ren HM fun _ => rfl) rfl | (intro b hb; cases hb; rfl) | apply And.intro))); (focus (refine ⟨by (try dsimp only); omega, by (try dsimp only [Option.getD_some]); rw [← hins, insT_len]; (try simp only [LN] at *) <;> omega, by (try dsimp only [Option.getD_some]); rw [← hins]; exact layT_step hx HR HO, _, HM, ?_⟩; (try dsimp only [Option.getD_some]); rw [← hins]; exact lay_step (p := ⟨t, bb⟩) HL rfl)); ((try dsimp only); omega))
  · dsimp only [cel, blo, bln, Option.getD_some] at HAl HO HL ⊢
    by_cases hi : i < ts.length
    rotate_left
    · have hlay : A = layT ws [] ts := by rw [HO, List.drop_eq_nil_of_le (by omega)]; rfl
      rw [← hlay]
      repeat' ((conv => whnf); first
        | ((with_reducible apply spB_cong); (focus (simp only [beq_self_eq_true, bne_self_eq_false, Bool.true_bne, Bool.false_bne, Bool.bne_true, Bool.bne_false, Bool.true_beq, Bool.false_beq, Bool.not_true, Bool.not_false, Bool.not_not, Int.reduceBEq, Int.reduceBNe, Int.reduceLE, Int.reduceLT, Int.reduceEq, decide_true, decide_false]; rfl)))
        | with_reducible first | refine spB_no (by decide) ?_
        | (with_reducible refine spB_dec ?_ ?_ <;> intro _ <;> (try (exfalso; first | contradiction | omega | (rename_i hz; refine hz ?_; simp; done) | (rename_i hz; simp at hz; done) | (simp only [LN] at *; omega))))
        | ((with_reducible apply ex_and); exact rfl))
      all_goals (try (conv => whnf))
      all_goals try (show Nat.ble _ _ = true; rfl)
      all_goals first
        | (refine Z.retF2 [.agg [.ro true 2 (ws.map eW), .osl 8 0 A.length none], .one (.v (.int .i64 0))] (by rfl) ⟨⟨rfl, (Z.frz_osl (l := A) (f := cL) (ty := 66) (bx := false) (by rfl) rfl (fun _ => rfl)), trivial⟩, rfl, trivial⟩)
    obtain ⟨t, hx⟩ := getElem?_some' (xs := ts) (i := i) hi
    repeat' ((conv => whnf); first
      | (with_reducible refine spB_dec ?_ ?_ <;> intro _ <;> (try (exfalso; first | contradiction | omega | (rename_i hz; refine hz ?_; simp; done) | (rename_i hz; simp at hz; done) | (simp only [LN] at *; omega))))
      | with_reducible first | refine Z.rowN_known hx ?_
      | ((with_reducible apply ixN_litp); (focus (exact rfl)); (focus ((try simp only [LN] at *) <;> omega)))
      | with_reducible first | refine Z.callZ_in tabOk 31 Try.f48 _ Try.func48 (by kernel_rfl) rfl rfl rfl ?_)
    all_goals (try (conv => whnf))
    all_goals try (show Nat.ble _ _ = true; rfl)
    all_goals try (exfalso; rename_i hz; cases hz; done)
    all_goals try (exfalso; (try simp only [LN] at *) <;> omega)
    refine Z.loopK tabOk (fun zq : Nat × Int => [(11, .val (.int .i64 (zq.1 : Int))), (5, .val (.int .i64 zq.2))]) (fun zq : Nat × Int => ([] : Z.Kr)) (fun zq => zq.1 ≤ ws.length ∧ roomF (leftF ws A) ws 0 = roomF (leftF ws A) (ws.drop zq.1) zq.2) (fun zq => ws.length - zq.1) (0, 0) 11 [(1, _), (9, _), (10, _)] ⟨rfl, rfl, rfl, trivial⟩ [(0, some _), (1, some _), (2, some _), (3, some _), (4, some _), (5, some _), (7, some _), (8, some _), (9, some _), (10, some _)] ⟨rfl, rfl, rfl, rfl, rfl, rfl, rfl, rfl, rfl, rfl, trivial⟩ ?_ ?_ rfl rfl ⟨Nat.zero_le _, rfl⟩ ?_
    · repeat' (first | exact trivial | apply And.intro | exact ⟨_, rfl, Z.Imp.refl _⟩)
    · repeat' (first | exact trivial)
    rintro ⟨j, bb⟩ HINV
    dsimp only at HINV ⊢
    obtain ⟨HJ, HR⟩ := HINV
    by_cases hj : j < ws.length
    · obtain ⟨w, hy⟩ := getElem?_some' (xs := ws) (i := j) hj
      have h1 := HL w.id
      have h2 := HL bb
      repeat' ((conv => whnf); first
        | with_reducible first | refine spB_t ?_
        | with_reducible first | refine spB_no (by decide) ?_
        | (with_reducible refine spB_dec ?_ ?_ <;> intro _ <;> (try (exfalso; first | contradiction | omega | (rename_i hz; refine hz ?_; simp; done) | (rename_i hz; simp at hz; done) | (simp only [LN] at *; omega))))
        | (with_reducible refine spB_beq ?_ ?_ <;> intro _ <;> (try (exfalso; first | contradiction | omega | (rename_i hz; refine hz ?_; simp; done) | (rename_i hz; simp at hz; done) | (simp only [LN] at *; omega))))
        | with_reducible first | refine Z.rowN_known hy ?_
        | ((with_reducible refine Z.MapL.look HM (z0 := (0 : Int)) ?_ ?_); (focus rfl))
        | ((with_reducible apply ixN_litp); (focus (exact rfl)); (focus ((try simp only [LN] at *) <;> omega)))
        | with_reducible refine wr_i64 (by first | omega | (simp only [LN] at *; omega)) ?_)
      all_goals (try (conv => whnf))
      all_goals try (show Nat.ble _ _ = true; rfl)
      all_goals first
        | ((refine Z.rndK ((j + 1, w.id)) (fun s => [0, 1, 2, 3, 4, 5, 6, 7, 8, 9, 10]) rfl rfl rfl rfl ?_ ?_ ?_ ?_); (focus (repeat' (first | exact trivial | exact rfl | apply And.intro))); (focus (repeat' (first | exact trivial | exact Z.map_sub (Z.MapL.ren HM fun _ => rfl) rfl | (intro b hb; cases hb; rfl) | exact Z.blk_sub rfl rfl (ren_map fun _ => rfl) | apply And.intro))); (focus (refine ⟨by (try dsimp only); omega, ?_⟩; (try dsimp only); rw [HR, drop_cons hy, roomF, if_pos (by first | (left; omega) | (right; omega))])); ((try dsimp only); omega))
        | ((refine Z.rndK ((j + 1, bb)) (fun s => [0, 1, 2, 3, 4, 5, 6, 7, 8, 9, 10]) rfl rfl rfl rfl ?_ ?_ ?_ ?_); (focus (repeat' (first | exact trivial | exact rfl | apply And.intro))); (focus (repeat' (first | exact trivial | exact Z.map_sub (Z.MapL.ren HM fun _ => rfl) rfl | (intro b hb; cases hb; rfl) | exact Z.blk_sub rfl rfl (ren_map fun _ => rfl) | apply And.intro))); (focus (refine ⟨by (try dsimp only); omega, ?_⟩; (try dsimp only); rw [HR, drop_cons hy, roomF, if_neg (by omega)])); ((try dsimp only); omega))
    rw [drop_end hj, roomF] at HR
    have hlb := HL bb
    have hb1 := okW_sl hkw bb
    have hb2 := cnt_nn (ps := A) (y := bb)
    have hlb2 : (Z.lookK L bb).getD 0 = slF ws bb - cnt A bb := hlb
    have hAle : A.length ≤ 1016 := by (try simp only [LN] at *) <;> omega
    repeat' ((conv => whnf); first
      | (with_reducible refine spB_dec ?_ ?_ <;> intro _ <;> (try (exfalso; first | contradiction | omega | (rename_i hz; refine hz ?_; simp; done) | (rename_i hz; simp at hz; done) | (simp only [LN] at *; omega))))
      | ((with_reducible refine Z.MapL.look HM (z0 := (0 : Int)) ?_ ?_); (focus rfl))
      | ((with_reducible refine Z.MapL.upd' HM (v := (Z.lookK L bb).getD 0 - 1) ?_ ?_); (focus rfl); (intro es3 HM))
      | with_reducible refine wr_i64 (by first | omega | (simp only [LN] at *; omega)) ?_
      | with_reducible first | refine Z.callZ_in tabOk 21 Try.f49 _ Try.func49 (by kernel_rfl) rfl rfl rfl ?_
      | ((with_reducible apply ex_and); exact rfl))
    all_goals (try (conv => whnf))
    all_goals try (show Nat.ble _ _ = true; rfl)
    all_goals try (exfalso; rename_i hz; cases hz; done)
    all_goals try (exfalso; (try simp only [LN] at *) <;> omega)
    have hgl : gtT A t ≤ A.length := gtT_le
    generalize hgk : gtT A t = k at *
    have hins : insT A ⟨t, bb⟩ = A.take k ++ (⟨t, bb⟩ : Pl) :: A.drop k := by unfold insT; rw [hgk]
    by_cases hkl : k < A.length
    · skip
      refine Z.loopK tabOk (fun zq : Nat => [(9, .val (.int .i64 (zq : Int)))]) (fun zq : Nat => ([] : Z.Kr)) (fun zq => zq ≤ k) (fun zq => A.length - zq) 0 11 [(0, _), (1, _), (7, _), (8, _)] ⟨rfl, rfl, rfl, rfl, trivial⟩ [(0, some _), (1, some _), (2, some _), (3, some _), (4, some _), (5, some _), (7, some _), (8, some _), (9, some _), (10, some _)] ⟨rfl, rfl, rfl, rfl, rfl, rfl, rfl, rfl, rfl, rfl, trivial⟩ ?_ ?_ rfl rfl (Nat.zero_le _) ?_
      · repeat' (first | exact trivial | apply And.intro | exact ⟨_, rfl, Z.Imp.refl _⟩)
      · repeat' (first | exact trivial)
      rintro q HINV
      dsimp only at HINV ⊢
      obtain ⟨x, hy⟩ := getElem?_some' (xs := A) (i := q) (by omega)
      by_cases hj : q < k
      · have hxa : ¬ t < x.task := gtT_lt hgk hj hy
        repeat' ((conv => whnf); first
          | (with_reducible refine spB_dec ?_ ?_ <;> intro _ <;> (try (exfalso; first | contradiction | omega | (rename_i hz; refine hz ?_; simp; done) | (rename_i hz; simp at hz; done) | (simp only [LN] at *; omega))))
          | ((with_reducible refine rowN_mk (cL x) ?_ ?_); (focus (show (List.map cL A)[0 + q]? = some (cL x); rw [Nat.zero_add, List.getElem?_map, hy]; rfl)))
          | ((with_reducible apply ixN_litp); (focus (exact rfl)); (focus ((try simp only [LN] at *) <;> omega)))
          | with_reducible refine wr_i64 (by first | omega | (simp only [LN] at *; omega)) ?_
          | with_reducible first | refine Z.callZ_in tabOk 8 Try.f50 _ Try.func50 (by kernel_rfl) rfl rfl rfl ?_
          | ((with_reducible apply ex_and); exact rfl))
        all_goals (try (conv => whnf))
        all_goals try (show Nat.ble _ _ = true; rfl)
        all_goals first
          | ((refine Z.rndK ((q + 1)) (fun s => [0, 1, 2, 3, 4, 5, 6, 7, 8, 9, 10]) rfl rfl rfl rfl ?_ ?_ ?_ ?_); (focus (repeat' (first | exact trivial | exact rfl | apply And.intro))); (focus (repeat' (first | exact trivial | exact Z.map_sub (Z.MapL.ren HM fun _ => rfl) rfl | (intro b hb; cases hb; rfl) | exact Z.blk_sub rfl rfl (ren_map fun _ => rfl) | apply And.intro))); (focus (omega)); ((try dsimp only); omega))
      have hji : q = k := by omega
      subst hji
      have hxa : t < x.task := gtT_at hgk hy
      repeat' ((conv => whnf); first
        | with_reducible first | refine spB_t ?_
        | ((with_reducible apply spB_cong); (focus (simp only [beq_self_eq_true, bne_self_eq_false, Bool.true_bne, Bool.false_bne, Bool.bne_true, Bool.bne_false, Bool.true_beq, Bool.false_beq, Bool.not_true, Bool.not_false, Bool.not_not, Int.reduceBEq, Int.reduceBNe, Int.reduceLE, Int.reduceLT, Int.reduceEq, decide_true, decide_false]; rfl)))
        | with_reducible first | refine spB_no (by decide) ?_
        | (with_reducible refine spB_dec ?_ ?_ <;> intro _ <;> (try (exfalso; first | contradiction | omega | (rename_i hz; refine hz ?_; simp; done) | (rename_i hz; simp at hz; done) | (simp only [LN] at *; omega))))
        | (with_reducible refine spB_beq ?_ ?_ <;> intro _ <;> (try (exfalso; first | contradiction | omega | (rename_i hz; refine hz ?_; simp; done) | (rename_i hz; simp at hz; done) | (simp only [LN] at *; omega))))
        | ((with_reducible refine Z.ConZ.red ?_); (apply Z.conZ_ins (N := (A.take q ++ (⟨t, bb⟩ : Pl) :: A.drop q).length) (B := ⟨(A.take q ++ (⟨t, bb⟩ : Pl) :: A.drop q).map cL, 2, 66, false⟩)); (focus rfl); (focus (repeat (first | exact Z.FK.nil | (apply Z.FK.keep; exact rfl) | (apply Z.FK.drop; exact rfl)))); (focus (repeat (first | exact trivial | (refine ⟨(fun o ho => (by first | (cases ho; rfl) | (cases ho; exact Z.inL_map fun _ => rfl) | (cases ho; exact Z.inL_mapr fun _ => rfl) | exact Z.inL_gB ho fun _ => rfl)), ?_⟩)))); (focus rfl); (focus (exact Z.inL_map fun _ => rfl)))
        | ((apply Z.callZ_capS (n := A.length)); (focus (exact rfl)); (focus (simp; done)); (intro capv hcapv; refine ⟨fun hcap => ?_, fun hcap gv hgv => ?_⟩))
        | ((with_reducible apply Z.callZ_ovl (tS := 23) (tR := 4) tabOk Try.f65 Try.func65 (by kernel_rfl) (by kernel_rfl) (by kernel_rfl) (by kernel_rfl)); (iterate 4 (focus (exact rfl))); (focus (exact Nat.ne_of_beq_eq_false rfl)); (focus (simp; done)); (focus (exact Nat.zero_lt_succ _)))
        | ((with_reducible refine Z.slN_lo (q) ?_ ?_ ?_); (focus rfl); (focus ((try simp only [LN] at *) <;> omega)))
        | ((with_reducible refine Z.slN_lo (q + 1) ?_ ?_ ?_); (focus rfl); (focus ((try simp only [LN] at *) <;> omega)))
        | ((with_reducible refine slN_hi (q) ?_ ?_ ?_); (focus rfl); (focus ((try simp only [LN] at *) <;> omega)))
        | ((with_reducible refine slN_hc (A.length + 1) ?_ ?_ ?_); (focus rfl); (focus (exact ⟨_, rfl, by omega⟩)))
        | ((with_reducible refine apzE_k ?_); (with_reducible refine apzK_mk (A.length + 1 - q) ⟨_, rfl, ?_⟩ ?_ ?_ ?_ ?_ ?_ ?_); (focus ((try simp only [LN] at *) <;> omega)); (focus ((try simp only [LN] at *) <;> omega)); (focus (exact g_le (f := cL) rfl (by omega))); (iterate 2 (focus ((try simp only [LN] at *) <;> omega))); (focus rfl))
        | ((with_reducible refine cpyN.mk ?_ ?_ ?_ ?_); (focus rfl); (focus (exact one_all (by rfl))); (focus (exact g_fit (f := cL) rfl (by omega) (by (try simp only [LN] at *) <;> omega))))
        | ((with_reducible refine cpyN.mk ?_ ?_ ?_ ?_); (focus (exact g_len (f := cL) rfl (by (try simp only [LN] at *) <;> omega))); (focus (exact g_one cL_one rfl)); (focus (exact g_fit2 (f := cL) rfl (by omega) (by (try simp only [LN] at *) <;> omega) gS_len)))
        | ((with_reducible refine cpyN.mk2 ?_ ?_ ?_ ?_); (focus (exact g_lenp (f := cL) (by (try simp only [LN] at *) <;> omega))); (focus (exact g_onep cL_one (g_min (by (try simp only [LN] at *) <;> omega)))); (focus (exact g_fitp (f := cL) (by (try simp only [LN] at *) <;> omega))))
        | ((with_reducible refine cpyN.mk ?_ ?_ ?_ ?_); (focus rfl); (focus (exact one_all (by rfl))); (focus (exact g_fitp2 (f := cL) (by (try simp only [LN] at *) <;> omega) (g_fitk (by (try simp only [LN] at *) <;> omega)))))
        | ((with_reducible refine rowN_mk (cL x) ?_ ?_); (focus (show (List.map cL A)[0 + q]? = some (cL x); rw [Nat.zero_add, List.getElem?_map, hy]; rfl)))
        | ((with_reducible apply ixN_litp); (focus (exact rfl)); (focus ((try simp only [LN] at *) <;> omega)))
        | ((with_reducible refine slE_a ?_ ?_); (focus ((try simp only [LN] at *) <;> omega)))
        | with_reducible refine wr_i64 (by first | omega | (simp only [LN] at *; omega)) ?_
        | with_reducible first | refine Z.callZ_in tabOk 8 Try.f50 _ Try.func50 (by kernel_rfl) rfl rfl rfl ?_ | refine Z.callZ_in tabOk 95 Try.f51 _ Try.func51 (by kernel_rfl) rfl rfl rfl ?_
        | ((with_reducible apply ex_and); exact rfl)
        | with_reducible first | refine Z.drawZ_rule tabOk mixOk ?_ | refine Z.apZ_mk (by kernel_rfl) ?_)
      all_goals (try (conv => whnf))
      all_goals try (show Nat.ble _ _ = true; rfl)
      all_goals first
        | (refine ⟨Nat.le_of_ble_eq_true rfl, _, _, _, _, rfl, rfl, ?_, ?_⟩; (focus ((try simp only [LN]) <;> omega)); (exact g_ins (f := cL) rfl (by omega) rfl (gS_eq (by omega) rfl) (gT_eq (f := cL) rfl (Nat.le_min.2 ⟨by omega, by omega⟩) (by omega))))
        | (refine ⟨Nat.le_of_ble_eq_true rfl, _, _, _, _, rfl, rfl, ?_, ?_⟩; (focus ((try simp only [LN]) <;> omega)); (exact g_insp (f := cL) (by omega) (gS_eq (by omega) rfl) (gT_eqp (f := cL) (by omega) (.inl ⟨(Nat.min_eq_right (by omega)).trans (by omega), by omega⟩))))
        | ((refine Z.rndK ((i + 1, some (A.take q ++ (⟨t, bb⟩ : Pl) :: A.drop q), es3)) (fun s => [0, 1, 2, 3, 4, 5, 6, 7, s.idIn 5 1]) rfl rfl rfl rfl ?_ ?_ ?_ ?_); (focus (repeat' (first | exact trivial | exact rfl | apply And.intro))); (focus (repeat' (first | exact trivial | exact Z.map_sub (Z.MapL.ren HM fun _ => rfl) rfl | (intro b hb; cases hb; rfl) | exact Z.blk_sub rfl rfl (ren_map fun _ => rfl) | apply And.intro))); (focus (refine ⟨by (try dsimp only); omega, by (try dsimp only [Option.getD_some]); rw [← hins, insT_len]; (try simp only [LN] at *) <;> omega, by (try dsimp only [Option.getD_some]); rw [← hins]; exact layT_step hx HR HO, _, HM, ?_⟩; (try dsimp only [Option.getD_some]); rw [← hins]; exact lay_step (p := ⟨t, bb⟩) HL rfl)); ((try dsimp only); omega))
    · have hkA : k = A.length := by omega
      rw [hkA, List.take_length, List.drop_length] at hins
      refine Z.loopK tabOk (fun zq : Nat => [(9, .val (.int .i64 (zq : Int)))]) (fun zq : Nat => ([] : Z.Kr)) (fun zq => zq ≤ k) (fun zq => A.length - zq) 0 11 [(0, _), (1, _), (7, _), (8, _)] ⟨rfl, rfl, rfl, rfl, trivial⟩ [(0, some _), (1, some _), (2, some _), (3, some _), (4, some _), (5, some _), (7, some _), (8, some _), (9, some _), (10, some _)] ⟨rfl, rfl, rfl, rfl, rfl, rfl, rfl, rfl, rfl, rfl, trivial⟩ ?_ ?_ rfl rfl (Nat.zero_le _) ?_
      · repeat' (first | exact trivial | apply And.intro | exact ⟨_, rfl, Z.Imp.refl _⟩)
      · repeat' (first | exact trivial)
      rintro q HINV
      dsimp only at HINV ⊢
      by_cases hj : q < A.length
      · obtain ⟨x, hy⟩ := getElem?_some' (xs := A) (i := q) hj
        have hxa : ¬ t < x.task := gtT_lt hgk (by omega) hy
        repeat' ((conv => whnf); first
          | (with_reducible refine spB_dec ?_ ?_ <;> intro _ <;> (try (exfalso; first | contradiction | omega | (rename_i hz; refine hz ?_; simp; done) | (rename_i hz; simp at hz; done) | (simp only [LN] at *; omega))))
          | ((with_reducible refine rowN_mk (cL x) ?_ ?_); (focus (show (List.map cL A)[0 + q]? = some (cL x); rw [Nat.zero_add, List.getElem?_map, hy]; rfl)))
          | ((with_reducible apply ixN_litp); (focus (exact rfl)); (focus ((try simp only [LN] at *) <;> omega)))
          | with_reducible refine wr_i64 (by first | omega | (simp only [LN] at *; omega)) ?_
          | with_reducible first | refine Z.callZ_in tabOk 8 Try.f50 _ Try.func50 (by kernel_rfl) rfl rfl rfl ?_
          | ((with_reducible apply ex_and); exact rfl))
        all_goals (try (conv => whnf))
        all_goals try (show Nat.ble _ _ = true; rfl)
        all_goals first
          | ((refine Z.rndK ((q + 1)) (fun s => [0, 1, 2, 3, 4, 5, 6, 7, 8, 9, 10]) rfl rfl rfl rfl ?_ ?_ ?_ ?_); (focus (repeat' (first | exact trivial | exact rfl | apply And.intro))); (focus (repeat' (first | exact trivial | exact Z.map_sub (Z.MapL.ren HM fun _ => rfl) rfl | (intro b hb; cases hb; rfl) | exact Z.blk_sub rfl rfl (ren_map fun _ => rfl) | apply And.intro))); (focus (omega)); ((try dsimp only); omega))
      have hji : q = A.length := by omega
      subst hji
      repeat' ((conv => whnf); first
        | with_reducible first | refine spB_t ?_
        | ((with_reducible apply spB_cong); (focus (simp only [beq_self_eq_true, bne_self_eq_false, Bool.true_bne, Bool.false_bne, Bool.bne_true, Bool.bne_false, Bool.true_beq, Bool.false_beq, Bool.not_true, Bool.not_false, Bool.not_not, Int.reduceBEq, Int.reduceBNe, Int.reduceLE, Int.reduceLT, Int.reduceEq, decide_true, decide_false]; rfl)))
        | with_reducible first | refine spB_no (by decide) ?_
        | (with_reducible refine spB_dec ?_ ?_ <;> intro _ <;> (try (exfalso; first | contradiction | omega | (rename_i hz; refine hz ?_; simp; done) | (rename_i hz; simp at hz; done) | (simp only [LN] at *; omega))))
        | ((with_reducible refine Z.ConZ.red ?_); (apply Z.conZ_ins (N := (A ++ [(⟨t, bb⟩ : Pl)]).length) (B := ⟨(A ++ [(⟨t, bb⟩ : Pl)]).map cL, 2, 66, false⟩)); (focus rfl); (focus (repeat (first | exact Z.FK.nil | (apply Z.FK.keep; exact rfl) | (apply Z.FK.drop; exact rfl)))); (focus (repeat (first | exact trivial | (refine ⟨(fun o ho => (by first | (cases ho; rfl) | (cases ho; exact Z.inL_map fun _ => rfl) | (cases ho; exact Z.inL_mapr fun _ => rfl) | exact Z.inL_gB ho fun _ => rfl)), ?_⟩)))); (focus rfl); (focus (exact Z.inL_map fun _ => rfl)))
        | ((apply Z.callZ_capS (n := A.length)); (focus (exact rfl)); (focus (simp; done)); (intro capv hcapv; refine ⟨fun hcap => ?_, fun hcap gv hgv => ?_⟩))
        | ((with_reducible refine Z.slN_lo (A.length) ?_ ?_ ?_); (focus rfl); (focus ((try simp only [LN] at *) <;> omega)))
        | ((with_reducible refine apdE_r ?_); (with_reducible refine aprN.mk ⟨_, rfl, ?_⟩ ?_ ?_ ?_ ?_); (focus omega); (focus rfl); (focus (exact one_all (by rfl))); (focus (simp; done)))
        | ((with_reducible refine apdE_k ?_); (with_reducible refine apkN.mk ⟨_, rfl, ?_⟩ ?_); (focus omega); (with_reducible refine apdN.mk ?_ ?_ ?_ ?_ ?_ ?_); (focus rfl); (focus (exact one_all (by rfl))); (focus (simp; done)); (focus ((try simp only [LN] at *) <;> omega)); (focus ((try simp only [LN] at *) <;> omega)))
        | ((with_reducible refine slE_b ?_ ?_); (focus ((try simp only [LN] at *) <;> omega)))
        | with_reducible refine wr_i64 (by first | omega | (simp only [LN] at *; omega)) ?_
        | with_reducible first | refine Z.callZ_in tabOk 95 Try.f51 _ Try.func51 (by kernel_rfl) rfl rfl rfl ?_
        | ((with_reducible apply ex_and); exact rfl)
        | with_reducible first | refine Z.drawZ_rule tabOk mixOk ?_ | refine Z.apZ_mk (by kernel_rfl) ?_)
      all_goals (try (conv => whnf))
      all_goals try (show Nat.ble _ _ = true; rfl)
      all_goals first
        | (refine ⟨Nat.le_of_ble_eq_true rfl, _, _, _, _, rfl, rfl, ?_, ?_⟩; (focus ((try simp only [LN]) <;> omega)); (exact g_app (f := cL) rfl rfl))
        | (refine ⟨Nat.le_of_ble_eq_true rfl, _, _, _, _, rfl, rfl, ?_, ?_⟩; (focus ((try simp only [LN]) <;> omega)); (exact g_appr (f := cL) rfl rfl))
        | ((refine Z.rndK ((i + 1, some (A ++ [(⟨t, bb⟩ : Pl)]), es3)) (fun s => [0, 1, 2, 3, 4, 5, 6, 7, s.idIn 5 1]) rfl rfl rfl rfl ?_ ?_ ?_ ?_); (focus (repeat' (first | exact trivial | exact rfl | apply And.intro))); (focus (repeat' (first | exact trivial | exact Z.map_sub (Z.MapL.ren HM fun _ => rfl) rfl | (intro b hb; cases hb; rfl) | exact Z.blk_sub rfl rfl (ren_map fun _ => rfl) | apply And.intro))); (focus (refine ⟨by (try dsimp only); omega, by (try dsimp only [Option.getD_some]); rw [← hins, insT_len]; (try simp only [LN] at *) <;> omega, by (try dsimp only [Option.getD_some]); rw [← hins]; exact layT_step hx HR HO, _, HM, ?_⟩; (try dsimp only [Option.getD_some]); rw [← hins]; exact lay_step (p := ⟨t, bb⟩) HL rfl)); ((try dsimp only); omega))

end Go.Proofs.Ytllnmdmmmkoiaaa
namespace Go.Proofs.Ytllnmdmmmkoiaaa
open Go Go.RowKit Wx
set_option linter.unusedVariables false
set_option linter.unusedSimpArgs false
set_option maxHeartbeats 4000000
theorem lay_0e (ad : Addr) (cap : Nat) (ws : List Wk) (ts : List Int) (hw : ws.length ≤ 1000) (ht : ts.length ≤ 1000) (hk : okF ws [] = true) (hwt : wantT ws [] ts = 0) : Con Try.prog 18 [.agg [.ro false 2 (ws.map eW), .v (.slice (some ad) 0 cap)], .one (.ro false 1 (ts.map eI))] (fun rx rK rt => rx = .tup [.agg [.ro true 2 ((ws).map eW), .ro true 2 (((layT ws [] ts)).map eL)], .one (.v (.int .i64 0))] ∧ rK = [] ∧ rt = 0) := by
  refine Z.con_ofF tabOk 11 Try.f18 _ Try.func18 (by kernel_rfl) rfl rfl rfl rfl ?_
  have ck := check_con ws [] (by omega) (by (try simp only [LN] at *) <;> omega)
  rw [hk] at ck
  simp only [cond_true] at ck
  have cw := wanted_con ws [] ts hw (by (try simp only [LN] at *) <;> omega) ht hk
  rw [hwt] at cw
  have cc := clonew_f3 ws hw
  have ck := con_emp2 ad cap ck
  have cw := con_emp2 ad cap cw
  have cp := clonep_1 ad cap
  obtain ⟨hkw, hkp, hkc⟩ := okF_all hk
  have hwl := okW_len hkw
  have hpl := okT_len hkp
  have hsw := (okW_all.1 hkw).1
  repeat' ((conv => whnf); first
    | ((with_reducible apply spB_cong); (focus (simp only [beq_self_eq_true, bne_self_eq_false, Bool.true_bne, Bool.false_bne, Bool.bne_true, Bool.bne_false, Bool.true_beq, Bool.false_beq, Bool.not_true, Bool.not_false, Bool.not_not, Int.reduceBEq, Int.reduceBNe, Int.reduceLE, Int.reduceLT, Int.reduceEq, decide_true, decide_false]; rfl)))
    | with_reducible first | refine spB_no (by decide) ?_
    | with_reducible first | refine Z.callZ_in tabOk 52 Try.f45 _ Try.func45 (by kernel_rfl) rfl rfl rfl ?_ | refine Z.callZ_in tabOk 36 Try.f47 _ Try.func47 (by kernel_rfl) rfl rfl rfl ?_ | refine Z.callZ_in tabOk 29 Try.f31 _ Try.func31 (by kernel_rfl) rfl rfl rfl ?_
    | ((first | (with_reducible refine Z.callZ_mk ?_ (cw) ?_) | (with_reducible refine Z.callZ_mk ?_ (ck) ?_) | (with_reducible refine Z.conZ_mz ?_ (cc) ?_) | (with_reducible refine Z.conZ_mz ?_ (cp) ?_)); (focus ((repeat' (first | exact trivial | exact rfl | apply And.intro)); done)))
    | with_reducible first | refine Z.drawZ_rule tabOk mixOk ?_ | refine Z.apZ_mk (by kernel_rfl) ?_)
  all_goals (try (conv => whnf))
  all_goals try (show Nat.ble _ _ = true; rfl)
  all_goals try (exfalso; rename_i hz; cases hz; done)
  all_goals try (exfalso; (try simp only [LN] at *) <;> omega)
  refine Z.loopK tabOk (fun zq : Nat × Y.MS => [(12, .val (.int .i64 (zq.1 : Int)))]) (fun zq : Nat × Y.MS => ([(8, some (Z.Ob.m zq.2)), (5, some (Z.Ob.b ⟨[], 2, 66, false⟩))] : Z.Kr)) (fun zq => zq.1 ≤ ws.length ∧ Z.MapL .i64 enI zq.2 (mapW (ws.take zq.1))) (fun zq => ws.length - zq.1) (0, ⟨[], 0⟩) 9 [(1, _), (3, _), (10, _), (11, _)] ⟨rfl, rfl, rfl, rfl, trivial⟩ [(0, some _), (1, some _), (2, some _), (3, some _), (4, some _), (6, some _), (7, some _)] ⟨rfl, rfl, rfl, rfl, rfl, rfl, rfl, trivial⟩ ?_ ?_ rfl rfl ⟨Nat.zero_le _, Z.MapL.nil⟩ ?_
  · repeat' (first | exact trivial | apply And.intro | exact ⟨_, rfl, Z.Imp.refl _⟩)
  · repeat' (first | exact trivial | exact (fun b hb => ⟨b, hb, Z.ImpO.refl b⟩) | apply And.intro)
  rintro ⟨i2, es⟩ HINV
  dsimp only at HINV ⊢
  obtain ⟨HI2, HM⟩ := HINV
  by_cases hi2 : i2 < ws.length
  · obtain ⟨w, hx⟩ := getElem?_some' (xs := ws) (i := i2) hi2
    repeat' ((conv => whnf); first
      | (with_reducible refine spB_dec ?_ ?_ <;> intro _ <;> (try (exfalso; first | contradiction | omega | (rename_i hz; refine hz ?_; simp; done) | (rename_i hz; simp at hz; done) | (simp only [LN] at *; omega))))
      | with_reducible first | refine Z.rowN_known hx ?_
      | ((with_reducible refine Z.MapL.upd' HM (v := w.sl) ?_ ?_); (focus rfl); (intro es3 HM))
      | ((with_reducible apply ixN_litp); (focus (exact rfl)); (focus ((try simp only [LN] at *) <;> omega)))
      | with_reducible refine wr_i64 (by first | omega | (simp only [LN] at *; omega)) ?_)
    all_goals (try (conv => whnf))
    all_goals try (show Nat.ble _ _ = true; rfl)
    all_goals first
      | ((refine Z.rndK ((i2 + 1, es3)) (fun s => [0, 1, 2, 3, 4, 5, 6, 7, 8]) rfl rfl rfl rfl ?_ ?_ ?_ ?_); (focus (repeat' (first | exact trivial | exact rfl | apply And.intro))); (focus (repeat' (first | exact trivial | exact Z.map_sub (Z.MapL.ren HM fun _ => rfl) rfl | (intro b hb; cases hb; rfl) | apply And.intro))); (focus (refine ⟨by dsimp only; omega, ?_⟩; (try dsimp only); rw [← mapW_snoc hsw hx]; exact HM)); ((try dsimp only); omega))
  have hw9 := take_end hi2
  rw [hw9] at HM
  repeat' ((conv => whnf); first
    | (with_reducible refine spB_dec ?_ ?_ <;> intro _ <;> (try (exfalso; first | contradiction | omega | (rename_i hz; refine hz ?_; simp; done) | (rename_i hz; simp at hz; done) | (simp only [LN] at *; omega)))))
  all_goals (try (conv => whnf))
  all_goals try (show Nat.ble _ _ = true; rfl)
  all_goals try (exfalso; (try simp only [LN] at *) <;> omega)
  refine Z.loopK tabOk (fun zq : Nat × Y.MS => [(25, .val (.int .i64 (zq.1 : Int)))]) (fun zq : Nat × Y.MS => ([(8, some (Z.Ob.m zq.2)), (5, some (Z.Ob.b ⟨[], 2, 66, false⟩))] : Z.Kr)) (fun zq => zq.1 ≤ ([] : List Pl).length ∧ ∃ L, Z.MapL .i64 enI zq.2 L ∧ (∀ y, (Z.lookK L y).getD 0 = slF ws y - cnt (([] : List Pl).take zq.1) y) ∧ sumK L = sumW ws - (zq.1 : Int)) (fun zq => ([] : List Pl).length - zq.1) (0, es) 9 [(3, _), (23, _), (24, _)] ⟨rfl, rfl, rfl, trivial⟩ [(0, some _), (1, some _), (2, some _), (3, some _), (4, some _), (6, some _), (7, some _)] ⟨rfl, rfl, rfl, rfl, rfl, rfl, rfl, trivial⟩ ?_ ?_ rfl rfl ⟨Nat.zero_le _, _, HM, fun y => by rw [look_mapW]; simp [cnt], by rw [sum_mapW]; simp⟩ ?_
  · repeat' (first | exact trivial | apply And.intro | exact ⟨_, rfl, Z.Imp.refl _⟩)
  · repeat' (first | exact trivial | exact (fun b hb => ⟨b, hb, Z.ImpO.refl b⟩) | apply And.intro)
  rintro ⟨j2, es⟩ HINV
  dsimp only at HINV ⊢
  obtain ⟨HJ2, L, HM, HL, HS⟩ := HINV
  by_cases hj2 : j2 < ([] : List Pl).length
  · obtain ⟨q, hx⟩ := getElem?_some' (xs := ([] : List Pl)) (i := j2) hj2
    have hv1 := HL q.wk
    have hv2 := okW_sl hkw q.wk
    have hv3 := cnt_nn (ps := ([] : List Pl).take j2) (y := q.wk)
    have hv4 : (([] : List Pl).take j2).length ≤ 16 := by rw [List.length_take]; omega
    have hsp := sum_put (L := L) (k := q.wk) (v := (Z.lookK L q.wk).getD 0 - 1)
    repeat' ((conv => whnf); first
      | (with_reducible refine spB_dec ?_ ?_ <;> intro _ <;> (try (exfalso; first | contradiction | omega | (rename_i hz; refine hz ?_; simp; done) | (rename_i hz; simp at hz; done) | (simp only [LN] at *; omega)))))
    all_goals (try (conv => whnf))
    all_goals try (show Nat.ble _ _ = true; rfl)
    all_goals first
      | ((refine Z.rndK ((j2 + 1, es3)) (fun s => [0, 1, 2, 3, 4, 5, 6, 7, 8]) rfl rfl rfl rfl ?_ ?_ ?_ ?_); (focus (repeat' (first | apply And.intro))); (focus (repeat' (first | apply And.intro))); (focus (refine ⟨by dsimp only; omega, _, HM, free_step hx HL rfl, ?_⟩; (try dsimp only); omega)); ((try dsimp only); omega))
  have hp9 := take_end hj2
  rw [hp9] at HL
  have hjl : j2 = ([] : List Pl).length := by omega
  subst hjl
  repeat' ((conv => whnf); first
    | with_reducible first | refine spB_no (by decide) ?_
    | ((with_reducible apply ex_and); exact rfl))
  all_goals (try (conv => whnf))
  all_goals try (show Nat.ble _ _ = true; rfl)
  all_goals try (exfalso; rename_i hz; cases hz; done)
  all_goals try (exfalso; (try simp only [LN] at *) <;> omega)
  refine Z.loopK tabOk (fun zq : Nat × Option (List Pl) × Y.MS => [(21, .val (.int .i64 (zq.1 : Int)))]) (fun zq : Nat × Option (List Pl) × Y.MS => ([(6, some (Z.Ob.b ⟨[[.ro true 2 (ws.map eW), cel (.osl 5 0 0 (some 0)) 9 zq.2.1]], 2, 25, true⟩)), (8, some (Z.Ob.m zq.2.2)), (9, bln zq.2.1), (5, blo (some (.b ⟨[], 2, 66, false⟩)) zq.2.1)] : Z.Kr)) (fun zq => zq.1 ≤ ts.length ∧ (zq.2.1.getD []).length = ([] : List Pl).length + zq.1 ∧ layT ws [] ts = layT ws (zq.2.1.getD []) (ts.drop zq.1) ∧ ∃ L, Z.MapL .i64 enI zq.2.2 L ∧ ∀ y, (Z.lookK L y).getD 0 = leftF ws (zq.2.1.getD []) y) (fun zq => ts.length - zq.1) (0, none, es) 10 [(0, _), (1, _), (6, _), (19, _), (20, _)] ⟨rfl, rfl, rfl, rfl, rfl, trivial⟩ [(0, some _), (1, some _), (2, some _), (3, some _), (4, some _)] ⟨rfl, rfl, rfl, rfl, rfl, trivial⟩ ?_ ?_ rfl rfl ⟨Nat.zero_le _, rfl, rfl, L, HM, HL⟩ ?_
  · repeat' (first | exact trivial | apply And.intro | exact ⟨_, rfl, Z.Imp.refl _⟩)
  · repeat' (first | exact trivial | (intro b hb; cases hb; done) | exact (fun b hb => ⟨b, hb, Z.ImpO.refl b⟩) | apply And.intro)
  rintro ⟨i, o, es⟩ HINV
  dsimp only at HINV ⊢
  clear HM HL HS
  obtain ⟨HI, HAl, HO, L, HM, HL⟩ := HINV
  rcases o with _ | A
  · dsimp only [cel, blo, bln, Option.getD_none] at HAl HO HL ⊢
    by_cases hi : i < ts.length
    rotate_left
    · have hlay : ([] : List Pl) = layT ws [] ts := by rw [HO, List.drop_eq_nil_of_le (by omega)]; rfl
      rw [← hlay]
      repeat' ((conv => whnf); first
        | ((with_reducible apply spB_cong); (focus (simp only [beq_self_eq_true, bne_self_eq_false, Bool.true_bne, Bool.false_bne, Bool.bne_true, Bool.bne_false, Bool.true_beq, Bool.false_beq, Bool.not_true, Bool.not_false, Bool.not_not, Int.reduceBEq, Int.reduceBNe, Int.reduceLE, Int.reduceLT, Int.reduceEq, decide_true, decide_false]; rfl)))
        | with_reducible first | refine spB_no (by decide) ?_
        | (with_reducible refine spB_dec ?_ ?_ <;> intro _ <;> (try (exfalso; first | contradiction | omega | (rename_i hz; refine hz ?_; simp; done) | (rename_i hz; simp at hz; done) | (simp only [LN] at *; omega))))
        | ((with_reducible apply ex_and); exact rfl))
      all_goals (try (conv => whnf))
      all_goals try (show Nat.ble _ _ = true; rfl)
      all_goals first
        | (refine Z.retF2 [.agg [.ro true 2 (ws.map eW), .osl 5 0 0 (some 0)], .one (.v (.int .i64 0))] (by rfl) ⟨⟨rfl, (Z.frz_osl (l := ([] : List Pl)) (f := cL) (ty := 66) (bx := false) (by rfl) rfl (fun _ => rfl)), trivial⟩, rfl, trivial⟩)
    obtain ⟨t, hx⟩ := getElem?_some' (xs := ts) (i := i) hi
    repeat' ((conv => whnf); first
      | (with_reducible refine spB_dec ?_ ?_ <;> intro _ <;> (try (exfalso; first | contradiction | omega | (rename_i hz; refine hz ?_; simp; done) | (rename_i hz; simp at hz; done) | (simp only [LN] at *; omega))))
      | with_reducible first | refine Z.rowN_known hx ?_
      | ((with_reducible apply ixN_litp); (focus (exact rfl)); (focus ((try simp only [LN] at *) <;> omega)))
      | with_reducible first | refine Z.callZ_in tabOk 31 Try.f48 _ Try.func48 (by kernel_rfl) rfl rfl rfl ?_)
    all_goals (try (conv => whnf))
    all_goals try (show Nat.ble _ _ = true; rfl)
    all_goals try (exfalso; rename_i hz; cases hz; done)
    all_goals try (exfalso; (try simp only [LN] at *) <;> omega)
    refine Z.loopK tabOk (fun zq : Nat × Int => [(11, .val (.int .i64 (zq.1 : Int))), (5, .val (.int .i64 zq.2))]) (fun zq : Nat × Int => ([] : Z.Kr)) (fun zq => zq.1 ≤ ws.length ∧ roomF (leftF ws []) ws 0 = roomF (leftF ws []) (ws.drop zq.1) zq.2) (fun zq => ws.length - zq.1) (0, 0) 12 [(1, _), (9, _), (10, _)] ⟨rfl, rfl, rfl, trivial⟩ [(0, some _), (1, some _), (2, some _), (3, some _), (4, some _), (5, some _), (6, some _), (8, some _), (10, some _), (11, some _)] ⟨rfl, rfl, rfl, rfl, rfl, rfl, rfl, rfl, rfl, rfl, trivial⟩ ?_ ?_ rfl rfl ⟨Nat.zero_le _, rfl⟩ ?_
    · repeat' (first | exact trivial | apply And.intro | exact ⟨_, rfl, Z.Imp.refl _⟩)
    · repeat' (first | exact trivial)
    rintro ⟨j, bb⟩ HINV
    dsimp only at HINV ⊢
    obtain ⟨HJ, HR⟩ := HINV
    by_cases hj : j < ws.length
    · obtain ⟨w, hy⟩ := getElem?_some' (xs := ws) (i := j) hj
      have h1 := HL w.id
      have h2 := HL bb
      repeat' ((conv => whnf); first
        | with_reducible first | refine spB_t ?_
        | with_reducible first | refine spB_no (by decide) ?_
        | (with_reducible refine spB_dec ?_ ?_ <;> intro _ <;> (try (exfalso; first | contradiction | omega | (rename_i hz; refine hz ?_; simp; done) | (rename_i hz; simp at hz; done) | (simp only [LN] at *; omega))))
        | (with_reducible refine spB_beq ?_ ?_ <;> intro _ <;> (try (exfalso; first | contradiction | omega | (rename_i hz; refine hz ?_; simp; done) | (rename_i hz; simp at hz; done) | (simp only [LN] at *; omega))))
        | with_reducible first | refine Z.rowN_known hy ?_
        | ((with_reducible refine Z.MapL.look HM (z0 := (0 : Int)) ?_ ?_); (focus rfl))
        | ((with_reducible apply ixN_litp); (focus (exact rfl)); (focus ((try simp only [LN] at *) <;> omega)))
        | with_reducible refine wr_i64 (by first | omega | (simp only [LN] at *; omega)) ?_)
      all_goals (try (conv => whnf))
      all_goals try (show Nat.ble _ _ = true; rfl)
      all_goals first
        | ((refine Z.rndK ((j + 1, w.id)) (fun s => [0, 1, 2, 3, 4, 5, 6, 7, 8, 9, 10, 11]) rfl rfl rfl rfl ?_ ?_ ?_ ?_); (focus (repeat' (first | exact trivial | exact rfl | apply And.intro))); (focus (repeat' (first | exact trivial | exact Z.map_sub (Z.MapL.ren HM fun _ => rfl) rfl | (intro b hb; cases hb; rfl) | apply And.intro))); (focus (refine ⟨by (try dsimp only); omega, ?_⟩; (try dsimp only); rw [HR, drop_cons hy, roomF, if_pos (by first | (left; omega) | (right; omega))])); ((try dsimp only); omega))
        | ((refine Z.rndK ((j + 1, bb)) (fun s => [0, 1, 2, 3, 4, 5, 6, 7, 8, 9, 10, 11]) rfl rfl rfl rfl ?_ ?_ ?_ ?_); (focus (repeat' (first | exact trivial | exact rfl | apply And.intro))); (focus (repeat' (first | exact trivial | exact Z.map_sub (Z.MapL.ren HM fun _ => rfl) rfl | (intro b hb; cases hb; rfl) | apply And.intro))); (focus (refine ⟨by (try dsimp only); omega, ?_⟩; (try dsimp only); rw [HR, drop_cons hy, roomF, if_neg (by omega)])); ((try dsimp only); omega))
    rw [drop_end hj, roomF] at HR
    have hlb := HL bb
    have hb1 := okW_sl hkw bb
    have hb2 := cnt_nn (ps := []) (y := bb)
    have hlb2 : (Z.lookK L bb).getD 0 = slF ws bb - cnt [] bb := hlb
    have hAle : ([] : List Pl).length ≤ 1016 := by (try simp only [LN] at *) <;> omega
    repeat' ((conv => whnf); first
      | (with_reducible refine spB_dec ?_ ?_ <;> intro _ <;> (try (exfalso; first | contradiction | omega | (rename_i hz; refine hz ?_; simp; done) | (rename_i hz; simp at hz; done) | (simp only [LN] at *; omega))))
      | ((with_reducible refine Z.MapL.look HM (z0 := (0 : Int)) ?_ ?_); (focus rfl))
      | ((with_reducible refine Z.MapL.upd' HM (v := (Z.lookK L bb).getD 0 - 1) ?_ ?_); (focus rfl); (intro es3 HM))
      | with_reducible refine wr_i64 (by first | omega | (simp only [LN] at *; omega)) ?_
      | with_reducible first | refine Z.callZ_in tabOk 21 Try.f49 _ Try.func49 (by kernel_rfl) rfl rfl rfl ?_
      | ((with_reducible apply ex_and); exact rfl))
    all_goals (try (conv => whnf))
    all_goals try (show Nat.ble _ _ = true; rfl)
    all_goals try (exfalso; rename_i hz; cases hz; done)
    all_goals try (exfalso; (try simp only [LN] at *) <;> omega)
    have hgl : gtT [] t ≤ ([] : List Pl).length := gtT_le
    generalize hgk : gtT [] t = k at *
    have hins : insT [] ⟨t, bb⟩ = [(⟨t, bb⟩ : Pl)] := rfl
    · have hkA : k = 0 := by simp at hgl; omega
      subst hkA
      repeat' ((conv => whnf); first
        | with_reducible first | refine spB_t ?_
        | ((with_reducible apply spB_cong); (focus (simp only [beq_self_eq_true, bne_self_eq_false, Bool.true_bne, Bool.false_bne, Bool.bne_true, Bool.bne_false, Bool.true_beq, Bool.false_beq, Bool.not_true, Bool.not_false, Bool.not_not, Int.reduceBEq, Int.reduceBNe, Int.reduceLE, Int.reduceLT, Int.reduceEq, decide_true, decide_false]; rfl)))
        | with_reducible first | refine spB_no (by decide) ?_
        | ((with_reducible refine Z.ConZ.red ?_); (apply Z.conZ_ins (N := [(⟨t, bb⟩ : Pl)].length) (B := ⟨[(⟨t, bb⟩ : Pl)].map cL, 2, 66, false⟩)); (focus rfl); (focus (repeat (first | exact Z.FK.nil | (apply Z.FK.keep; exact rfl) | (apply Z.FK.drop; exact rfl)))); (focus (repeat (first | exact trivial | (refine ⟨(fun o ho => (by first | (cases ho; rfl) | (cases ho; exact Z.inL_map fun _ => rfl) | (cases ho; exact Z.inL_mapr fun _ => rfl) | exact Z.inL_gB ho fun _ => rfl)), ?_⟩)))); (focus rfl); (focus (exact Z.inL_map fun _ => rfl)))
        | ((with_reducible refine Z.slN_lo 0 ?_ ?_ ?_); (focus rfl); (focus ((try simp only [LN] at *) <;> omega)))
        | with_reducible first | refine Z.loopZ_unroll tabOk 3 ?_
        | ((with_reducible refine apdE_n ?_); (with_reducible refine apdN.mk ?_ ?_ ?_ ?_ ?_ ?_); (focus rfl); (focus (exact one_all (by rfl))); (focus (simp; done)); (focus ((try simp only [LN] at *) <;> omega)); (focus ((try simp only [LN] at *) <;> omega)))
        | ((with_reducible refine slE_b ?_ ?_); (focus ((try simp only [LN] at *) <;> omega)))
        | with_reducible refine wr_i64 (by first | omega | (simp only [LN] at *; omega)) ?_
        | with_reducible first | refine Z.callZ_in tabOk 95 Try.f51 _ Try.func51 (by kernel_rfl) rfl rfl rfl ?_
        | ((with_reducible apply ex_and); exact rfl)
        | with_reducible first | refine Z.drawZ_rule tabOk mixOk ?_ | refine Z.apZ_mk (by kernel_rfl) ?_)
      all_goals (try (conv => whnf))
      all_goals try (show Nat.ble _ _ = true; rfl)
      all_goals first
        | (refine ⟨Nat.le_of_ble_eq_true rfl, _, _, _, _, rfl, rfl, ?_, ?_⟩; (focus ((try simp only [LN]) <;> omega)); (exact g_app (l := []) (f := cL) rfl rfl))
        | ((refine Z.rndK ((i + 1, some [(⟨t, bb⟩ : Pl)], es3)) (fun s => [0, 1, 2, 3, 4, 5, 6, 7, 8, s.idIn 6 1]) rfl rfl rfl rfl ?_ ?_ ?_ ?_); (focus (repeat' (first | exact trivial | exact rfl | apply And.intro))); (focus (repeat' (first | exact trivial | exact Z.map_sub (Z.MapL.ren HM fun _ => rfl) rfl | (intro b hb; cases hb; rfl) | (intro b hb; cases hb; done) | apply And.intro))); (focus (refine ⟨by (try dsimp only); omega, by (try dsimp only [Option.getD_some]); rw [← hins, insT_len]; (try simp only [LN] at *) <;> omega, by (try dsimp only [Option.getD_some]); rw [← hins]; exact layT_step hx HR HO, _, HM, ?_⟩; (try dsimp only [Option.getD_some]); rw [← hins]; exact lay_step (p := ⟨t, bb⟩) HL rfl)); ((try dsimp only); omega))
  · dsimp only [cel, blo, bln, Option.getD_some] at HAl HO HL ⊢
    by_cases hi : i < ts.length
    rotate_left
    · have hlay : A = layT ws [] ts := by rw [HO, List.drop_eq_nil_of_le (by omega)]; rfl
      rw [← hlay]
      repeat' ((conv => whnf); first
        | ((with_reducible apply spB_cong); (focus (simp only [beq_self_eq_true, bne_self_eq_false, Bool.true_bne, Bool.false_bne, Bool.bne_true, Bool.bne_false, Bool.true_beq, Bool.false_beq, Bool.not_true, Bool.not_false, Bool.not_not, Int.reduceBEq, Int.reduceBNe, Int.reduceLE, Int.reduceLT, Int.reduceEq, decide_true, decide_false]; rfl)))
        | with_reducible first | refine spB_no (by decide) ?_
        | (with_reducible refine spB_dec ?_ ?_ <;> intro _ <;> (try (exfalso; first | contradiction | omega | (rename_i hz; refine hz ?_; simp; done) | (rename_i hz; simp at hz; done) | (simp only [LN] at *; omega))))
        | ((with_reducible apply ex_and); exact rfl))
      all_goals (try (conv => whnf))
      all_goals try (show Nat.ble _ _ = true; rfl)
      all_goals first
        | (refine Z.retF2 [.agg [.ro true 2 (ws.map eW), .osl 9 0 A.length none], .one (.v (.int .i64 0))] (by rfl) ⟨⟨rfl, (Z.frz_osl (l := A) (f := cL) (ty := 66) (bx := false) (by rfl) rfl (fun _ => rfl)), trivial⟩, rfl, trivial⟩)
    obtain ⟨t, hx⟩ := getElem?_some' (xs := ts) (i := i) hi
    repeat' ((conv => whnf); first
      | (with_reducible refine spB_dec ?_ ?_ <;> intro _ <;> (try (exfalso; first | contradiction | omega | (rename_i hz; refine hz ?_; simp; done) | (rename_i hz; simp at hz; done) | (simp only [LN] at *; omega))))
      | with_reducible first | refine Z.rowN_known hx ?_
      | ((with_reducible apply ixN_litp); (focus (exact rfl)); (focus ((try simp only [LN] at *) <;> omega)))
      | with_reducible first | refine Z.callZ_in tabOk 31 Try.f48 _ Try.func48 (by kernel_rfl) rfl rfl rfl ?_)
    all_goals (try (conv => whnf))
    all_goals try (show Nat.ble _ _ = true; rfl)
    all_goals try (exfalso; rename_i hz; cases hz; done)
    all_goals try (exfalso; (try simp only [LN] at *) <;> omega)
    refine Z.loopK tabOk (fun zq : Nat × Int => [(11, .val (.int .i64 (zq.1 : Int))), (5, .val (.int .i64 zq.2))]) (fun zq : Nat × Int => ([] : Z.Kr)) (fun zq => zq.1 ≤ ws.length ∧ roomF (leftF ws A) ws 0 = roomF (leftF ws A) (ws.drop zq.1) zq.2) (fun zq => ws.length - zq.1) (0, 0) 12 [(1, _), (9, _), (10, _)] ⟨rfl, rfl, rfl, trivial⟩ [(0, some _), (1, some _), (2, some _), (3, some _), (4, some _), (6, some _), (8, some _), (9, some _), (10, some _), (11, some _)] ⟨rfl, rfl, rfl, rfl, rfl, rfl, rfl, rfl, rfl, rfl, trivial⟩ ?_ ?_ rfl rfl ⟨Nat.zero_le _, rfl⟩ ?_
    · repeat' (first | exact trivial | apply And.intro | exact ⟨_, rfl, Z.Imp.refl _⟩)
    · repeat' (first | exact trivial)
    rintro ⟨j, bb⟩ HINV
    dsimp only at HINV ⊢
    obtain ⟨HJ, HR⟩ := HINV
    by_cases hj : j < ws.length
    · obtain ⟨w, hy⟩ := getElem?_some' (xs := ws) (i := j) hj
      have h1 := HL w.id
      have h2 := HL bb
      repeat' ((conv => whnf); first
        | with_reducible first | refine spB_t ?_
        | with_reducible first | refine spB_no (by decide) ?_
        | (with_reducible refine spB_dec ?_ ?_ <;> intro _ <;> (try (exfalso; first | contradiction | omega | (rename_i hz; refine hz ?_; simp; done) | (rename_i hz; simp at hz; done) | (simp only [LN] at *; omega))))
        | (with_reducible refine spB_beq ?_ ?_ <;> intro _ <;> (try (exfalso; first | contradiction | omega | (rename_i hz; refine hz ?_; simp; done) | (rename_i hz; simp at hz; done) | (simp only [LN] at *; omega))))
        | with_reducible first | refine Z.rowN_known hy ?_
        | ((with_reducible refine Z.MapL.look HM (z0 := (0 : Int)) ?_ ?_); (focus rfl))
        | ((with_reducible apply ixN_litp); (focus (exact rfl)); (focus ((try simp only [LN] at *) <;> omega)))
        | with_reducible refine wr_i64 (by first | omega | (simp only [LN] at *; omega)) ?_)
      all_goals (try (conv => whnf))
      all_goals try (show Nat.ble _ _ = true; rfl)
      all_goals first
        | ((refine Z.rndK ((j + 1, w.id)) (fun s => [0, 1, 2, 3, 4, 5, 6, 7, 8, 9, 10, 11]) rfl rfl rfl rfl ?_ ?_ ?_ ?_); (focus (repeat' (first | exact trivial | exact rfl | apply And.intro))); (focus (repeat' (first | exact trivial | exact Z.map_sub (Z.MapL.ren HM fun _ => rfl) rfl | (intro b hb; cases hb; rfl) | exact Z.blk_sub rfl rfl (ren_map fun _ => rfl) | apply And.intro))); (focus (refine ⟨by (try dsimp only); omega, ?_⟩; (try dsimp only); rw [HR, drop_cons hy, roomF, if_pos (by first | (left; omega) | (right; omega))])); ((try dsimp only); omega))
        | ((refine Z.rndK ((j + 1, bb)) (fun s => [0, 1, 2, 3, 4, 5, 6, 7, 8, 9, 10, 11]) rfl rfl rfl rfl ?_ ?_ ?_ ?_); (focus (repeat' (first | exact trivial | exact rfl | apply And.intro))); (focus (repeat' (first | exact trivial | exact Z.map_sub (Z.MapL.ren HM fun _ => rfl) rfl | (intro b hb; cases hb; rfl) | exact Z.blk_sub rfl rfl (ren_map fun _ => rfl) | apply And.intro))); (focus (refine ⟨by (try dsimp only); omega, ?_⟩; (try dsimp only); rw [HR, drop_cons hy, roomF, if_neg (by omega)])); ((try dsimp only); omega))
    rw [drop_end hj, roomF] at HR
    have hlb := HL bb
    have hb1 := okW_sl hkw bb
    have hb2 := cnt_nn (ps := A) (y := bb)
    have hlb2 : (Z.lookK L bb).getD 0 = slF ws bb - cnt A bb := hlb
    have hAle : A.length ≤ 1016 := by (try simp only [LN] at *) <;> omega
    repeat' ((conv => whnf); first
      | (with_reducible refine spB_dec ?_ ?_ <;> intro _ <;> (try (exfalso; first | contradiction | omega | (rename_i hz; refine hz ?_; simp; done) | (rename_i hz; simp at hz; done) | (simp only [LN] at *; omega))))
      | ((with_reducible refine Z.MapL.look HM (z0 := (0 : Int)) ?_ ?_); (focus rfl))
      | ((with_reducible refine Z.MapL.upd' HM (v := (Z.lookK L bb).getD 0 - 1) ?_ ?_); (focus rfl); (intro es3 HM))
      | with_reducible refine wr_i64 (by first | omega | (simp only [LN] at *; omega)) ?_
      | with_reducible first | refine Z.callZ_in tabOk 21 Try.f49 _ Try.func49 (by kernel_rfl) rfl rfl rfl ?_
      | ((with_reducible apply ex_and); exact rfl))
    all_goals (try (conv => whnf))
    all_goals try (show Nat.ble _ _ = true; rfl)
    all_goals try (exfalso; rename_i hz; cases hz; done)
    all_goals try (exfalso; (try simp only [LN] at *) <;> omega)
    have hgl : gtT A t ≤ A.length := gtT_le
    generalize hgk : gtT A t = k at *
    have hins : insT A ⟨t, bb⟩ = A.take k ++ (⟨t, bb⟩ : Pl) :: A.drop k := by unfold insT; rw [hgk]
    by_cases hkl : k < A.length
    · skip
      refine Z.loopK tabOk (fun zq : Nat => [(9, .val (.int .i64 (zq : Int)))]) (fun zq : Nat => ([] : Z.Kr)) (fun zq => zq ≤ k) (fun zq => A.length - zq) 0 12 [(0, _), (1, _), (7, _), (8, _)] ⟨rfl, rfl, rfl, rfl, trivial⟩ [(0, some _), (1, some _), (2, some _), (3, some _), (4, some _), (6, some _), (8, some _), (9, some _), (10, some _), (11, some _)] ⟨rfl, rfl, rfl, rfl, rfl, rfl, rfl, rfl, rfl, rfl, trivial⟩ ?_ ?_ rfl rfl (Nat.zero_le _) ?_
      · repeat' (first | exact trivial | apply And.intro | exact ⟨_, rfl, Z.Imp.refl _⟩)
      · repeat' (first | exact trivial)
      rintro q HINV
      dsimp only at HINV ⊢
      obtain ⟨x, hy⟩ := getElem?_some' (xs := A) (i := q) (by omega)
      by_cases hj : q < k
      · have hxa : ¬ t < x.task := gtT_lt hgk hj hy
        repeat' ((conv => whnf); first
          | (with_reducible refine spB_dec ?_ ?_ <;> intro _ <;> (try (exfalso; first | contradiction | omega | (rename_i hz; refine hz ?_; simp; done) | (rename_i hz; simp at hz; done) | (simp only [LN] at *; omega))))
          | ((with_reducible refine rowN_mk (cL x) ?_ ?_); (focus (show (List.map cL A)[0 + q]? = some (cL x); rw [Nat.zero_add, List.getElem?_map, hy]; rfl)))
          | ((with_reducible apply ixN_litp); (focus (exact rfl)); (focus ((try simp only [LN] at *) <;> omega)))
          | with_reducible refine wr_i64 (by first | omega | (simp only [LN] at *; omega)) ?_
          | with_reducible first | refine Z.callZ_in tabOk 8 Try.f50 _ Try.func50 (by kernel_rfl) rfl rfl rfl ?_
          | ((with_reducible apply ex_and); exact rfl))
        all_goals (try (conv => whnf))
        all_goals try (show Nat.ble _ _ = true; rfl)
        all_goals first
          | ((refine Z.rndK ((q + 1)) (fun s => [0, 1, 2, 3, 4, 5, 6, 7, 8, 9, 10, 11]) rfl rfl rfl rfl ?_ ?_ ?_ ?_); (focus (repeat' (first | exact trivial | exact rfl | apply And.intro))); (focus (repeat' (first | exact trivial | exact Z.map_sub (Z.MapL.ren HM fun _ => rfl) rfl | (intro b hb; cases hb; rfl) | exact Z.blk_sub rfl rfl (ren_map fun _ => rfl) | apply And.intro))); (focus (omega)); ((try dsimp only); omega))
      have hji : q = k := by omega
      subst hji
      have hxa : t < x.task := gtT_at hgk hy
      repeat' ((conv => whnf); first
        | with_reducible first | refine spB_t ?_
        | ((with_reducible apply spB_cong); (focus (simp only [beq_self_eq_true, bne_self_eq_false, Bool.true_bne, Bool.false_bne, Bool.bne_true, Bool.bne_false, Bool.true_beq, Bool.false_beq, Bool.not_true, Bool.not_false, Bool.not_not, Int.reduceBEq, Int.reduceBNe, Int.reduceLE, Int.reduceLT, Int.reduceEq, decide_true, decide_false]; rfl)))
        | with_reducible first | refine spB_no (by decide) ?_
        | (with_reducible refine spB_dec ?_ ?_ <;> intro _ <;> (try (exfalso; first | contradiction | omega | (rename_i hz; refine hz ?_; simp; done) | (rename_i hz; simp at hz; done) | (simp only [LN] at *; omega))))
        | (with_reducible refine spB_beq ?_ ?_ <;> intro _ <;> (try (exfalso; first | contradiction | omega | (rename_i hz; refine hz ?_; simp; done) | (rename_i hz; simp at hz; done) | (simp only [LN] at *; omega))))
        | ((with_reducible refine Z.ConZ.red ?_); (apply Z.conZ_ins (N := (A.take q ++ (⟨t, bb⟩ : Pl) :: A.drop q).length) (B := ⟨(A.take q ++ (⟨t, bb⟩ : Pl) :: A.drop q).map cL, 2, 66, false⟩)); (focus rfl); (focus (repeat (first | exact Z.FK.nil | (apply Z.FK.keep; exact rfl) | (apply Z.FK.drop; exact rfl)))); (focus (repeat (first | exact trivial | (refine ⟨(fun o ho => (by first | (cases ho; rfl) | (cases ho; exact Z.inL_map fun _ => rfl) | (cases ho; exact Z.inL_mapr fun _ => rfl) | exact Z.inL_gB ho fun _ => rfl)), ?_⟩)))); (focus rfl); (focus (exact Z.inL_map fun _ => rfl)))
        | ((apply Z.callZ_capS (n := A.length)); (focus (exact rfl)); (focus (simp; done)); (intro capv hcapv; refine ⟨fun hcap => ?_, fun hcap gv hgv => ?_⟩))
        | ((with_reducible apply Z.callZ_ovl (tS := 23) (tR := 4) tabOk Try.f65 Try.func65 (by kernel_rfl) (by kernel_rfl) (by kernel_rfl) (by kernel_rfl)); (iterate 4 (focus (exact rfl))); (focus (exact Nat.ne_of_beq_eq_false rfl)); (focus (simp; done)); (focus (exact Nat.zero_lt_succ _)))
        | ((with_reducible refine Z.slN_lo (q) ?_ ?_ ?_); (focus rfl); (focus ((try simp only [LN] at *) <;> omega)))
        | ((with_reducible refine Z.slN_lo (q + 1) ?_ ?_ ?_); (focus rfl); (focus ((try simp only [LN] at *) <;> omega)))
        | ((with_reducible refine slN_hi (q) ?_ ?_ ?_); (focus rfl); (focus ((try simp only [LN] at *) <;> omega)))
        | ((with_reducible refine slN_hc (A.length + 1) ?_ ?_ ?_); (focus rfl); (focus (exact ⟨_, rfl, by omega⟩)))
        | ((with_reducible refine apzE_k ?_); (with_reducible refine apzK_mk (A.length + 1 - q) ⟨_, rfl, ?_⟩ ?_ ?_ ?_ ?_ ?_ ?_); (focus ((try simp only [LN] at *) <;> omega)); (focus ((try simp only [LN] at *) <;> omega)); (focus (exact g_le (f := cL) rfl (by omega))); (iterate 2 (focus ((try simp only [LN] at *) <;> omega))); (focus rfl))
        | ((with_reducible refine cpyN.mk ?_ ?_ ?_ ?_); (focus rfl); (focus (exact one_all (by rfl))); (focus (exact g_fit (f := cL) rfl (by omega) (by (try simp only [LN] at *) <;> omega))))
        | ((with_reducible refine cpyN.mk ?_ ?_ ?_ ?_); (focus (exact g_len (f := cL) rfl (by (try simp only [LN] at *) <;> omega))); (focus (exact g_one cL_one rfl)); (focus (exact g_fit2 (f := cL) rfl (by omega) (by (try simp only [LN] at *) <;> omega) gS_len)))
        | ((with_reducible refine cpyN.mk2 ?_ ?_ ?_ ?_); (focus (exact g_lenp (f := cL) (by (try simp only [LN] at *) <;> omega))); (focus (exact g_onep cL_one (g_min (by (try simp only [LN] at *) <;> omega)))); (focus (exact g_fitp (f := cL) (by (try simp only [LN] at *) <;> omega))))
        | ((with_reducible refine cpyN.mk ?_ ?_ ?_ ?_); (focus rfl); (focus (exact one_all (by rfl))); (focus (exact g_fitp2 (f := cL) (by (try simp only [LN] at *) <;> omega) (g_fitk (by (try simp only [LN] at *) <;> omega)))))
        | ((with_reducible refine rowN_mk (cL x) ?_ ?_); (focus (show (List.map cL A)[0 + q]? = some (cL x); rw [Nat.zero_add, List.getElem?_map, hy]; rfl)))
        | ((with_reducible apply ixN_litp); (focus (exact rfl)); (focus ((try simp only [LN] at *) <;> omega)))
        | ((with_reducible refine slE_a ?_ ?_); (focus ((try simp only [LN] at *) <;> omega)))
        | with_reducible refine wr_i64 (by first | omega | (simp only [LN] at *; omega)) ?_
        | with_reducible first | refine Z.callZ_in tabOk 8 Try.f50 _ Try.func50 (by kernel_rfl) rfl rfl rfl ?_ | refine Z.callZ_in tabOk 95 Try.f51 _ Try.func51 (by kernel_rfl) rfl rfl rfl ?_
        | ((with_reducible apply ex_and); exact rfl)
        | with_reducible first | refine Z.drawZ_rule tabOk mixOk ?_ | refine Z.apZ_mk (by kernel_rfl) ?_)
      all_goals (try (conv => whnf))
      all_goals try (show Nat.ble _ _ = true; rfl)
      all_goals first
        | (refine ⟨Nat.le_of_ble_eq_true rfl, _, _, _, _, rfl, rfl, ?_, ?_⟩; (focus ((try simp only [LN]) <;> omega)); (exact g_ins (f := cL) rfl (by omega) rfl (gS_eq (by omega) rfl) (gT_eq (f := cL) rfl (Nat.le_min.2 ⟨by omega, by omega⟩) (by omega))))
        | (refine ⟨Nat.le_of_ble_eq_true rfl, _, _, _, _, rfl, rfl, ?_, ?_⟩; (focus ((try simp only [LN]) <;> omega)); (exact g_insp (f := cL) (by omega) (gS_eq (by omega) rfl) (gT_eqp (f := cL) (by omega) (.inl ⟨(Nat.min_eq_right (by omega)).trans (by omega), by omega⟩))))
        | ((refine Z.rndK ((i + 1, some (A.take q ++ (⟨t, bb⟩ : Pl) :: A.drop q), es3)) (fun s => [0, 1, 2, 3, 4, 5, 6, 7, 8, s.idIn 6 1]) rfl rfl rfl rfl ?_ ?_ ?_ ?_); (focus (repeat' (first | exact trivial | exact rfl | apply And.intro))); (focus (repeat' (first | exact trivial | exact Z.map_sub (Z.MapL.ren HM fun _ => rfl) rfl | (intro b hb; cases hb; rfl) | (intro b hb; cases hb; done) | exact Z.blk_sub rfl rfl (ren_map fun _ => rfl) | apply And.intro))); (focus (refine ⟨by (try dsimp only); omega, by (try dsimp only [Option.getD_some]); rw [← hins, insT_len]; (try simp only [LN] at *) <;> omega, by (try dsimp only [Option.getD_some]); rw [← hins]; exact layT_step hx HR HO, _, HM, ?_⟩; (try dsimp only [Option.getD_some]); rw [← hins]; exact lay_step (p := ⟨t, bb⟩) HL rfl)); ((try dsimp only); omega))
    · have hkA : k = A.length := by omega
      rw [hkA, List.take_length, List.drop_length] at hins
      refine Z.loopK tabOk (fun zq : Nat => [(9, .val (.int .i64 (zq : Int)))]) (fun zq : Nat => ([] : Z.Kr)) (fun zq => zq ≤ k) (fun zq => A.length - zq) 0 12 [(0, _), (1, _), (7, _), (8, _)] ⟨rfl, rfl, rfl, rfl, trivial⟩ [(0, some _), (1, some _), (2, some _), (3, some _), (4, some _), (6, some _), (8, some _), (9, some _), (10, some _), (11, some _)] ⟨rfl, rfl, rfl, rfl, rfl, rfl, rfl, rfl, rfl, rfl, trivial⟩ ?_ ?_ rfl rfl (Nat.zero_le _) ?_
      · repeat' (first | exact trivial | apply And.intro | exact ⟨_, rfl, Z.Imp.refl _⟩)
      · repeat' (first | exact trivial)
      rintro q HINV
      dsimp only at HINV ⊢
      by_cases hj : q < A.length
      · obtain ⟨x, hy⟩ := getElem?_some' (xs := A) (i := q) hj
        have hxa : ¬ t < x.task := gtT_lt hgk (by omega) hy
        repeat' ((conv => whnf); first
          | (with_reducible refine spB_dec ?_ ?_ <;> intro _ <;> (try (exfalso; first | contradiction | omega | (rename_i hz; refine hz ?_; simp; done) | (rename_i hz; simp at hz; done) | (simp only [LN] at *; omega))))
          | ((with_reducible refine rowN_mk (cL x) ?_ ?_); (focus (show (List.map cL A)[0 + q]? = some (cL x); rw [Nat.zero_add, List.getElem?_map, hy]; rfl)))
          | ((with_reducible apply ixN_litp); (focus (exact rfl)); (focus ((try simp only [LN] at *) <;> omega)))
          | with_reducible refine wr_i64 (by first | omega | (simp only [LN] at *; omega)) ?_
          | with_reducible first | refine Z.callZ_in tabOk 8 Try.f50 _ Try.func50 (by kernel_rfl) rfl rfl rfl ?_
          | ((with_reducible apply ex_and); exact rfl))
        all_goals (try (conv => whnf))
        all_goals try (show Nat.ble _ _ = true; rfl)
        all_goals first
          | ((refine Z.rndK ((q + 1)) (fun s => [0, 1, 2, 3, 4, 5, 6, 7, 8, 9, 10, 11]) rfl rfl rfl rfl ?_ ?_ ?_ ?_); (focus (repeat' (first | exact trivial | exact rfl | apply And.intro))); (focus (repeat' (first | exact trivial | exact Z.map_sub (Z.MapL.ren HM fun _ => rfl) rfl | (intro b hb; cases hb; rfl) | exact Z.blk_sub rfl rfl (ren_map fun _ => rfl) | apply And.intro))); (focus (omega)); ((try dsimp only); omega))
      have hji : q = A.length := by omega
      subst hji
      repeat' ((conv => whnf); first
        | with_reducible first | refine spB_t ?_
        | ((with_reducible apply spB_cong); (focus (simp only [beq_self_eq_true, bne_self_eq_false, Bool.true_bne, Bool.false_bne, Bool.bne_true, Bool.bne_false, Bool.true_beq, Bool.false_beq, Bool.not_true, Bool.not_false, Bool.not_not, Int.reduceBEq, Int.reduceBNe, Int.reduceLE, Int.reduceLT, Int.reduceEq, decide_true, decide_false]; rfl)))
        | with_reducible first | refine spB_no (by decide) ?_
        | (with_reducible refine spB_dec ?_ ?_ <;> intro _ <;> (try (exfalso; first | contradiction | omega | (rename_i hz; refine hz ?_; simp; done) | (rename_i hz; simp at hz; done) | (simp only [LN] at *; omega))))
        | ((with_reducible refine Z.ConZ.red ?_); (apply Z.conZ_ins (N := (A ++ [(⟨t, bb⟩ : Pl)]).length) (B := ⟨(A ++ [(⟨t, bb⟩ : Pl)]).map cL, 2, 66, false⟩)); (focus rfl); (focus (repeat (first | exact Z.FK.nil | (apply Z.FK.keep; exact rfl) | (apply Z.FK.drop; exact rfl)))); (focus (repeat (first | exact trivial | (refine ⟨(fun o ho => (by first | (cases ho; rfl) | (cases ho; exact Z.inL_map fun _ => rfl) | (cases ho; exact Z.inL_mapr fun _ => rfl) | exact Z.inL_gB ho fun _ => rfl)), ?_⟩)))); (focus rfl); (focus (exact Z.inL_map fun _ => rfl)))
        | ((apply Z.callZ_capS (n := A.length)); (focus (exact rfl)); (focus (simp; done)); (intro capv hcapv; refine ⟨fun hcap => ?_, fun hcap gv hgv => ?_⟩))
        | ((with_reducible refine Z.slN_lo (A.length) ?_ ?_ ?_); (focus rfl); (focus ((try simp only [LN] at *) <;> omega)))
        | ((with_reducible refine apdE_r ?_); (with_reducible refine aprN.mk ⟨_, rfl, ?_⟩ ?_ ?_ ?_ ?_); (focus omega); (focus rfl); (focus (exact one_all (by rfl))); (focus (simp; done)))
        | ((with_reducible refine apdE_k ?_); (with_reducible refine apkN.mk ⟨_, rfl, ?_⟩ ?_); (focus omega); (with_reducible refine apdN.mk ?_ ?_ ?_ ?_ ?_ ?_); (focus rfl); (focus (exact one_all (by rfl))); (focus (simp; done)); (focus ((try simp only [LN] at *) <;> omega)); (focus ((try simp only [LN] at *) <;> omega)))
        | ((with_reducible refine slE_b ?_ ?_); (focus ((try simp only [LN] at *) <;> omega)))
        | with_reducible refine wr_i64 (by first | omega | (simp only [LN] at *; omega)) ?_
        | with_reducible first | refine Z.callZ_in tabOk 95 Try.f51 _ Try.func51 (by kernel_rfl) rfl rfl rfl ?_
        | ((with_reducible apply ex_and); exact rfl)
        | with_reducible first | refine Z.drawZ_rule tabOk mixOk ?_ | refine Z.apZ_mk (by kernel_rfl) ?_)
      all_goals (try (conv => whnf))
      all_goals try (show Nat.ble _ _ = true; rfl)
      all_goals first
        | (refine ⟨Nat.le_of_ble_eq_true rfl, _, _, _, _, rfl, rfl, ?_, ?_⟩; (focus ((try simp only [LN]) <;> omega)); (exact g_app (f := cL) rfl rfl))
        | (refine ⟨Nat.le_of_ble_eq_true rfl, _, _, _, _, rfl, rfl, ?_, ?_⟩; (focus ((try simp only [LN]) <;> omega)); (exact g_appr (f := cL) rfl rfl))
        | ((refine Z.rndK ((i + 1, some (A ++ [(⟨t, bb⟩ : Pl)]), es3)) (fun s => [0, 1, 2, 3, 4, 5, 6, 7, 8, s.idIn 6 1]) rfl rfl rfl rfl ?_ ?_ ?_ ?_); (focus (repeat' (first | exact trivial | exact rfl | apply And.intro))); (focus (repeat' (first | exact trivial | exact Z.map_sub (Z.MapL.ren HM fun _ => rfl) rfl | (intro b hb; cases hb; rfl) | (intro b hb; cases hb; done) | exact Z.blk_sub rfl rfl (ren_map fun _ => rfl) | apply And.intro))); (focus (refine ⟨by (try dsimp only); omega, by (try dsimp only [Option.getD_some]); rw [← hins, insT_len]; (try simp only [LN] at *) <;> omega, by (try dsimp only [Option.getD_some]); rw [← hins]; exact layT_step hx HR HO, _, HM, ?_⟩; (try dsimp only [Option.getD_some]); rw [← hins]; exact lay_step (p := ⟨t, bb⟩) HL rfl)); ((try dsimp only); omega))

end Go.Proofs.Ytllnmdmmmkoiaaa
namespace Go.Proofs.Ytllnmdmmmkoiaaa
open Go Go.RowKit Wx
set_option linter.unusedVariables false
set_option linter.unusedSimpArgs false
set_option maxHeartbeats 4000000
theorem lay_bad (ws : List Wk) (ps : List Pl) (ts : List Int) (hw : ws.length ≤ 1000) (hp : ps.length ≤ 1000) (ht : ts.length ≤ 1000) (hk : okF ws ps = false) : Con Try.prog 18 [.agg [.ro false 2 ((ws).map eW), .ro false 2 ((ps).map eL)], .one (.ro false 1 (ts.map eI))] (fun rx rK rt => rx = .tup [.agg [.ro true 2 ((([] : List Wk)).map eW), .ro true 2 ((([] : List Pl)).map eL)], .one (.v (.int .i64 210))] ∧ rK = [] ∧ rt = 0) := by
  refine Z.con_ofF tabOk 11 Try.f18 _ Try.func18 (by kernel_rfl) rfl rfl rfl rfl ?_
  have ck := check_con ws ps (by omega) (by omega)
  rw [hk] at ck
  simp only [cond_false] at ck
  repeat' ((conv => whnf); first
    | with_reducible first | refine spB_t ?_
    | ((with_reducible apply spB_cong); (focus (simp only [beq_self_eq_true, bne_self_eq_false, Bool.true_bne, Bool.false_bne, Bool.bne_true, Bool.bne_false, Bool.true_beq, Bool.false_beq, Bool.not_true, Bool.not_false, Bool.not_not, Int.reduceBEq, Int.reduceBNe, Int.reduceLE, Int.reduceLT, Int.reduceEq, decide_true, decide_false]; rfl)))
    | with_reducible first | refine Z.callZ_in tabOk 29 Try.f31 _ Try.func31 (by kernel_rfl) rfl rfl rfl ?_
    | ((first | (with_reducible refine Z.callZ_mk ?_ (ck) ?_)); (focus ((repeat' (first | exact trivial | exact rfl | apply And.intro)); done)))
    | ((with_reducible apply ex_and); exact rfl))
  all_goals (try (conv => whnf))
  all_goals try (show Nat.ble _ _ = true; rfl)
  all_goals first
    | ((first | (with_reducible apply Z.retF2)); (focus (exact rfl)); (repeat' (first | exact trivial | (with_reducible apply Z.frz_agg) | (exact Z.frz_nil) | exact rfl | apply And.intro)); (all_goals (try exact (fun _ => none))); all_goals (first | (simp; done)))

theorem lay_no (ws : List Wk) (ps : List Pl) (ts : List Int) (hw : ws.length ≤ 1000) (hp : ps.length ≤ 1000) (ht : ts.length ≤ 1000) (hk : okF ws ps = true) (hwt : ¬ wantT ws ps ts = 0) : Con Try.prog 18 [.agg [.ro false 2 ((ws).map eW), .ro false 2 ((ps).map eL)], .one (.ro false 1 (ts.map eI))] (fun rx rK rt => rx = .tup [.agg [.ro true 2 ((([] : List Wk)).map eW), .ro true 2 ((([] : List Pl)).map eL)], .one (.v (.int .i64 (wantT ws ps ts)))] ∧ rK = [] ∧ rt = 0) := by
  refine Z.con_ofF tabOk 11 Try.f18 _ Try.func18 (by kernel_rfl) rfl rfl rfl rfl ?_
  have ck := check_con ws ps (by omega) (by omega)
  rw [hk] at ck
  simp only [cond_true] at ck
  have cw := wanted_con ws ps ts hw hp ht hk
  have cc := clonew_f3 ws hw
  have cp := clonep_con ps hp
  generalize wantT ws ps ts = ee at *
  repeat' ((conv => whnf); first
    | ((with_reducible apply spB_cong); (focus (simp only [beq_self_eq_true, bne_self_eq_false, Bool.true_bne, Bool.false_bne, Bool.bne_true, Bool.bne_false, Bool.true_beq, Bool.false_beq, Bool.not_true, Bool.not_false, Bool.not_not, Int.reduceBEq, Int.reduceBNe, Int.reduceLE, Int.reduceLT, Int.reduceEq, decide_true, decide_false]; rfl)))
    | with_reducible first | refine spB_no (by decide) ?_
    | (with_reducible refine spB_bne ?_ ?_ <;> intro _ <;> (try (exfalso; first | contradiction | omega | (rename_i hz; refine hz ?_; simp; done) | (rename_i hz; simp at hz; done) | (simp only [LN] at *; omega))))
    | with_reducible first | refine Z.callZ_in tabOk 52 Try.f45 _ Try.func45 (by kernel_rfl) rfl rfl rfl ?_ | refine Z.callZ_in tabOk 29 Try.f31 _ Try.func31 (by kernel_rfl) rfl rfl rfl ?_
    | ((first | (with_reducible refine Z.callZ_mk ?_ (cw) ?_) | (with_reducible refine Z.callZ_mk ?_ (ck) ?_) | (with_reducible refine Z.conZ_mz ?_ (cc) ?_) | (with_reducible refine Z.conZ_mz ?_ (cp) ?_)); (focus ((repeat' (first | exact trivial | exact rfl | apply And.intro)); done)))
    | ((with_reducible apply ex_and); exact rfl)
    | with_reducible first | refine Z.drawZ_rule tabOk mixOk ?_ | refine Z.apZ_mk (by kernel_rfl) ?_)
  all_goals (try (conv => whnf))
  all_goals try (show Nat.ble _ _ = true; rfl)
  all_goals first
    | ((first | (with_reducible apply Z.retF2)); (focus (exact rfl)); (repeat' (first | exact trivial | (with_reducible apply Z.frz_agg) | (exact Z.frz_nil) | exact rfl | apply And.intro)); (all_goals (try exact (fun _ => none))); all_goals (first | (simp; done)))

end Go.Proofs.Ytllnmdmmmkoiaaa
namespace Go.Proofs.Ytllnmdmmmkoiaaa
open Go Go.RowKit Wx
set_option linter.unusedVariables false
set_option linter.unusedSimpArgs false
set_option maxHeartbeats 4000000
def zL : Pl := ⟨0, 0⟩
def padL (N : Nat) (K : List Pl) : List Pl := K ++ List.replicate (N - K.length) zL
theorem padL_len {N : Nat} {K : List Pl} (h : K.length ≤ N) : (padL N K).length = N := by
  simp only [padL, List.length_append, List.length_replicate]; omega
theorem padL_full {K : List Pl} : padL K.length K = K := by simp [padL]
theorem padL_take {N n : Nat} {K : List Pl} (h : n = K.length) : List.take n ((padL N K).map cL) = K.map cL := by
  subst h
  unfold padL; rw [List.map_append, List.take_left' (by simp)]
theorem pad_drop {N i m : Nat} {K : List Pl} (hm : m = K.length) : List.take (m - (i + 1)) (List.drop (0 + (i + 1)) ((padL N K).map cL)) = (K.map cL).drop (i + 1) := by
  subst hm
  unfold padL
  rw [Nat.zero_add, List.map_append]
  rcases Nat.lt_or_ge (i + 1) (K.map cL).length with h | h
  · rw [List.drop_append_of_le_length (by omega), List.take_left' (by simp)]
  · rw [List.length_map] at h
    rw [show K.length - (i + 1) = 0 by omega, List.take_zero, List.drop_eq_nil_of_le (by simpa using h)]
theorem pad_del {N i : Nat} {K : List Pl} {R : List (List Ce)} (hi : i < K.length) (hN : K.length ≤ N) (hR : R = (K.map cL).drop (i + 1)) : lay (lay ((padL N K).map cL) (i - 0) R) (0 + (K.length - 1)) [cL zL] = (padL N (K.eraseIdx i)).map cL := by
  subst hR
  unfold padL
  rw [List.length_eraseIdx, if_pos hi, List.eraseIdx_eq_take_drop_succ, List.map_append, List.map_append, List.map_append, List.map_take, List.map_drop, List.map_replicate, List.map_replicate, show N - (K.length - 1) = (N - K.length) + 1 by omega, List.replicate_succ]
  generalize hM : K.map cL = M
  have hl : M.length = K.length := by rw [← hM, List.length_map]
  generalize List.replicate (N - K.length) (cL zL) = Z
  rw [Nat.sub_zero, Nat.zero_add]
  unfold lay
  have e1 : (List.take i (M ++ Z) : List (List Ce)) = M.take i := List.take_append_of_le_length (by omega)
  have e2 : List.drop (i + (List.drop (i + 1) M).length) (M ++ Z) = M.drop (K.length - 1) ++ Z := by
    rw [List.length_drop, show i + (M.length - (i + 1)) = K.length - 1 by omega, List.drop_append_of_le_length (by omega)]
  rw [e1, e2, ← List.append_assoc (M.take i)]
  have e3 : (M.take i ++ M.drop (i + 1)).length = K.length - 1 := by simp; omega
  have e4 : (M.drop (K.length - 1)).length = 1 := by simp; omega
  generalize M.take i ++ M.drop (i + 1) = A at *
  generalize M.drop (K.length - 1) = B at *
  rw [List.take_left' e3, show K.length - 1 + [cL zL].length = A.length + B.length by simp; omega, ← List.append_assoc, ← List.append_assoc A, List.drop_left' (by simp)]
  simp
theorem pad_cL {L : List Pl} {n : Nat} (h : L.length = n) : L.map cL = (padL n L).map cL := by subst h; rw [padL_full]
theorem pad_del2 {N i c : Nat} {K : List Pl} {R : List (List Ce)} {z : List Ce} (hc : c = 1) (hz : z = cL zL) (hi : i < K.length) (hN : K.length ≤ N) (hR : R = (K.map cL).drop (i + 1)) : lay (lay ((padL N K).map cL) (i - 0) R) (0 + (K.length - 1)) (List.replicate c z) = (padL N (K.eraseIdx i)).map cL := by
  subst hc hz; exact pad_del hi hN hR
theorem ren_cL {L : List Pl} {r : Nat → Nat} : (L.map cL).map (List.map (Ce.ren r)) = L.map cL := by rw [List.map_map]; exact List.map_congr_left fun x _ => rfl
theorem low_pad {N : Nat} {A : List Pl} : ∃ rows, Ce.ro false 2 (A.map eL) = Ce.ro false 2 rows ∧ rows.length = A.length ∧ ((((padL N A).map cL).drop 0).take A.length).map (List.map RT.of) = rows.map (List.map some) := ⟨_, rfl, by simp, by rw [List.drop_zero, padL_take rfl, List.map_map, List.map_map]; exact List.map_congr_left fun x _ => rfl⟩
/-! ### Tasks are taken -/
def takT : List Pl → List Int → Option (List Pl)
  | A, [] => some A
  | A, t :: l => if idxT A t < A.length then takT (A.eraseIdx (idxT A t)) l else none
theorem takT_yes {ps A : List Pl} {ts : List Int} {i m : Nat} {t : Int} (h : ts[i]? = some t) (ho : takT ps ts = takT A (ts.drop i)) (hm : idxT A t = m) (hl : m < A.length) : takT ps ts = takT (A.eraseIdx m) (ts.drop (i + 1)) := by
  subst hm; rw [ho, drop_cons h, takT, if_pos hl]
theorem takT_no {ps A : List Pl} {ts : List Int} {i : Nat} {t : Int} (h : ts[i]? = some t) (ho : takT ps ts = takT A (ts.drop i)) (hl : ¬ idxT A t < A.length) : takT ps ts = none := by
  rw [ho, drop_cons h, takT, if_neg hl]
/-- What Take tells: the workers, the places, and whether it was refused. -/
def takeT (ws : List Wk) (ps : List Pl) (ts : List Int) : List Wk × List Pl × Int :=
  if okF ws ps = true then (match takT ps ts with
    | some A => (ws, A, 0)
    | none => ([], [], 4)) else ([], [], 210)
theorem takeT_yes {ws : List Wk} {ps A : List Pl} {ts : List Int} (hk : okF ws ps = true) (h : takT ps ts = some A) : takeT ws ps ts = (ws, A, 0) := by unfold takeT; rw [if_pos hk, h]
theorem takeT_no {ws : List Wk} {ps : List Pl} {ts : List Int} (hk : okF ws ps = true) (h : takT ps ts = none) : takeT ws ps ts = ([], [], 4) := by unfold takeT; rw [if_pos hk, h]
theorem take_bad (ws : List Wk) (ps : List Pl) (ts : List Int) (hw : ws.length ≤ 1000) (hp : ps.length ≤ 1000) (ht : ts.length ≤ 1000) (hk : okF ws ps = false) : Con Try.prog 20 [.agg [.ro false 2 ((ws).map eW), .ro false 2 ((ps).map eL)], .one (.ro false 1 (ts.map eI))] (fun rx rK rt => rx = .tup [.agg [.ro true 2 (((takeT ws ps ts).1).map eW), .ro true 2 (((takeT ws ps ts).2.1).map eL)], .one (.v (.int .i64 (takeT ws ps ts).2.2))] ∧ rK = [] ∧ rt = 0) := by
  refine Z.con_ofF tabOk 11 Try.f20 _ Try.func20 (by kernel_rfl) rfl rfl rfl rfl ?_
  have ck := check_con ws ps (by omega) (by omega)
  rw [hk] at ck
  simp only [cond_false] at ck
  rw [show takeT ws ps ts = ([], [], 210) by unfold takeT; rw [if_neg (by rw [hk]; simp)]]
  repeat' ((conv => whnf); first
    | with_reducible first | refine spB_t ?_
    | ((with_reducible apply spB_cong); (focus (simp only [beq_self_eq_true, bne_self_eq_false, Bool.true_bne, Bool.false_bne, Bool.bne_true, Bool.bne_false, Bool.true_beq, Bool.false_beq, Bool.not_true, Bool.not_false, Bool.not_not, Int.reduceBEq, Int.reduceBNe, Int.reduceLE, Int.reduceLT, Int.reduceEq, decide_true, decide_false]; rfl)))
    | with_reducible first | refine Z.callZ_in tabOk 29 Try.f31 _ Try.func31 (by kernel_rfl) rfl rfl rfl ?_
    | ((first | (with_reducible refine Z.callZ_mk ?_ (ck) ?_)); (focus ((repeat' (first | exact trivial | exact rfl | apply And.intro)); done)))
    | ((with_reducible apply ex_and); exact rfl))
  all_goals (try (conv => whnf))
  all_goals try (show Nat.ble _ _ = true; rfl)
  all_goals first
    | ((first | (with_reducible apply Z.retF2)); (focus (exact rfl)); (repeat' (first | exact trivial | (with_reducible apply Z.frz_agg) | (exact Z.frz_nil) | exact rfl | apply And.intro)); (all_goals (try exact (fun _ => none))); all_goals (first | (simp; done)))

theorem take_0 (ws : List Wk) (ts : List Int) (hw : ws.length ≤ 1000) (ht : ts.length ≤ 1000) (hk : okF ws [] = true) : Con Try.prog 20 [.agg [.ro false 2 ((ws).map eW), .ro false 2 ((([] : List Pl)).map eL)], .one (.ro false 1 (ts.map eI))] (fun rx rK rt => rx = .tup [.agg [.ro true 2 (((takeT ws [] ts).1).map eW), .ro true 2 (((takeT ws [] ts).2.1).map eL)], .one (.v (.int .i64 (takeT ws [] ts).2.2))] ∧ rK = [] ∧ rt = 0) := by
  refine Z.con_ofF tabOk 11 Try.f20 _ Try.func20 (by kernel_rfl) rfl rfl rfl rfl ?_
  have ck := check_con ws [] (by omega) (by simp)
  rw [hk] at ck
  simp only [cond_true] at ck
  have cc := clonew_f3 ws hw
  have cp := clonep_con [] (by simp)
  cases ts with
  | nil =>
    rw [takeT_yes hk rfl]
    repeat' ((conv => whnf); first
      | ((with_reducible apply spB_cong); (focus (simp only [beq_self_eq_true, bne_self_eq_false, Bool.true_bne, Bool.false_bne, Bool.bne_true, Bool.bne_false, Bool.true_beq, Bool.false_beq, Bool.not_true, Bool.not_false, Bool.not_not, Int.reduceBEq, Int.reduceBNe, Int.reduceLE, Int.reduceLT, Int.reduceEq, decide_true, decide_false]; rfl)))
      | with_reducible first | refine spB_no (by decide) ?_
      | with_reducible first | refine Z.loopZ_unroll tabOk 2 ?_
      | with_reducible first | refine Z.callZ_in tabOk 36 Try.f53 _ Try.func53 (by kernel_rfl) rfl rfl rfl ?_ | refine Z.callZ_in tabOk 29 Try.f31 _ Try.func31 (by kernel_rfl) rfl rfl rfl ?_
      | ((first | (with_reducible refine Z.callZ_mk ?_ (ck) ?_) | (with_reducible refine Z.conZ_mz ?_ (cc) ?_) | (with_reducible refine Z.conZ_mz ?_ (cp) ?_)); (focus ((repeat' (first | exact trivial | exact rfl | apply And.intro)); done)))
      | ((with_reducible apply ex_and); exact rfl)
      | with_reducible first | refine Z.drawZ_rule tabOk mixOk ?_ | refine Z.apZ_mk (by kernel_rfl) ?_)
    all_goals (try (conv => whnf))
    all_goals try (show Nat.ble _ _ = true; rfl)
    all_goals first
      | ((first | (with_reducible apply Z.retF2)); (focus (exact rfl)); (repeat' (first | exact trivial | (with_reducible apply Z.frz_one) | (with_reducible apply Z.frz_agg) | (with_reducible apply Z.fq_int) | exact rfl | apply And.intro)); (all_goals (try exact (fun _ => none))); all_goals (first | (simp; done)))
  | cons t l =>
    have ca := placeAt_con ws [] t (by omega) (by simp)
    rw [decide_eq_false (by simp)] at ca
    have hx : (t :: l)[0]? = some t := rfl
    rw [takeT_no hk (takT_no hx rfl (by simp))]
    repeat' ((conv => whnf); first
      | with_reducible first | refine spB_t ?_
      | ((with_reducible apply spB_cong); (focus (simp only [beq_self_eq_true, bne_self_eq_false, Bool.true_bne, Bool.false_bne, Bool.bne_true, Bool.bne_false, Bool.true_beq, Bool.false_beq, Bool.not_true, Bool.not_false, Bool.not_not, Int.reduceBEq, Int.reduceBNe, Int.reduceLE, Int.reduceLT, Int.reduceEq, decide_true, decide_false]; rfl)))
      | with_reducible first | refine spB_no (by decide) ?_
      | (with_reducible refine spB_dec ?_ ?_ <;> intro _ <;> (try (exfalso; first | contradiction | omega | (rename_i hz; refine hz ?_; simp; done) | (rename_i hz; simp at hz; done) | (simp only [LN] at *; omega))))
      | with_reducible first | refine Z.loopZ_unroll tabOk 2 ?_ | refine Z.rowN_known hx ?_
      | ((with_reducible apply ixN_lit); (focus (exact rfl)); (focus (exact rfl)))
      | with_reducible first | refine Z.callZ_in tabOk 36 Try.f53 _ Try.func53 (by kernel_rfl) rfl rfl rfl ?_ | refine Z.callZ_in tabOk 29 Try.f31 _ Try.func31 (by kernel_rfl) rfl rfl rfl ?_
      | ((first | (with_reducible refine Z.callZ_mk ?_ (ca) ?_) | (with_reducible refine Z.callZ_mk ?_ (ck) ?_) | (with_reducible refine Z.conZ_mz ?_ (cc) ?_) | (with_reducible refine Z.conZ_mz ?_ (cp) ?_)); (focus ((repeat' (first | exact trivial | exact rfl | apply And.intro)); done)))
      | ((with_reducible apply ex_and); exact rfl)
      | with_reducible first | refine Z.drawZ_rule tabOk mixOk ?_ | refine Z.apZ_mk (by kernel_rfl) ?_)
    all_goals (try (conv => whnf))
    all_goals try (show Nat.ble _ _ = true; rfl)
    all_goals first
      | ((first | (with_reducible apply Z.retF2)); (focus (exact rfl)); (repeat' (first | exact trivial | (with_reducible apply Z.frz_one) | (with_reducible apply Z.frz_agg) | (with_reducible apply Z.fq_int) | (exact Z.frz_nil) | exact rfl | apply And.intro)); (all_goals (try exact (fun _ => none))); all_goals (first | (simp; done)))

theorem take_n (ws : List Wk) (ps : List Pl) (ts : List Int) (hw : ws.length ≤ 1000) (hp : ps.length ≤ 1000) (ht : ts.length ≤ 1000) (hk : okF ws ps = true) (hpe : ps ≠ []) : Con Try.prog 20 [.agg [.ro false 2 ((ws).map eW), .ro false 2 ((ps).map eL)], .one (.ro false 1 (ts.map eI))] (fun rx rK rt => rx = .tup [.agg [.ro true 2 (((takeT ws ps ts).1).map eW), .ro true 2 (((takeT ws ps ts).2.1).map eL)], .one (.v (.int .i64 (takeT ws ps ts).2.2))] ∧ rK = [] ∧ rt = 0) := by
  refine Z.con_ofF tabOk 11 Try.f20 _ Try.func20 (by kernel_rfl) rfl rfl rfl rfl ?_
  have ck := check_con ws ps (by omega) (by omega)
  rw [hk] at ck
  simp only [cond_true] at ck
  have cc := clonew_f3 ws hw
  have cp := cloneq_con ps hp hpe
  obtain ⟨n, hn⟩ : ∃ n, n = ps.length := ⟨_, rfl⟩
  repeat' ((conv => whnf); first
    | ((with_reducible apply spB_cong); (focus (simp only [beq_self_eq_true, bne_self_eq_false, Bool.true_bne, Bool.false_bne, Bool.bne_true, Bool.bne_false, Bool.true_beq, Bool.false_beq, Bool.not_true, Bool.not_false, Bool.not_not, Int.reduceBEq, Int.reduceBNe, Int.reduceLE, Int.reduceLT, Int.reduceEq, decide_true, decide_false]; rfl)))
    | with_reducible first | refine spB_no (by decide) ?_
    | with_reducible first | refine Z.callZ_in tabOk 36 Try.f53 _ Try.func53 (by kernel_rfl) rfl rfl rfl ?_ | refine Z.callZ_in tabOk 29 Try.f31 _ Try.func31 (by kernel_rfl) rfl rfl rfl ?_
    | ((first | (with_reducible refine Z.callZ_mk ?_ (ck) ?_) | (with_reducible refine Z.conZ_mz ?_ (cc) ?_) | (with_reducible refine Z.conZ_mz ?_ (cp) ?_)); (focus ((repeat' (first | exact trivial | exact rfl | apply And.intro)); done)))
    | with_reducible first | refine Z.drawZ_rule tabOk mixOk ?_ | refine Z.apZ_mk (by kernel_rfl) ?_)
  all_goals (try (conv => whnf))
  all_goals try (show Nat.ble _ _ = true; rfl)
  all_goals try (exfalso; rename_i hz; cases hz; done)
  all_goals try (exfalso; (try simp only [LN] at *) <;> omega)
  refine Z.loopK tabOk (fun zq : Nat × List Pl => [(10, .val (.int .i64 (zq.1 : Int)))]) (fun zq : Nat × List Pl => ([(5, some (Z.Ob.b ⟨(padL n zq.2).map cL, 2, 66, false⟩)), (6, some (Z.Ob.b ⟨[[.ro true 2 (ws.map eW), .osl 5 0 zq.2.length none]], 2, 25, true⟩))] : Z.Kr)) (fun zq => zq.1 ≤ ts.length ∧ zq.2.length + zq.1 = n ∧ takT ps ts = takT zq.2 (ts.drop zq.1)) (fun zq => ts.length - zq.1) (0, ps) 7 [(0, _), (8, _), (9, _)] ⟨rfl, rfl, rfl, trivial⟩ [(0, some _), (1, some _), (2, some _), (3, some _), (4, some _)] ⟨rfl, rfl, rfl, rfl, rfl, trivial⟩ ?_ ?_ rfl rfl ⟨Nat.zero_le _, hn.symm, rfl⟩ ?_
  · repeat' (first | exact trivial | apply And.intro | exact ⟨_, rfl, Z.Imp.refl _⟩)
  · repeat' (first | exact trivial | exact (fun b hb => ⟨b, hb, Z.ImpO.refl b⟩) | (intro b hb; cases hb; refine ⟨_, rfl, ⟨rfl, rfl, rfl⟩, Z.imp_eq ?_⟩; first | rfl | exact pad_cL hn.symm | exact ren_cL.trans (pad_cL hn.symm); done) | apply And.intro)
  rintro ⟨i, A⟩ HINV
  dsimp only at HINV ⊢
  obtain ⟨HI, HA, HO⟩ := HINV
  by_cases hi : i < ts.length
  rotate_left
  · rw [takeT_yes hk (show takT ps ts = some A by rw [HO, List.drop_eq_nil_of_le (by omega)]; rfl)]
    repeat' ((conv => whnf); first
      | ((with_reducible apply spB_cong); (focus (simp only [beq_self_eq_true, bne_self_eq_false, Bool.true_bne, Bool.false_bne, Bool.bne_true, Bool.bne_false, Bool.true_beq, Bool.false_beq, Bool.not_true, Bool.not_false, Bool.not_not, Int.reduceBEq, Int.reduceBNe, Int.reduceLE, Int.reduceLT, Int.reduceEq, decide_true, decide_false]; rfl)))
      | with_reducible first | refine spB_no (by decide) ?_
      | (with_reducible refine spB_dec ?_ ?_ <;> intro _ <;> (try (exfalso; first | contradiction | omega | (rename_i hz; refine hz ?_; simp; done) | (rename_i hz; simp at hz; done) | (simp only [LN] at *; omega))))
      | ((with_reducible apply ex_and); exact rfl))
    all_goals (try (conv => whnf))
    all_goals try (show Nat.ble _ _ = true; rfl)
    all_goals first
      | (refine Z.retF2 [.agg [.ro true 2 (ws.map eW), .osl 5 0 A.length none], .one (.v (.int .i64 0))] (by rfl) ⟨⟨rfl, (Z.frz_oslw (l := A) (f := cL) (ty := 66) (bx := false) (by rfl) rfl (padL_take rfl) (fun _ => rfl)), trivial⟩, rfl, trivial⟩)
  obtain ⟨t, hx⟩ := getElem?_some' (xs := ts) (i := i) hi
  have ca := placeAt_con ws A t (by omega) (by omega)
  by_cases hth : idxT A t < A.length
  rotate_left
  · rw [takeT_no hk (takT_no hx HO hth)]
    rw [decide_eq_false hth] at ca
    repeat' ((conv => whnf); first
      | with_reducible first | refine spB_t ?_
      | ((with_reducible apply spB_cong); (focus (simp only [beq_self_eq_true, bne_self_eq_false, Bool.true_bne, Bool.false_bne, Bool.bne_true, Bool.bne_false, Bool.true_beq, Bool.false_beq, Bool.not_true, Bool.not_false, Bool.not_not, Int.reduceBEq, Int.reduceBNe, Int.reduceLE, Int.reduceLT, Int.reduceEq, decide_true, decide_false]; rfl)))
      | (with_reducible refine spB_dec ?_ ?_ <;> intro _ <;> (try (exfalso; first | contradiction | omega | (rename_i hz; refine hz ?_; simp; done) | (rename_i hz; simp at hz; done) | (simp only [LN] at *; omega))))
      | with_reducible first | refine Z.rowN_known hx ?_
      | ((with_reducible apply ixN_litp); (focus (exact rfl)); (focus ((try simp only [LN] at *) <;> omega)))
      | ((first | (with_reducible refine Z.callZ_mk ?_ (ca) ?_)); (focus ((repeat' (first | exact trivial | exact low_pad | exact rfl | apply And.intro)); done)))
      | ((with_reducible apply ex_and); exact rfl))
    all_goals (try (conv => whnf))
    all_goals try (show Nat.ble _ _ = true; rfl)
    all_goals first
      | ((first | (with_reducible apply Z.retF2)); (focus (exact rfl)); (repeat' (first | exact trivial | (with_reducible apply Z.frz_one) | (with_reducible apply Z.frz_agg) | (with_reducible apply Z.fq_int) | (exact Z.frz_nil) | exact rfl | apply And.intro)); (all_goals (try exact (fun _ => none))); all_goals (first | (simp; done)))
  rw [decide_eq_true hth] at ca
  have hst := fun m (h : idxT A t = m) (h2 : m < A.length) => takT_yes hx HO h h2
  generalize hm : idxT A t = m at *
  have hst := hst m rfl hth
  have hsl := hth
  have hpl : (padL n A).length = n := padL_len (by omega)
  repeat' ((conv => whnf); first
    | ((with_reducible apply spB_cong); (focus (simp only [beq_self_eq_true, bne_self_eq_false, Bool.true_bne, Bool.false_bne, Bool.bne_true, Bool.bne_false, Bool.true_beq, Bool.false_beq, Bool.not_true, Bool.not_false, Bool.not_not, Int.reduceBEq, Int.reduceBNe, Int.reduceLE, Int.reduceLT, Int.reduceEq, decide_true, decide_false]; rfl)))
    | with_reducible first | refine spB_no (by decide) ?_
    | (with_reducible refine spB_dec ?_ ?_ <;> intro _ <;> (try (exfalso; first | contradiction | omega | (rename_i hz; refine hz ?_; simp; done) | (rename_i hz; simp at hz; done) | (simp only [LN] at *; omega))))
    | (with_reducible refine spB_beq ?_ ?_ <;> intro _ <;> (try (exfalso; first | contradiction | omega | (rename_i hz; refine hz ?_; simp; done) | (rename_i hz; simp at hz; done) | (simp only [LN] at *; omega))))
    | ((with_reducible refine Z.callZ_cap ?_); intro capv hcapv)
    | with_reducible first | refine Z.rowN_known hx ?_
    | ((with_reducible refine slN_hi (m) ?_ ?_ ?_); (focus omega); (focus ((try simp only [LN] at *) <;> omega)))
    | ((with_reducible refine Z.slN_lo (m + 1) ?_ ?_ ?_); (focus omega); (focus ((try simp only [LN] at *) <;> omega)))
    | ((with_reducible refine Z.slN_lhc (A.length - 1) A.length ?_ ?_ ?_ ?_ ?_); (iterate 3 (focus ((try simp only [LN] at *) <;> omega))); (focus (exact ⟨_, rfl, by (try simp only [LN] at *) <;> omega⟩)))
    | ((with_reducible refine clrN_mk ?_ ?_ ?_); (focus (show _ ≤ (lay (List.map cL (padL n A)) _ _).length; rw [lay_length (by (try simp only [LN] at *) <;> omega)]; ((try simp only [LN] at *) <;> omega))); (focus rfl))
    | ((with_reducible apply ixN_litp); (focus (exact rfl)); (focus ((try simp only [LN] at *) <;> omega)))
    | ((with_reducible refine apdE_r ?_); (with_reducible refine aprN.mk ⟨_, rfl, ?_⟩ ?_ ?_ ?_ ?_); (focus ((try simp only [LN] at *) <;> omega)); (focus (first | rfl | ((try simp only [LN] at *) <;> omega))); (focus (first | exact one_all (by rfl) | exact one_drop (fun _ => rfl))); (focus ((try simp only [LN] at *) <;> omega)))
    | ((with_reducible refine slE_a ?_ ?_); (focus ((try simp only [LN] at *) <;> omega)))
    | ((with_reducible refine slE_split ?_ ?_ ?_); (focus ((try simp only [LN] at *) <;> omega)); (all_goals intro _))
    | ((with_reducible apply sl3N_mk); (focus (exact rfl)); (focus (exact rfl)); (focus (exact rfl)); (focus ((try simp only [LN] at *) <;> omega)); (focus ((try simp only [LN] at *) <;> omega)); (focus ((try simp only [LN] at *) <;> omega)); (focus ((try simp only [LN] at *) <;> omega)))
    | with_reducible refine wr_i64 (by first | omega | (simp only [LN] at *; omega)) ?_
    | with_reducible first | refine Z.callZ_in tabOk 33 Try.f55 _ Try.func55 (by kernel_rfl) rfl rfl rfl ?_
    | ((first | (with_reducible refine Z.callZ_mk ?_ (ca) ?_)); (focus ((repeat' (first | exact trivial | exact low_pad | exact rfl | apply And.intro)); done)))
    | ((with_reducible apply ex_and); exact rfl)
    | with_reducible first | refine Z.drawZ_rule tabOk mixOk ?_ | refine Z.apZ_mk (by kernel_rfl) ?_)
  all_goals (try (conv => whnf))
  all_goals try (show Nat.ble _ _ = true; rfl)
  all_goals first
    | ((refine Z.rnd_rw 5 ((padL n (A.eraseIdx m)).map cL) rfl rfl ?_ ?_); (focus (exact pad_del2 (by omega) rfl hsl (by omega) (by first | exact pad_drop rfl | (rw [List.drop_eq_nil_of_le (by simp only [List.length_map]; omega)]; rfl)))); ((refine Z.rnd_bi 6 [[.ro true 2 (ws.map eW), .osl 5 0 (A.eraseIdx m).length none]] rfl rfl ⟨⟨Z.Imp.refl _, Z.Imp.oslcn (by rw [List.length_eraseIdx, if_pos hsl]; (try simp only [LN] at *) <;> omega), trivial⟩, trivial⟩ ?_); ((refine Z.rndK ((i + 1, A.eraseIdx m)) (fun s => [0, 1, 2, 3, 4, 5, 6]) rfl rfl rfl rfl ?_ ?_ ?_ ?_); (focus (repeat' (first | exact trivial | exact rfl | apply And.intro))); (focus (repeat' (first | exact trivial | (intro b hb; cases hb; rfl) | exact Z.blk_sub rfl rfl (ren_map fun _ => rfl) | apply And.intro))); (focus (exact ⟨by (try dsimp only); omega, by (try dsimp only); rw [List.length_eraseIdx, if_pos hsl]; omega, by (try dsimp only); exact hst⟩)); ((try dsimp only); omega))))

end Go.Proofs.Ytllnmdmmmkoiaaa
namespace Go.Proofs.Ytllnmdmmmkoiaaa
open Go Go.RowKit Wx
set_option linter.unusedVariables false
set_option linter.unusedSimpArgs false
set_option maxHeartbeats 4000000
theorem come_n (ws : List Wk) (ps : List Pl) (a c : Int) (i : Nat) (hw : ws.length ≤ 1000) (hp : ps.length ≤ 1000) (hk : okF ws ps = true) (hv : (1 ≤ a ∧ a ≤ 4) ∧ 1 ≤ c ∧ c ≤ 8) (hno : ¬ idxW ws a < ws.length) (hi : gtW ws a = i) (hil : i < ws.length) : Con Try.prog 12 [.agg [.ro false 2 ((ws).map eW), .ro false 2 ((ps).map eL)], .agg [.v (.int .i64 a), .v (.int .i64 c)]] (fun rx rK rt => rx = .tup [.agg [.ro true 2 (((ws.take i ++ (⟨a, c⟩ : Wk) :: ws.drop i)).map eW), .ro true 2 ((ps).map eL)], .one (.v (.int .i64 0))] ∧ rK = [] ∧ rt = 0) := by
  refine Z.con_ofF tabOk 11 Try.f12 _ Try.func12 (by kernel_rfl) rfl rfl rfl rfl ?_
  have ck := check_con ws ps (by omega) (by omega)
  rw [hk] at ck
  simp only [cond_true] at ck
  have ca := workerAt_con ws ps a (by omega) (by omega)
  rw [decide_eq_false hno] at ca
  have hne : ws ≠ [] := fun e => by subst e; simp at hil
  have cw := clonew_con ws hw hne
  have cp := clonep_con ps hp
  repeat' ((conv => whnf); first
    | with_reducible first | refine spB_t ?_
    | ((with_reducible apply spB_cong); (focus (simp only [beq_self_eq_true, bne_self_eq_false, Bool.true_bne, Bool.false_bne, Bool.bne_true, Bool.bne_false, Bool.true_beq, Bool.false_beq, Bool.not_true, Bool.not_false, Bool.not_not, Int.reduceBEq, Int.reduceBNe, Int.reduceLE, Int.reduceLT, Int.reduceEq, decide_true, decide_false]; rfl)))
    | with_reducible first | refine spB_no (by decide) ?_ | refine spB_not ?_
    | (with_reducible refine spB_dec ?_ ?_ <;> intro _ <;> (try (exfalso; first | contradiction | omega | (rename_i hz; refine hz ?_; simp; done) | (rename_i hz; simp at hz; done) | (simp only [LN] at *; omega))))
    | with_reducible first | refine Z.callZ_in tabOk 34 Try.f32 _ Try.func32 (by kernel_rfl) rfl rfl rfl ?_ | refine Z.callZ_in tabOk 21 Try.f33 _ Try.func33 (by kernel_rfl) rfl rfl rfl ?_ | refine Z.callZ_in tabOk 21 Try.f35 _ Try.func35 (by kernel_rfl) rfl rfl rfl ?_ | refine Z.callZ_in tabOk 29 Try.f31 _ Try.func31 (by kernel_rfl) rfl rfl rfl ?_
    | ((first | (with_reducible refine Z.callZ_mk ?_ (ca) ?_) | (with_reducible refine Z.callZ_mk ?_ (ck) ?_) | (with_reducible refine Z.conZ_mz ?_ (cw) ?_) | (with_reducible refine Z.conZ_mz ?_ (cp) ?_)); (focus ((repeat' (first | exact trivial | exact rfl | apply And.intro)); done)))
    | ((with_reducible apply ex_and); exact rfl)
    | with_reducible first | refine Z.drawZ_rule tabOk mixOk ?_ | refine Z.apZ_mk (by kernel_rfl) ?_)
  all_goals (try (conv => whnf))
  all_goals try (show Nat.ble _ _ = true; rfl)
  all_goals try (exfalso; rename_i hz; cases hz; done)
  all_goals try (exfalso; (try simp only [LN] at *) <;> omega)
  refine Z.loopK tabOk (fun zq : Nat => [(9, .val (.int .i64 (zq : Int)))]) (fun zq : Nat => ([(5, some (Z.Ob.b ⟨ws.map cW, 2, 27, false⟩))] : Z.Kr)) (fun zq => zq ≤ i) (fun zq => ws.length - zq) 0 8 [(0, _), (1, _), (7, _), (8, _)] ⟨rfl, rfl, rfl, rfl, trivial⟩ [(0, some _), (1, some _), (2, some _), (3, some _), (4, some _), (6, some _), (7, some _)] ⟨rfl, rfl, rfl, rfl, rfl, rfl, rfl, trivial⟩ ?_ ?_ rfl rfl (Nat.zero_le _) ?_
  · repeat' (first | exact trivial | apply And.intro | exact ⟨_, rfl, Z.Imp.refl _⟩)
  · repeat' (first | exact trivial | (intro b hb; cases hb; refine ⟨_, rfl, ⟨rfl, rfl, rfl⟩, Z.imp_eq ?_⟩; first | rfl | exact ren_map (fun _ => rfl) | exact (ren_map (fun _ => rfl)).symm; done) | apply And.intro)
  rintro j HINV
  dsimp only at HINV ⊢
  obtain ⟨x, hx⟩ := getElem?_some' (xs := ws) (i := j) (by omega)
  by_cases hj : j < i
  · have hxa : ¬ a < x.id := gtW_lt hi hj hx
    repeat' ((conv => whnf); first
      | (with_reducible refine spB_dec ?_ ?_ <;> intro _ <;> (try (exfalso; first | contradiction | omega | (rename_i hz; refine hz ?_; simp; done) | (rename_i hz; simp at hz; done) | (simp only [LN] at *; omega))))
      | with_reducible first | refine Z.rowN_known hx ?_
      | ((with_reducible apply ixN_litp); (focus (exact rfl)); (focus ((try simp only [LN] at *) <;> omega)))
      | with_reducible refine wr_i64 (by first | omega | (simp only [LN] at *; omega)) ?_
      | with_reducible first | refine Z.callZ_in tabOk 9 Try.f36 _ Try.func36 (by kernel_rfl) rfl rfl rfl ?_
      | ((with_reducible apply ex_and); exact rfl))
    all_goals (try (conv => whnf))
    all_goals try (show Nat.ble _ _ = true; rfl)
    all_goals first
      | ((refine Z.rndK ((j + 1)) (fun s => [0, 1, 2, 3, 4, 5, 6, 7]) rfl rfl rfl rfl ?_ ?_ ?_ ?_); (focus (repeat' (first | exact trivial | exact rfl | apply And.intro))); (focus (repeat' (first | exact trivial | (intro b hb; cases hb; rfl) | exact Z.blk_sub rfl rfl (ren_map fun _ => rfl) | apply And.intro))); (focus (omega)); ((try dsimp only); omega))
  have hji : j = i := by omega
  subst hji
  have hxa : a < x.id := gtW_at hi hx
  repeat' ((conv => whnf); first
    | with_reducible first | refine spB_t ?_
    | ((with_reducible apply spB_cong); (focus (simp only [beq_self_eq_true, bne_self_eq_false, Bool.true_bne, Bool.false_bne, Bool.bne_true, Bool.bne_false, Bool.true_beq, Bool.false_beq, Bool.not_true, Bool.not_false, Bool.not_not, Int.reduceBEq, Int.reduceBNe, Int.reduceLE, Int.reduceLT, Int.reduceEq, decide_true, decide_false]; rfl)))
    | with_reducible first | refine spB_no (by decide) ?_
    | (with_reducible refine spB_dec ?_ ?_ <;> intro _ <;> (try (exfalso; first | contradiction | omega | (rename_i hz; refine hz ?_; simp; done) | (rename_i hz; simp at hz; done) | (simp only [LN] at *; omega))))
    | (with_reducible refine spB_beq ?_ ?_ <;> intro _ <;> (try (exfalso; first | contradiction | omega | (rename_i hz; refine hz ?_; simp; done) | (rename_i hz; simp at hz; done) | (simp only [LN] at *; omega))))
    | ((with_reducible refine Z.ConZ.red ?_); (apply Z.conZ_ins (N := (ws.length + 1)) (B := ⟨(ws.take j ++ (⟨a, c⟩ : Wk) :: ws.drop j).map cW, 2, 27, false⟩)); (focus rfl); (focus (repeat (first | exact Z.FK.nil | (apply Z.FK.keep; exact rfl) | (apply Z.FK.drop; exact rfl)))); (focus (repeat (first | exact trivial | (refine ⟨(fun o ho => (by first | (cases ho; rfl) | (cases ho; exact Z.inL_map fun _ => rfl) | (cases ho; exact Z.inL_mapr fun _ => rfl) | exact Z.inL_gB ho fun _ => rfl)), ?_⟩)))); (focus rfl); (focus (exact Z.inL_map fun _ => rfl)))
    | ((apply Z.callZ_capS (n := ws.length)); (focus (exact rfl)); (focus (simp; done)); (intro capv hcapv; refine ⟨fun hcap => ?_, fun hcap gv hgv => ?_⟩))
    | ((with_reducible apply Z.callZ_ovl (tS := 22) (tR := 4) tabOk Try.f62 Try.func62 (by kernel_rfl) (by kernel_rfl) (by kernel_rfl) (by kernel_rfl)); (iterate 4 (focus (exact rfl))); (focus (exact Nat.ne_of_beq_eq_false rfl)); (focus (simp; done)); (focus (exact Nat.zero_lt_succ _)))
    | ((with_reducible refine Z.slN_lo (j) ?_ ?_ ?_); (focus rfl); (focus ((try simp only [LN] at *) <;> omega)))
    | ((with_reducible refine Z.slN_lo (j + 1) ?_ ?_ ?_); (focus rfl); (focus ((try simp only [LN] at *) <;> omega)))
    | ((with_reducible refine slN_hi (j) ?_ ?_ ?_); (focus rfl); (focus ((try simp only [LN] at *) <;> omega)))
    | ((with_reducible refine slN_hc (ws.length + 1) ?_ ?_ ?_); (focus rfl); (focus (exact ⟨_, rfl, by omega⟩)))
    | ((with_reducible refine apzE_k ?_); (with_reducible refine apzK_mk (ws.length + 1 - j) ⟨_, rfl, ?_⟩ ?_ ?_ ?_ ?_ ?_ ?_); (focus ((try simp only [LN] at *) <;> omega)); (focus ((try simp only [LN] at *) <;> omega)); (focus (exact g_le (f := cW) rfl (by omega))); (iterate 2 (focus ((try simp only [LN] at *) <;> omega))); (focus rfl))
    | ((with_reducible refine cpyN.mk ?_ ?_ ?_ ?_); (focus rfl); (focus (exact one_all (by rfl))); (focus (exact g_fit (f := cW) rfl (by omega) (by (try simp only [LN] at *) <;> omega))))
    | ((with_reducible refine cpyN.mk ?_ ?_ ?_ ?_); (focus (exact g_len (f := cW) rfl (by (try simp only [LN] at *) <;> omega))); (focus (exact g_one cW_one rfl)); (focus (exact g_fit2 (f := cW) rfl (by omega) (by (try simp only [LN] at *) <;> omega) gS_len)))
    | ((with_reducible refine cpyN.mk2 ?_ ?_ ?_ ?_); (focus (exact g_lenp (f := cW) (by (try simp only [LN] at *) <;> omega))); (focus (exact g_onep cW_one (g_min (by (try simp only [LN] at *) <;> omega)))); (focus (exact g_fitp (f := cW) (by (try simp only [LN] at *) <;> omega))))
    | ((with_reducible refine cpyN.mk ?_ ?_ ?_ ?_); (focus rfl); (focus (exact one_all (by rfl))); (focus (exact g_fitp2 (f := cW) (by (try simp only [LN] at *) <;> omega) (g_fitk (by (try simp only [LN] at *) <;> omega)))))
    | with_reducible first | refine Z.rowN_known hx ?_
    | ((with_reducible apply ixN_litp); (focus (exact rfl)); (focus ((try simp only [LN] at *) <;> omega)))
    | ((with_reducible refine slE_a ?_ ?_); (focus ((try simp only [LN] at *) <;> omega)))
    | with_reducible refine wr_i64 (by first | omega | (simp only [LN] at *; omega)) ?_
    | with_reducible first | refine Z.callZ_in tabOk 9 Try.f36 _ Try.func36 (by kernel_rfl) rfl rfl rfl ?_ | refine Z.callZ_in tabOk 95 Try.f37 _ Try.func37 (by kernel_rfl) rfl rfl rfl ?_
    | ((with_reducible apply ex_and); exact rfl)
    | with_reducible first | refine Z.drawZ_rule tabOk mixOk ?_ | refine Z.apZ_mk (by kernel_rfl) ?_)
  all_goals (try (conv => whnf))
  all_goals try (show Nat.ble _ _ = true; rfl)
  all_goals first
  | (refine ⟨Nat.le_of_ble_eq_true rfl, _, _, _, _, rfl, rfl, ?_, ?_⟩; (focus omega); (exact g_ins (f := cW) rfl (by omega) rfl (gS_eq (by omega) rfl) (gT_eq (f := cW) rfl (Nat.le_min.2 ⟨by omega, by omega⟩) (by omega))))
  | (refine ⟨Nat.le_of_ble_eq_true rfl, _, _, _, _, rfl, rfl, ?_, ?_⟩; (focus omega); (exact g_insp (f := cW) (by omega) (gS_eq (by omega) rfl) (gT_eqp (f := cW) (by omega) (.inl ⟨(Nat.min_eq_right (by omega)).trans (by omega), by omega⟩))))
  | (refine Z.retF2 [.agg [.osl 11 0 (ws.length + 1) none, .ro true 2 (ps.map eL)], .one (.v (.int .i64 0))] (by rfl) ⟨⟨(Z.frz_osl (l := ws.take j ++ (⟨a, c⟩ : Wk) :: ws.drop j) (f := cW) (ty := 27) (bx := false) (by rfl) (by simp; omega) (fun _ => rfl)), rfl, trivial⟩, rfl, trivial⟩)
  | (refine ⟨Nat.le_of_ble_eq_true rfl, _, _, _, _, rfl, rfl, ?_, ?_⟩; (focus omega); skip)
  | skip

end Go.Proofs.Ytllnmdmmmkoiaaa
namespace Go.Proofs.Ytllnmdmmmkoiaaa
open Go Go.RowKit Wx
set_option linter.unusedVariables false
set_option linter.unusedSimpArgs false
set_option maxHeartbeats 4000000
theorem clonew_fr_nil   : Con Try.prog 59 [.one (.v (.slice none 0 0))] (fun rx rK rt => rx = .c (.ro true 2 (([] : List Wk).map eW)) ∧ rK = [] ∧ rt = 0) := by
  refine Z.con_ofF tabOk 8 Try.f59 _ Try.func59 (by kernel_rfl) rfl rfl rfl rfl ?_
  repeat' ((conv => whnf); first
    | with_reducible first | refine spB_t ?_)
  all_goals (try (conv => whnf))
  all_goals first
    | ((first | (with_reducible apply Z.retF1)); (focus (exact rfl)); (repeat' (first | exact trivial | (with_reducible apply Z.frz_one) | (exact Z.frz_nil) | apply And.intro)); (all_goals (try exact (fun _ => none))); all_goals (rfl))

theorem clonew_fr_emp (ad : Addr) (cap : Nat)  : Con Try.prog 59 [.one (.v (.slice (some ad) 0 cap))] (fun rx rK rt => rx = .c (.ro true 2 (([] : List Wk).map eW)) ∧ rK = [] ∧ rt = 0) := by
  refine Z.con_ofF tabOk 8 Try.f59 _ Try.func59 (by kernel_rfl) rfl rfl rfl rfl ?_
  repeat' ((conv => whnf); first
    | with_reducible first | refine spB_no (by decide) ?_
    | ((with_reducible refine apdE_r ?_); (with_reducible refine aprN.mk ⟨_, rfl, ?_⟩ ?_ ?_ ?_ ?_); (focus ((try simp only [LN] at *) <;> omega)); (focus (first | rfl)); (focus (first | exact one_all (by rfl))); (focus ((try simp only [LN] at *) <;> omega))))
  all_goals (try (conv => whnf))
  all_goals first
    | ((first | (with_reducible apply Z.retF1)); (focus (exact rfl)); (repeat' (first | exact trivial | (with_reducible apply Z.frz_one) | (exact Z.frz_osl0 rfl rfl rfl) | apply And.intro)); (all_goals (try exact (fun _ => none))); all_goals (rfl))

theorem clonew_fr_ne (x : Wk) (l : List Wk) (hl : l.length ≤ 1000) : Con Try.prog 59 [.one (.ro false 2 ((x :: l).map eW))] (fun rx rK rt => rx = .c (.ro true 2 ((x :: l).map eW)) ∧ rK = [] ∧ rt = 0) := by
  refine Z.con_ofF tabOk 8 Try.f59 _ Try.func59 (by kernel_rfl) rfl rfl rfl rfl ?_
  repeat' ((conv => whnf); first
    | with_reducible first | refine spB_no (by decide) ?_
    | ((with_reducible refine apdE_k ?_); (with_reducible refine apkN.mk ⟨_, rfl, ?_⟩ ?_); (focus ((try simp only [LN] at *) <;> omega)))
    | ((with_reducible refine apdN.mk ?_ ?_ ?_ ?_ ?_ ?_); (focus (first | (simp; done))); (focus (first | exact one_map2 (fun _ => rfl))); (focus ((try simp only [LN] at *) <;> omega)); (focus ((try simp only [LN] at *) <;> omega)); (focus ((try simp only [LN] at *) <;> omega))))
  all_goals (try (conv => whnf))
  all_goals first
    | ((first | (with_reducible apply Z.retF1)); (focus (exact rfl)); (repeat' (first | exact trivial | (with_reducible apply Z.frz_one) | ((with_reducible apply Z.fq_src); (focus (exact rfl)); (focus (first | (simp only [List.length_map, Nat.zero_add]; done))); (focus (exact fun _ => rfl))) | exact rfl | apply And.intro)); (all_goals (try exact (fun _ => none))); all_goals (rfl))

theorem clonew_fr (l : List Wk) (hl : l.length ≤ 1000) : Con Try.prog 59 [.one (.ro false 2 (l.map eW))] (fun rx rK rt => rx = .c (.ro true 2 (l.map eW)) ∧ rK = [] ∧ rt = 0) := by
  cases l with
  | nil => exact Z.con_nilcases (fun _ => clonew_fr_nil) (fun _ ad cap => clonew_fr_emp ad cap) (fun r rs h => by cases h)
  | cons x l => exact clonew_fr_ne x l (by simp only [List.length_cons] at hl; omega)
theorem come_bad (ws : List Wk) (ps : List Pl) (a c : Int) (hw : ws.length ≤ 1000) (hp : ps.length ≤ 1000) (hk : okF ws ps = false) : Con Try.prog 12 [.agg [.ro false 2 ((ws).map eW), .ro false 2 ((ps).map eL)], .agg [.v (.int .i64 a), .v (.int .i64 c)]] (fun rx rK rt => rx = .tup [.agg [.ro true 2 ((([] : List Wk)).map eW), .ro true 2 ((([] : List Pl)).map eL)], .one (.v (.int .i64 210))] ∧ rK = [] ∧ rt = 0) := by
  refine Z.con_ofF tabOk 11 Try.f12 _ Try.func12 (by kernel_rfl) rfl rfl rfl rfl ?_
  have ck := check_con ws ps (by omega) (by omega)
  rw [hk] at ck
  simp only [cond_false] at ck
  repeat' ((conv => whnf); first
    | with_reducible first | refine spB_t ?_
    | ((with_reducible apply spB_cong); (focus (simp only [beq_self_eq_true, bne_self_eq_false, Bool.true_bne, Bool.false_bne, Bool.bne_true, Bool.bne_false, Bool.true_beq, Bool.false_beq, Bool.not_true, Bool.not_false, Bool.not_not, Int.reduceBEq, Int.reduceBNe, Int.reduceLE, Int.reduceLT, Int.reduceEq, decide_true, decide_false]; rfl)))
    | with_reducible first | refine Z.callZ_in tabOk 29 Try.f31 _ Try.func31 (by kernel_rfl) rfl rfl rfl ?_
    | ((first | (with_reducible refine Z.callZ_mk ?_ (ck) ?_)); (focus ((repeat' (first | exact trivial | exact rfl | apply And.intro)); done)))
    | ((with_reducible apply ex_and); exact rfl))
  all_goals (try (conv => whnf))
  all_goals try (show Nat.ble _ _ = true; rfl)
  all_goals first
    | ((first | (with_reducible apply Z.retF2)); (focus (exact rfl)); (repeat' (first | exact trivial | (with_reducible apply Z.frz_agg) | (exact Z.frz_nil) | exact rfl | apply And.intro)); (all_goals (try exact (fun _ => none))); all_goals (first | (simp; done)))

theorem come_arg (ws : List Wk) (ps : List Pl) (a c : Int) (hw : ws.length ≤ 1000) (hp : ps.length ≤ 1000) (hk : okF ws ps = true) (hv : ¬ ((1 ≤ a ∧ a ≤ 4) ∧ 1 ≤ c ∧ c ≤ 8)) : Con Try.prog 12 [.agg [.ro false 2 ((ws).map eW), .ro false 2 ((ps).map eL)], .agg [.v (.int .i64 a), .v (.int .i64 c)]] (fun rx rK rt => rx = .tup [.agg [.ro true 2 ((([] : List Wk)).map eW), .ro true 2 ((([] : List Pl)).map eL)], .one (.v (.int .i64 2))] ∧ rK = [] ∧ rt = 0) := by
  refine Z.con_ofF tabOk 11 Try.f12 _ Try.func12 (by kernel_rfl) rfl rfl rfl rfl ?_
  have ck := check_con ws ps (by omega) (by omega)
  rw [hk] at ck
  simp only [cond_true] at ck
  have cw := clonew_fr ws hw
  have cp := clonep_con ps hp
  repeat' ((conv => whnf); first
    | with_reducible first | refine spB_t ?_
    | ((with_reducible apply spB_cong); (focus (simp only [beq_self_eq_true, bne_self_eq_false, Bool.true_bne, Bool.false_bne, Bool.bne_true, Bool.bne_false, Bool.true_beq, Bool.false_beq, Bool.not_true, Bool.not_false, Bool.not_not, Int.reduceBEq, Int.reduceBNe, Int.reduceLE, Int.reduceLT, Int.reduceEq, decide_true, decide_false]; rfl)))
    | with_reducible first | refine spB_no (by decide) ?_ | refine spB_not ?_
    | (with_reducible refine spB_dec ?_ ?_ <;> intro _ <;> (try (exfalso; first | contradiction | omega | (rename_i hz; refine hz ?_; simp; done) | (simp only [LN] at *; omega))))
    | with_reducible first | refine Z.callZ_in tabOk 34 Try.f32 _ Try.func32 (by kernel_rfl) rfl rfl rfl ?_ | refine Z.callZ_in tabOk 21 Try.f33 _ Try.func33 (by kernel_rfl) rfl rfl rfl ?_ | refine Z.callZ_in tabOk 29 Try.f31 _ Try.func31 (by kernel_rfl) rfl rfl rfl ?_
    | ((first | (with_reducible refine Z.callZ_mk ?_ (ck) ?_) | (with_reducible refine Z.conZ_mz ?_ (cw) ?_) | (with_reducible refine Z.conZ_mz ?_ (cp) ?_)); (focus ((repeat' (first | exact trivial | exact rfl | apply And.intro)); done)))
    | ((with_reducible apply ex_and); exact rfl)
    | with_reducible first | refine Z.drawZ_rule tabOk mixOk ?_ | refine Z.apZ_mk (by kernel_rfl) ?_)
  all_goals (try (conv => whnf))
  all_goals try (show Nat.ble _ _ = true; rfl)
  all_goals first
    | ((first | (with_reducible apply Z.retF2)); (focus (exact rfl)); (repeat' (first | exact trivial | (with_reducible apply Z.frz_one) | (with_reducible apply Z.frz_agg) | (with_reducible apply Z.fq_int) | (exact Z.frz_nil) | exact rfl | apply And.intro)); (all_goals (try exact (fun _ => none))); all_goals (first | (simp; done)))

theorem come_there (ws : List Wk) (ps : List Pl) (a c : Int) (hw : ws.length ≤ 1000) (hp : ps.length ≤ 1000) (hk : okF ws ps = true) (hv : (1 ≤ a ∧ a ≤ 4) ∧ 1 ≤ c ∧ c ≤ 8) (hyes : idxW ws a < ws.length) : Con Try.prog 12 [.agg [.ro false 2 ((ws).map eW), .ro false 2 ((ps).map eL)], .agg [.v (.int .i64 a), .v (.int .i64 c)]] (fun rx rK rt => rx = .tup [.agg [.ro true 2 ((([] : List Wk)).map eW), .ro true 2 ((([] : List Pl)).map eL)], .one (.v (.int .i64 5))] ∧ rK = [] ∧ rt = 0) := by
  refine Z.con_ofF tabOk 11 Try.f12 _ Try.func12 (by kernel_rfl) rfl rfl rfl rfl ?_
  have ck := check_con ws ps (by omega) (by omega)
  rw [hk] at ck
  simp only [cond_true] at ck
  have cw := clonew_fr ws hw
  have cp := clonep_con ps hp
  have ca := workerAt_con ws ps a (by omega) (by omega)
  rw [decide_eq_true hyes] at ca
  repeat' ((conv => whnf); first
    | with_reducible first | refine spB_t ?_
    | ((with_reducible apply spB_cong); (focus (simp only [beq_self_eq_true, bne_self_eq_false, Bool.true_bne, Bool.false_bne, Bool.bne_true, Bool.bne_false, Bool.true_beq, Bool.false_beq, Bool.not_true, Bool.not_false, Bool.not_not, Int.reduceBEq, Int.reduceBNe, Int.reduceLE, Int.reduceLT, Int.reduceEq, decide_true, decide_false]; rfl)))
    | with_reducible first | refine spB_no (by decide) ?_ | refine spB_not ?_
    | (with_reducible refine spB_dec ?_ ?_ <;> intro _ <;> (try (exfalso; first | contradiction | omega | (rename_i hz; refine hz ?_; simp; done) | (simp only [LN] at *; omega))))
    | with_reducible first | refine Z.callZ_in tabOk 34 Try.f32 _ Try.func32 (by kernel_rfl) rfl rfl rfl ?_ | refine Z.callZ_in tabOk 21 Try.f33 _ Try.func33 (by kernel_rfl) rfl rfl rfl ?_ | refine Z.callZ_in tabOk 29 Try.f31 _ Try.func31 (by kernel_rfl) rfl rfl rfl ?_
    | ((first | (with_reducible refine Z.callZ_mk ?_ (ca) ?_) | (with_reducible refine Z.callZ_mk ?_ (ck) ?_) | (with_reducible refine Z.conZ_mz ?_ (cw) ?_) | (with_reducible refine Z.conZ_mz ?_ (cp) ?_)); (focus ((repeat' (first | exact trivial | exact rfl | apply And.intro)); done)))
    | ((with_reducible apply ex_and); exact rfl)
    | with_reducible first | refine Z.drawZ_rule tabOk mixOk ?_ | refine Z.apZ_mk (by kernel_rfl) ?_)
  all_goals (try (conv => whnf))
  all_goals try (show Nat.ble _ _ = true; rfl)
  all_goals first
    | ((first | (with_reducible apply Z.retF2)); (focus (exact rfl)); (repeat' (first | exact trivial | (with_reducible apply Z.frz_one) | (with_reducible apply Z.frz_agg) | (with_reducible apply Z.fq_int) | (exact Z.frz_nil) | exact rfl | apply And.intro)); (all_goals (try exact (fun _ => none))); all_goals (first | (simp; done)))

end Go.Proofs.Ytllnmdmmmkoiaaa
namespace Go.Proofs.Ytllnmdmmmkoiaaa
open Go Go.RowKit Wx
set_option linter.unusedVariables false
set_option linter.unusedSimpArgs false
set_option maxHeartbeats 4000000
/-- A record whose first field is a slice of nothing: nil, or empty. -/
theorem con_nilagg {P : Program} {g : FuncId} {sz : Nat} {cs : List Ce} {av : List A0} {post : AV → Wx.Kr → Nat → Prop} (h0 : Con P g (.agg (.v (.slice none 0 0) :: cs) :: av) post) (h1 : ∀ ad cap, Con P g (.agg (.v (.slice (some ad) 0 cap) :: cs) :: av) post) : Con P g (.agg (.ro false sz [] :: cs) :: av) post := by
  refine ⟨h0.fn, fun w vs hvs => ?_⟩
  cases vs with
  | nil => exact hvs.elim
  | cons v vs =>
    obtain ⟨⟨us, rfl, hus⟩, hvs⟩ := hvs
    cases us with
    | nil => exact hus.elim
    | cons u us =>
      obtain ⟨hu, hus⟩ := hus
      have hu : Rd _ (.ro sz []) u := hu
      cases hu with
      | nil => exact h0.run w _ ⟨⟨_, rfl, rfl, hus⟩, hvs⟩
      | emp _ ad cap => exact (h1 ad cap).run w _ ⟨⟨_, rfl, rfl, hus⟩, hvs⟩
      | ro => exact (h1 _ _).run w _ ⟨⟨_, rfl, rfl, hus⟩, hvs⟩
theorem con_empagg {P : Program} {g : FuncId} {sz : Nat} {cs : List Ce} {av : List A0} {post : AV → Wx.Kr → Nat → Prop} (ad : Addr) (cap : Nat) (h : Con P g (.agg (.ro false sz [] :: cs) :: av) post) : Con P g (.agg (.v (.slice (some ad) 0 cap) :: cs) :: av) post := by
  refine ⟨h.fn, fun w vs hvs => ?_⟩
  cases vs with
  | nil => exact hvs.elim
  | cons v vs =>
    obtain ⟨⟨us, rfl, hus⟩, hvs⟩ := hvs
    cases us with
    | nil => exact hus.elim
    | cons u us =>
      obtain ⟨hu, hus⟩ := hus
      have hu : u = .slice (some ad) 0 cap := hu
      subst hu
      exact h.run w _ ⟨⟨_, rfl, (show Rd _ (.ro sz []) _ from .emp _ ad cap), hus⟩, hvs⟩
theorem clonew_0   : Con Try.prog 59 [.one (.v (.slice none 0 0))] (fun rx rK rt => rx = .val (.slice none 0 0) ∧ rK = [] ∧ rt = 0) := by
  refine con_of tabOk 8 Try.f59 _ Try.func59 (by kernel_rfl) rfl rfl rfl rfl (fun W => ?_)
  repeat' ((conv => whnf); first
    | with_reducible first | refine spB_t ?_
    | ((with_reducible apply spB_cong); (focus (simp only [beq_self_eq_true, bne_self_eq_false, Bool.true_bne, Bool.false_bne, Bool.bne_true, Bool.bne_false, Bool.true_beq, Bool.false_beq, Bool.not_true, Bool.not_false, Bool.not_not, Int.reduceBEq, Int.reduceBNe, Int.reduceLE, Int.reduceLT, Int.reduceEq, decide_true, decide_false]; rfl)))
    | with_reducible first | refine spB_yes (by decide) ?_ | refine spB_no (by decide) ?_ | refine spB_f ?_ | refine spB_not ?_ | refine spB_yes (by assumption) ?_ | refine spB_no (by assumption) ?_
    | (with_reducible refine spB_dec ?_ ?_ <;> intro _ <;> (try (exfalso; first | contradiction | omega | (rename_i hz; with_reducible exact absurd rfl hz))))
    | (with_reducible refine spB_beq ?_ ?_ <;> intro _ <;> (try (exfalso; first | contradiction | omega | (rename_i hz; with_reducible exact absurd rfl hz))))
    | (with_reducible refine spB_bne ?_ ?_ <;> intro _ <;> (try (exfalso; first | contradiction | omega | (rename_i hz; with_reducible exact absurd rfl hz))))
    | (with_reducible refine spB_mk ?_ ?_ <;> intro _ <;> (try (exfalso; first | contradiction | omega | (rename_i hz; with_reducible exact absurd rfl hz))))
    | ((with_reducible refine apz0N_mk _ ?_ ?_ ?_ ?_ ?_); (focus (first | rfl | exact (Int.toNat_of_nonneg (by omega)).symm)); (focus ((try simp only [LN] at *) <;> omega)); (focus ((try simp only [LN] at *) <;> omega)); (focus ((try simp only [LN] at *) <;> omega)))
    | ((with_reducible refine posE_pos ?_ ?_); (focus ((try simp only [LN] at *) <;> omega)))
    | ((with_reducible refine posE_nil ?_ ?_); (focus rfl))
    | ((with_reducible apply rowN_mk); (focus rfl))
    | ((with_reducible apply ixN_lit); (focus (exact rfl)); (focus (exact rfl)))
    | ((with_reducible apply ixN_litp); (focus (exact rfl)); (focus ((try simp only [LN] at *) <;> omega)))
    | ((with_reducible refine eqN_mk2 ?_ ?_); (focus rfl))
    | ((with_reducible refine posN_mk2 ?_ ?_); (focus (first | decide | ((try simp only [LN] at *) <;> omega))))
    | ((with_reducible refine apdE_r ?_); (with_reducible refine aprN.mk ⟨_, rfl, ?_⟩ ?_ ?_ ?_ ?_); (focus ((try simp only [LN] at *) <;> omega)); (focus (first | rfl | (simp; done) | ((try simp only [LN] at *) <;> omega))); (focus (first | exact one_all (by rfl) | exact one_map (fun _ => rfl) | exact one_map2 (fun _ => rfl) | exact one_drop (fun _ => rfl))); (focus ((try simp only [LN] at *) <;> omega)))
    | ((with_reducible refine apdE_k ?_); (with_reducible refine apkN.mk ⟨_, rfl, ?_⟩ ?_); (focus ((try simp only [LN] at *) <;> omega)))
    | (with_reducible refine apdE_n ?_)
    | ((with_reducible refine slE_a ?_ ?_); (focus ((try simp only [LN] at *) <;> omega)))
    | ((with_reducible refine slE_b ?_ ?_); (focus ((try simp only [LN] at *) <;> omega)))
    | ((with_reducible refine slE_split ?_ ?_ ?_); (focus ((try simp only [LN] at *) <;> omega)); (all_goals intro _))
    | ((with_reducible refine strN_src ?_ ?_ ?_); (focus (exact fun _ => rfl)); (focus ((try simp only [LN] at *) <;> omega)))
    | ((with_reducible refine strN_own ?_ ?_ ?_ ?_); (focus (exact fun _ => rfl)); (focus ((try simp only [LN] at *) <;> omega)); (focus ((try simp only [LN] at *) <;> omega)))
    | ((with_reducible apply sl3N_mk); (focus (exact rfl)); (focus (exact rfl)); (focus (exact rfl)); (focus ((try simp only [LN] at *) <;> omega)); (focus ((try simp only [LN] at *) <;> omega)); (focus ((try simp only [LN] at *) <;> omega)); (focus ((try simp only [LN] at *) <;> omega)))
    | ((with_reducible refine clrN_mk ?_ ?_ ?_); (focus ((try simp only [LN] at *) <;> omega)); (focus rfl))
    | ((with_reducible refine apdN.mk ?_ ?_ ?_ ?_ ?_ ?_); (focus (first | rfl | (simp; done))); (focus (first | exact one_all (by rfl) | exact one_map (fun _ => rfl) | exact one_map2 (fun _ => rfl))); (focus ((try simp only [LN] at *) <;> omega)); (focus ((try simp only [LN] at *) <;> omega)); (focus ((try simp only [LN] at *) <;> omega)))
    | ((with_reducible refine cpyN.mk ?_ ?_ ?_ ?_); (focus (first | rfl | (simp; done))); (focus (first | exact one_all (by rfl) | exact one_map (fun _ => rfl) | exact one_map2 (fun _ => rfl))); (focus ((try simp only [LN] at *) <;> omega)))
    | with_reducible refine wr_i64 (by first | omega | (simp only [LN] at *; omega)) ?_
    | with_reducible refine wr_u64 (by omega) ?_
    | with_reducible refine wr_u8 (by omega) ?_
    | with_reducible refine wr_u32 (by omega) ?_
    | with_reducible first | refine wr_mk _ rfl ?_
    | ((with_reducible refine ixN_nat ?_ ?_); (focus ((try simp only [LN] at *) <;> omega)))
    | ((with_reducible refine rowN_map ?_ ?_); (focus ((try simp only [LN] at *) <;> omega)); intro x hx)
    | ((with_reducible refine posE_nil (by rfl) ?_))
    | ((with_reducible refine posE_pos (by decide) ?_))
    | with_reducible refine vN_mod (by omega) ?_
    | with_reducible first | refine vN_mk ?_
    | with_reducible refine nzN_mk (by omega) ?_
    | with_reducible refine eqN_dec (by omega) ?_
    | with_reducible first | refine draw_rule tabOk mixOk ?_
    | with_reducible refine apN_mk (by kernel_rfl) ?_)
  all_goals (try (conv => whnf))
  refine ret1 [.one (.v (.slice none 0 0))] rfl [] (.val (.slice none 0 0)) [] rfl trivial List.nodup_nil rfl ?_ (fun p hp => nomatch hp) ⟨rfl, rfl, rfl⟩
  intro p b hp; cases hp

theorem clonew_1 (ad : Addr) (cap : Nat)  : Con Try.prog 59 [.one (.v (.slice (some ad) 0 cap))] (fun rx rK rt => rx = .c (.osl 0 0 0 (some 0)) ∧ rK = [(0, some ⟨[], 2, 27, false⟩)] ∧ rt = 1) := by
  refine con_of tabOk 8 Try.f59 _ Try.func59 (by kernel_rfl) rfl rfl rfl rfl (fun W => ?_)
  repeat' ((conv => whnf); first
    | with_reducible first | refine spB_t ?_
    | ((with_reducible apply spB_cong); (focus (simp only [beq_self_eq_true, bne_self_eq_false, Bool.true_bne, Bool.false_bne, Bool.bne_true, Bool.bne_false, Bool.true_beq, Bool.false_beq, Bool.not_true, Bool.not_false, Bool.not_not, Int.reduceBEq, Int.reduceBNe, Int.reduceLE, Int.reduceLT, Int.reduceEq, decide_true, decide_false]; rfl)))
    | with_reducible first | refine spB_yes (by decide) ?_ | refine spB_no (by decide) ?_ | refine spB_f ?_ | refine spB_not ?_ | refine spB_yes (by assumption) ?_ | refine spB_no (by assumption) ?_
    | (with_reducible refine spB_dec ?_ ?_ <;> intro _ <;> (try (exfalso; first | contradiction | omega | (rename_i hz; with_reducible exact absurd rfl hz))))
    | (with_reducible refine spB_beq ?_ ?_ <;> intro _ <;> (try (exfalso; first | contradiction | omega | (rename_i hz; with_reducible exact absurd rfl hz))))
    | (with_reducible refine spB_bne ?_ ?_ <;> intro _ <;> (try (exfalso; first | contradiction | omega | (rename_i hz; with_reducible exact absurd rfl hz))))
    | (with_reducible refine spB_mk ?_ ?_ <;> intro _ <;> (try (exfalso; first | contradiction | omega | (rename_i hz; with_reducible exact absurd rfl hz))))
    | ((with_reducible refine apz0N_mk _ ?_ ?_ ?_ ?_ ?_); (focus (first | rfl | exact (Int.toNat_of_nonneg (by omega)).symm)); (focus ((try simp only [LN] at *) <;> omega)); (focus ((try simp only [LN] at *) <;> omega)); (focus ((try simp only [LN] at *) <;> omega)))
    | ((with_reducible refine posE_pos ?_ ?_); (focus ((try simp only [LN] at *) <;> omega)))
    | ((with_reducible refine posE_nil ?_ ?_); (focus rfl))
    | ((with_reducible apply rowN_mk); (focus rfl))
    | ((with_reducible apply ixN_lit); (focus (exact rfl)); (focus (exact rfl)))
    | ((with_reducible apply ixN_litp); (focus (exact rfl)); (focus ((try simp only [LN] at *) <;> omega)))
    | ((with_reducible refine eqN_mk2 ?_ ?_); (focus rfl))
    | ((with_reducible refine posN_mk2 ?_ ?_); (focus (first | decide | ((try simp only [LN] at *) <;> omega))))
    | ((with_reducible refine apdE_r ?_); (with_reducible refine aprN.mk ⟨_, rfl, ?_⟩ ?_ ?_ ?_ ?_); (focus ((try simp only [LN] at *) <;> omega)); (focus (first | rfl | (simp; done) | ((try simp only [LN] at *) <;> omega))); (focus (first | exact one_all (by rfl) | exact one_map (fun _ => rfl) | exact one_map2 (fun _ => rfl) | exact one_drop (fun _ => rfl))); (focus ((try simp only [LN] at *) <;> omega)))
    | ((with_reducible refine apdE_k ?_); (with_reducible refine apkN.mk ⟨_, rfl, ?_⟩ ?_); (focus ((try simp only [LN] at *) <;> omega)))
    | (with_reducible refine apdE_n ?_)
    | ((with_reducible refine slE_a ?_ ?_); (focus ((try simp only [LN] at *) <;> omega)))
    | ((with_reducible refine slE_b ?_ ?_); (focus ((try simp only [LN] at *) <;> omega)))
    | ((with_reducible refine slE_split ?_ ?_ ?_); (focus ((try simp only [LN] at *) <;> omega)); (all_goals intro _))
    | ((with_reducible refine strN_src ?_ ?_ ?_); (focus (exact fun _ => rfl)); (focus ((try simp only [LN] at *) <;> omega)))
    | ((with_reducible refine strN_own ?_ ?_ ?_ ?_); (focus (exact fun _ => rfl)); (focus ((try simp only [LN] at *) <;> omega)); (focus ((try simp only [LN] at *) <;> omega)))
    | ((with_reducible apply sl3N_mk); (focus (exact rfl)); (focus (exact rfl)); (focus (exact rfl)); (focus ((try simp only [LN] at *) <;> omega)); (focus ((try simp only [LN] at *) <;> omega)); (focus ((try simp only [LN] at *) <;> omega)); (focus ((try simp only [LN] at *) <;> omega)))
    | ((with_reducible refine clrN_mk ?_ ?_ ?_); (focus ((try simp only [LN] at *) <;> omega)); (focus rfl))
    | ((with_reducible refine apdN.mk ?_ ?_ ?_ ?_ ?_ ?_); (focus (first | rfl | (simp; done))); (focus (first | exact one_all (by rfl) | exact one_map (fun _ => rfl) | exact one_map2 (fun _ => rfl))); (focus ((try simp only [LN] at *) <;> omega)); (focus ((try simp only [LN] at *) <;> omega)); (focus ((try simp only [LN] at *) <;> omega)))
    | ((with_reducible refine cpyN.mk ?_ ?_ ?_ ?_); (focus (first | rfl | (simp; done))); (focus (first | exact one_all (by rfl) | exact one_map (fun _ => rfl) | exact one_map2 (fun _ => rfl))); (focus ((try simp only [LN] at *) <;> omega)))
    | with_reducible refine wr_i64 (by first | omega | (simp only [LN] at *; omega)) ?_
    | with_reducible refine wr_u64 (by omega) ?_
    | with_reducible refine wr_u8 (by omega) ?_
    | with_reducible refine wr_u32 (by omega) ?_
    | with_reducible first | refine wr_mk _ rfl ?_
    | ((with_reducible refine ixN_nat ?_ ?_); (focus ((try simp only [LN] at *) <;> omega)))
    | ((with_reducible refine rowN_map ?_ ?_); (focus ((try simp only [LN] at *) <;> omega)); intro x hx)
    | ((with_reducible refine posE_nil (by rfl) ?_))
    | ((with_reducible refine posE_pos (by decide) ?_))
    | with_reducible refine vN_mod (by omega) ?_
    | with_reducible first | refine vN_mk ?_
    | with_reducible refine nzN_mk (by omega) ?_
    | with_reducible refine eqN_dec (by omega) ?_
    | with_reducible first | refine draw_rule tabOk mixOk ?_
    | with_reducible refine apN_mk (by kernel_rfl) ?_)
  all_goals (try (conv => whnf))
  refine ret1b 0 (.c (.osl 0 0 0 (some 0))) [] 2 27 false _ rfl ?_ rfl ?_ rfl rfl (fun r hr => nomatch hr) ⟨rfl, rfl, rfl⟩
  all_goals rfl

theorem come_0n (ps : List Pl) (a c : Int) (hp : ps.length ≤ 1000) (hk : okF [] ps = true) (hv : (1 ≤ a ∧ a ≤ 4) ∧ 1 ≤ c ∧ c ≤ 8) : Con Try.prog 12 [.agg [.v (.slice none 0 0), .ro false 2 (ps.map eL)], .agg [.v (.int .i64 a), .v (.int .i64 c)]] (fun rx rK rt => rx = .tup [.agg [.ro true 2 (([(⟨a, c⟩ : Wk)]).map eW), .ro true 2 ((ps).map eL)], .one (.v (.int .i64 0))] ∧ rK = [] ∧ rt = 0) := by
  refine Z.con_ofF tabOk 11 Try.f12 _ Try.func12 (by kernel_rfl) rfl rfl rfl rfl ?_
  have ck := check_con [] ps (by simp) (by omega)
  rw [hk] at ck
  simp only [cond_true] at ck
  have ca := workerAt_con [] ps a (by simp) (by omega)
  have hno : ¬ idxW [] a < ([] : List Wk).length := by simp
  rw [decide_eq_false hno] at ca
  have cp := clonep_con ps hp
  have cw := clonew_0
  repeat' ((conv => whnf); first
    | with_reducible first | refine spB_t ?_
    | ((with_reducible apply spB_cong); (focus (simp only [beq_self_eq_true, bne_self_eq_false, Bool.true_bne, Bool.false_bne, Bool.bne_true, Bool.bne_false, Bool.true_beq, Bool.false_beq, Bool.not_true, Bool.not_false, Bool.not_not, Int.reduceBEq, Int.reduceBNe, Int.reduceLE, Int.reduceLT, Int.reduceEq, decide_true, decide_false]; rfl)))
    | with_reducible first | refine spB_yes (by decide) ?_ | refine spB_no (by decide) ?_ | refine spB_f ?_ | refine spB_not ?_ | refine spB_yes (by assumption) ?_ | refine spB_no (by assumption) ?_
    | (with_reducible refine spB_dec ?_ ?_ <;> intro _ <;> (try (exfalso; first | contradiction | omega | (rename_i hz; refine hz ?_; simp; done) | (rename_i hz; simp at hz; done) | (simp only [LN] at *; omega))))
    | (with_reducible refine spB_beq ?_ ?_ <;> intro _ <;> (try (exfalso; first | contradiction | omega | (rename_i hz; refine hz ?_; simp; done) | (rename_i hz; simp at hz; done) | (simp only [LN] at *; omega))))
    | (with_reducible refine spB_bne ?_ ?_ <;> intro _ <;> (try (exfalso; first | contradiction | omega | (rename_i hz; refine hz ?_; simp; done) | (rename_i hz; simp at hz; done) | (simp only [LN] at *; omega))))
    | (with_reducible refine spB_mk ?_ ?_ <;> intro _ <;> (try (exfalso; first | contradiction | omega | (rename_i hz; refine hz ?_; simp; done) | (rename_i hz; simp at hz; done) | (simp only [LN] at *; omega))))
    | with_reducible first | refine Z.loopZ_unroll tabOk 3 ?_
    | ((with_reducible refine Z.slN_lo 0 ?_ ?_ ?_); (focus rfl); (focus ((try simp only [LN] at *) <;> omega)))
    | ((with_reducible refine apdE_n ?_); (with_reducible refine apdN.mk ?_ ?_ ?_ ?_ ?_ ?_); (focus rfl); (focus (exact one_all (by rfl))); (focus (simp; done)); (focus ((try simp only [LN] at *) <;> omega)); (focus ((try simp only [LN] at *) <;> omega)))
    | ((with_reducible refine apdE_k ?_); (with_reducible refine apkN.mk ⟨_, rfl, ?_⟩ ?_); (focus omega); (with_reducible refine apdN.mk ?_ ?_ ?_ ?_ ?_ ?_); (focus rfl); (focus (exact one_all (by rfl))); (focus (simp; done)); (focus ((try simp only [LN] at *) <;> omega)); (focus ((try simp only [LN] at *) <;> omega)))
    | ((with_reducible refine apz0N_mk _ ?_ ?_ ?_ ?_ ?_); (focus (first | rfl | exact (Int.toNat_of_nonneg (by omega)).symm)); (focus ((try simp only [LN] at *) <;> omega)); (focus ((try simp only [LN] at *) <;> omega)); (focus ((try simp only [LN] at *) <;> omega)))
    | ((with_reducible refine posE_pos ?_ ?_); (focus ((try simp only [LN] at *) <;> omega)))
    | ((with_reducible refine posE_nil ?_ ?_); (focus rfl))
    | ((with_reducible apply rowN_mk); (focus rfl))
    | ((with_reducible apply ixN_lit); (focus (exact rfl)); (focus (exact rfl)))
    | ((with_reducible apply ixN_litp); (focus (exact rfl)); (focus ((try simp only [LN] at *) <;> omega)))
    | ((with_reducible refine eqN_mk2 ?_ ?_); (focus rfl))
    | ((with_reducible refine posN_mk2 ?_ ?_); (focus (first | decide | ((try simp only [LN] at *) <;> omega))))
    | ((with_reducible refine apdE_r ?_); (with_reducible refine aprN.mk ⟨_, rfl, ?_⟩ ?_ ?_ ?_ ?_); (focus ((try simp only [LN] at *) <;> omega)); (focus (first | rfl | (simp; done) | ((try simp only [LN] at *) <;> omega))); (focus (first | exact one_all (by rfl) | exact one_map (fun _ => rfl) | exact one_map2 (fun _ => rfl) | exact one_drop (fun _ => rfl))); (focus ((try simp only [LN] at *) <;> omega)))
    | ((with_reducible refine apdE_k ?_); (with_reducible refine apkN.mk ⟨_, rfl, ?_⟩ ?_); (focus ((try simp only [LN] at *) <;> omega)))
    | with_reducible first | refine apdE_n ?_
    | ((with_reducible refine slE_a ?_ ?_); (focus ((try simp only [LN] at *) <;> omega)))
    | ((with_reducible refine slE_b ?_ ?_); (focus ((try simp only [LN] at *) <;> omega)))
    | ((with_reducible refine slE_split ?_ ?_ ?_); (focus ((try simp only [LN] at *) <;> omega)); (all_goals intro _))
    | ((with_reducible refine apdN.mk ?_ ?_ ?_ ?_ ?_ ?_); (focus (first | rfl | (simp; done))); (focus (first | exact one_all (by rfl) | exact one_map (fun _ => rfl) | exact one_map2 (fun _ => rfl))); (focus ((try simp only [LN] at *) <;> omega)); (focus ((try simp only [LN] at *) <;> omega)); (focus ((try simp only [LN] at *) <;> omega)))
    | ((with_reducible refine cpyN.mk ?_ ?_ ?_ ?_); (focus (first | rfl | (simp; done))); (focus (first | exact one_all (by rfl) | exact one_map (fun _ => rfl) | exact one_map2 (fun _ => rfl))); (focus ((try simp only [LN] at *) <;> omega)))
    | with_reducible refine wr_i64 (by first | omega | (simp only [LN] at *; omega)) ?_
    | with_reducible refine wr_u64 (by omega) ?_
    | with_reducible refine wr_u8 (by omega) ?_
    | with_reducible refine wr_u32 (by omega) ?_
    | with_reducible first | refine wr_mk _ rfl ?_
    | ((with_reducible refine ixN_nat ?_ ?_); (focus ((try simp only [LN] at *) <;> omega)))
    | ((with_reducible refine rowN_map ?_ ?_); (focus ((try simp only [LN] at *) <;> omega)); intro x hx)
    | ((with_reducible refine posE_nil (by rfl) ?_))
    | ((with_reducible refine posE_pos (by decide) ?_))
    | with_reducible refine eqN_dec (by omega) ?_
    | with_reducible first | refine apN_mk (by kernel_rfl) ?_ | refine Z.callZ_in tabOk 34 Try.f32 _ Try.func32 (by kernel_rfl) rfl rfl rfl ?_ | refine Z.callZ_in tabOk 9 Try.f36 _ Try.func36 (by kernel_rfl) rfl rfl rfl ?_ | refine Z.callZ_in tabOk 21 Try.f35 _ Try.func35 (by kernel_rfl) rfl rfl rfl ?_ | refine Z.callZ_in tabOk 21 Try.f33 _ Try.func33 (by kernel_rfl) rfl rfl rfl ?_ | refine Z.callZ_in tabOk 95 Try.f37 _ Try.func37 (by kernel_rfl) rfl rfl rfl ?_ | refine Z.callZ_in tabOk 10 Try.f63 _ Try.func63 (by kernel_rfl) rfl rfl rfl ?_ | refine Z.callZ_in tabOk 14 Try.f68 _ Try.func68 (by kernel_rfl) rfl rfl rfl ?_ | refine Z.callZ_in tabOk 28 Try.f70 _ Try.func70 (by kernel_rfl) rfl rfl rfl ?_ | refine Z.callZ_in tabOk 29 Try.f31 _ Try.func31 (by kernel_rfl) rfl rfl rfl ?_
    | ((first | (with_reducible refine Z.conZ_mz ?_ (ca) ?_) | (with_reducible refine Z.callZ_mk ?_ (ca) ?_) | (with_reducible refine Z.conZ_mz ?_ (ck) ?_) | (with_reducible refine Z.callZ_mk ?_ (ck) ?_) | (with_reducible refine Z.conZ_mz ?_ (cw) ?_) | (with_reducible refine Z.callZ_mk ?_ (cw) ?_) | (with_reducible refine Z.conZ_mz ?_ (cp) ?_) | (with_reducible refine Z.callZ_mk ?_ (cp) ?_)); (focus ((repeat' (first | exact trivial | exact rfl | exact Z.low_nil | exact Z.low_nil2 | exact low_osl (fun _ => rfl) | (refine Z.low_osln ?_ (fun _ => rfl); (simp only [List.length_map]; done)) | exact low_oslr (fun _ => rfl) | exact Z.low_gslm (by first | rfl | exact Z.kb_some rfl) (fun _ => rfl) | exact .inl rfl | exact .inr ⟨_, rfl⟩ | apply And.intro)); done)))
    | ((with_reducible refine eqN_mk2 ?_ ?_); (focus (exact Z.kb_some rfl)))
    | ((with_reducible apply ex_and); exact rfl)
    | with_reducible first | refine Z.drawZ_rule tabOk mixOk ?_ | refine Z.apZ_mk (by kernel_rfl) ?_
    | ((with_reducible refine Z.ConZ.red ?_); (try subst hlb); (apply Z.conZ_all); (focus (repeat (first | exact Z.FK.nil | (apply Z.FK.keep; exact rfl)))); (focus rfl); (focus rfl); (focus (repeat (first | exact trivial | (refine ⟨(fun o ho => (by first | (cases ho; rfl) | (cases ho; exact Z.inL_map fun _ => rfl) | (cases ho; exact Z.inL_mapr fun _ => rfl) | exact Z.inL_gB ho fun _ => rfl)), ?_⟩)))))
    | ((refine ⟨rfl, ?_, rfl⟩); (focus (repeat (first | exact Z.DK.nil | apply Z.DK.cons))))
    | (focus (exact (rfl : Nat.ble _ _ = true))))
  all_goals (try (conv => whnf))
  all_goals try (show Nat.ble _ _ = true; rfl)
  all_goals first
  | (refine Z.retF2 [.agg [.osl 6 0 (0 + 1) none, .ro true 2 (ps.map eL)], .one (.v (.int .i64 0))] (by rfl) ⟨⟨(Z.frz_osl (l := [(⟨a, c⟩ : Wk)]) (f := cW) (ty := 27) (bx := false) (by rfl) (by simp) (fun _ => rfl)), rfl, trivial⟩, rfl, trivial⟩)
  | (refine Z.retF2 [.agg [.osl 6 0 (1) none, .ro true 2 (ps.map eL)], .one (.v (.int .i64 0))] (by rfl) ⟨⟨(Z.frz_osl (l := [(⟨a, c⟩ : Wk)]) (f := cW) (ty := 27) (bx := false) (by rfl) (by simp) (fun _ => rfl)), rfl, trivial⟩, rfl, trivial⟩)
  | (refine Z.retF2 [.agg [.osl 7 0 (0 + 1) none, .ro true 2 (ps.map eL)], .one (.v (.int .i64 0))] (by rfl) ⟨⟨(Z.frz_osl (l := [(⟨a, c⟩ : Wk)]) (f := cW) (ty := 27) (bx := false) (by rfl) (by simp) (fun _ => rfl)), rfl, trivial⟩, rfl, trivial⟩)
  | (refine Z.retF2 [.agg [.osl 7 0 (1) none, .ro true 2 (ps.map eL)], .one (.v (.int .i64 0))] (by rfl) ⟨⟨(Z.frz_osl (l := [(⟨a, c⟩ : Wk)]) (f := cW) (ty := 27) (bx := false) (by rfl) (by simp) (fun _ => rfl)), rfl, trivial⟩, rfl, trivial⟩)
  | (refine Z.retF2 [.agg [.osl 8 0 (0 + 1) none, .ro true 2 (ps.map eL)], .one (.v (.int .i64 0))] (by rfl) ⟨⟨(Z.frz_osl (l := [(⟨a, c⟩ : Wk)]) (f := cW) (ty := 27) (bx := false) (by rfl) (by simp) (fun _ => rfl)), rfl, trivial⟩, rfl, trivial⟩)
  | (refine Z.retF2 [.agg [.osl 8 0 (1) none, .ro true 2 (ps.map eL)], .one (.v (.int .i64 0))] (by rfl) ⟨⟨(Z.frz_osl (l := [(⟨a, c⟩ : Wk)]) (f := cW) (ty := 27) (bx := false) (by rfl) (by simp) (fun _ => rfl)), rfl, trivial⟩, rfl, trivial⟩)
  | (refine Z.retF2 [.agg [.osl 9 0 (0 + 1) none, .ro true 2 (ps.map eL)], .one (.v (.int .i64 0))] (by rfl) ⟨⟨(Z.frz_osl (l := [(⟨a, c⟩ : Wk)]) (f := cW) (ty := 27) (bx := false) (by rfl) (by simp) (fun _ => rfl)), rfl, trivial⟩, rfl, trivial⟩)
  | (refine Z.retF2 [.agg [.osl 9 0 (1) none, .ro true 2 (ps.map eL)], .one (.v (.int .i64 0))] (by rfl) ⟨⟨(Z.frz_osl (l := [(⟨a, c⟩ : Wk)]) (f := cW) (ty := 27) (bx := false) (by rfl) (by simp) (fun _ => rfl)), rfl, trivial⟩, rfl, trivial⟩)
  | (refine Z.retF2 [.agg [.osl 10 0 (0 + 1) none, .ro true 2 (ps.map eL)], .one (.v (.int .i64 0))] (by rfl) ⟨⟨(Z.frz_osl (l := [(⟨a, c⟩ : Wk)]) (f := cW) (ty := 27) (bx := false) (by rfl) (by simp) (fun _ => rfl)), rfl, trivial⟩, rfl, trivial⟩)
  | (refine Z.retF2 [.agg [.osl 10 0 (1) none, .ro true 2 (ps.map eL)], .one (.v (.int .i64 0))] (by rfl) ⟨⟨(Z.frz_osl (l := [(⟨a, c⟩ : Wk)]) (f := cW) (ty := 27) (bx := false) (by rfl) (by simp) (fun _ => rfl)), rfl, trivial⟩, rfl, trivial⟩)
  | (refine Z.retF2 [.agg [.gsl 8 [cW ⟨a, c⟩], .ro true 2 (ps.map eL)], .one (.v (.int .i64 0))] (by rfl) ⟨⟨⟨2, 27, _, rfl, rfl, rfl⟩, rfl, trivial⟩, rfl, trivial⟩)
  | (fail)

theorem come_0e (ad : Addr) (cap : Nat) (ps : List Pl) (a c : Int) (hp : ps.length ≤ 1000) (hk : okF [] ps = true) (hv : (1 ≤ a ∧ a ≤ 4) ∧ 1 ≤ c ∧ c ≤ 8) : Con Try.prog 12 [.agg [.v (.slice (some ad) 0 cap), .ro false 2 (ps.map eL)], .agg [.v (.int .i64 a), .v (.int .i64 c)]] (fun rx rK rt => rx = .tup [.agg [.ro true 2 (([(⟨a, c⟩ : Wk)]).map eW), .ro true 2 ((ps).map eL)], .one (.v (.int .i64 0))] ∧ rK = [] ∧ rt = 0) := by
  refine Z.con_ofF tabOk 11 Try.f12 _ Try.func12 (by kernel_rfl) rfl rfl rfl rfl ?_
  have ck := check_con [] ps (by simp) (by omega)
  rw [hk] at ck
  simp only [cond_true] at ck
  have ca := workerAt_con [] ps a (by simp) (by omega)
  have hno : ¬ idxW [] a < ([] : List Wk).length := by simp
  rw [decide_eq_false hno] at ca
  have cp := clonep_con ps hp
  have ck := con_empagg ad cap ck
  have ca := con_empagg ad cap ca
  have cw := clonew_1 ad cap
  repeat' ((conv => whnf); first
    | with_reducible first | refine spB_t ?_
    | ((with_reducible apply spB_cong); (focus (simp only [beq_self_eq_true, bne_self_eq_false, Bool.true_bne, Bool.false_bne, Bool.bne_true, Bool.bne_false, Bool.true_beq, Bool.false_beq, Bool.not_true, Bool.not_false, Bool.not_not, Int.reduceBEq, Int.reduceBNe, Int.reduceLE, Int.reduceLT, Int.reduceEq, decide_true, decide_false]; rfl)))
    | with_reducible first | refine spB_yes (by decide) ?_ | refine spB_no (by decide) ?_ | refine spB_f ?_ | refine spB_not ?_ | refine spB_yes (by assumption) ?_ | refine spB_no (by assumption) ?_
    | (with_reducible refine spB_dec ?_ ?_ <;> intro _ <;> (try (exfalso; first | contradiction | omega | (rename_i hz; refine hz ?_; simp; done) | (rename_i hz; simp at hz; done) | (simp only [LN] at *; omega))))
    | (with_reducible refine spB_beq ?_ ?_ <;> intro _ <;> (try (exfalso; first | contradiction | omega | (rename_i hz; refine hz ?_; simp; done) | (rename_i hz; simp at hz; done) | (simp only [LN] at *; omega))))
    | (with_reducible refine spB_bne ?_ ?_ <;> intro _ <;> (try (exfalso; first | contradiction | omega | (rename_i hz; refine hz ?_; simp; done) | (rename_i hz; simp at hz; done) | (simp only [LN] at *; omega))))
    | (with_reducible refine spB_mk ?_ ?_ <;> intro _ <;> (try (exfalso; first | contradiction | omega | (rename_i hz; refine hz ?_; simp; done) | (rename_i hz; simp at hz; done) | (simp only [LN] at *; omega))))
    | with_reducible first | refine Z.loopZ_unroll tabOk 3 ?_
    | ((with_reducible refine Z.slN_lo 0 ?_ ?_ ?_); (focus rfl); (focus ((try simp only [LN] at *) <;> omega)))
    | ((with_reducible refine apdE_n ?_); (with_reducible refine apdN.mk ?_ ?_ ?_ ?_ ?_ ?_); (focus rfl); (focus (exact one_all (by rfl))); (focus (simp; done)); (focus ((try simp only [LN] at *) <;> omega)); (focus ((try simp only [LN] at *) <;> omega)))
    | ((with_reducible refine apdE_k ?_); (with_reducible refine apkN.mk ⟨_, rfl, ?_⟩ ?_); (focus omega); (with_reducible refine apdN.mk ?_ ?_ ?_ ?_ ?_ ?_); (focus rfl); (focus (exact one_all (by rfl))); (focus (simp; done)); (focus ((try simp only [LN] at *) <;> omega)); (focus ((try simp only [LN] at *) <;> omega)))
    | ((with_reducible refine apz0N_mk _ ?_ ?_ ?_ ?_ ?_); (focus (first | rfl | exact (Int.toNat_of_nonneg (by omega)).symm)); (focus ((try simp only [LN] at *) <;> omega)); (focus ((try simp only [LN] at *) <;> omega)); (focus ((try simp only [LN] at *) <;> omega)))
    | ((with_reducible refine posE_pos ?_ ?_); (focus ((try simp only [LN] at *) <;> omega)))
    | ((with_reducible refine posE_nil ?_ ?_); (focus rfl))
    | ((with_reducible apply rowN_mk); (focus rfl))
    | ((with_reducible apply ixN_lit); (focus (exact rfl)); (focus (exact rfl)))
    | ((with_reducible apply ixN_litp); (focus (exact rfl)); (focus ((try simp only [LN] at *) <;> omega)))
    | ((with_reducible refine eqN_mk2 ?_ ?_); (focus rfl))
    | ((with_reducible refine posN_mk2 ?_ ?_); (focus (first | decide | ((try simp only [LN] at *) <;> omega))))
    | ((with_reducible refine apdE_r ?_); (with_reducible refine aprN.mk ⟨_, rfl, ?_⟩ ?_ ?_ ?_ ?_); (focus ((try simp only [LN] at *) <;> omega)); (focus (first | rfl | (simp; done) | ((try simp only [LN] at *) <;> omega))); (focus (first | exact one_all (by rfl) | exact one_map (fun _ => rfl) | exact one_map2 (fun _ => rfl) | exact one_drop (fun _ => rfl))); (focus ((try simp only [LN] at *) <;> omega)))
    | ((with_reducible refine apdE_k ?_); (with_reducible refine apkN.mk ⟨_, rfl, ?_⟩ ?_); (focus ((try simp only [LN] at *) <;> omega)))
    | with_reducible first | refine apdE_n ?_
    | ((with_reducible refine slE_a ?_ ?_); (focus ((try simp only [LN] at *) <;> omega)))
    | ((with_reducible refine slE_b ?_ ?_); (focus ((try simp only [LN] at *) <;> omega)))
    | ((with_reducible refine slE_split ?_ ?_ ?_); (focus ((try simp only [LN] at *) <;> omega)); (all_goals intro _))
    | ((with_reducible refine apdN.mk ?_ ?_ ?_ ?_ ?_ ?_); (focus (first | rfl | (simp; done))); (focus (first | exact one_all (by rfl) | exact one_map (fun _ => rfl) | exact one_map2 (fun _ => rfl))); (focus ((try simp only [LN] at *) <;> omega)); (focus ((try simp only [LN] at *) <;> omega)); (focus ((try simp only [LN] at *) <;> omega)))
    | ((with_reducible refine cpyN.mk ?_ ?_ ?_ ?_); (focus (first | rfl | (simp; done))); (focus (first | exact one_all (by rfl) | exact one_map (fun _ => rfl) | exact one_map2 (fun _ => rfl))); (focus ((try simp only [LN] at *) <;> omega)))
    | with_reducible refine wr_i64 (by first | omega | (simp only [LN] at *; omega)) ?_
    | with_reducible refine wr_u64 (by omega) ?_
    | with_reducible refine wr_u8 (by omega) ?_
    | with_reducible refine wr_u32 (by omega) ?_
    | with_reducible first | refine wr_mk _ rfl ?_
    | ((with_reducible refine ixN_nat ?_ ?_); (focus ((try simp only [LN] at *) <;> omega)))
    | ((with_reducible refine rowN_map ?_ ?_); (focus ((try simp only [LN] at *) <;> omega)); intro x hx)
    | ((with_reducible refine posE_nil (by rfl) ?_))
    | ((with_reducible refine posE_pos (by decide) ?_))
    | with_reducible refine eqN_dec (by omega) ?_
    | with_reducible first | refine apN_mk (by kernel_rfl) ?_ | refine Z.callZ_in tabOk 34 Try.f32 _ Try.func32 (by kernel_rfl) rfl rfl rfl ?_ | refine Z.callZ_in tabOk 9 Try.f36 _ Try.func36 (by kernel_rfl) rfl rfl rfl ?_ | refine Z.callZ_in tabOk 21 Try.f35 _ Try.func35 (by kernel_rfl) rfl rfl rfl ?_ | refine Z.callZ_in tabOk 21 Try.f33 _ Try.func33 (by kernel_rfl) rfl rfl rfl ?_ | refine Z.callZ_in tabOk 95 Try.f37 _ Try.func37 (by kernel_rfl) rfl rfl rfl ?_ | refine Z.callZ_in tabOk 10 Try.f63 _ Try.func63 (by kernel_rfl) rfl rfl rfl ?_ | refine Z.callZ_in tabOk 14 Try.f68 _ Try.func68 (by kernel_rfl) rfl rfl rfl ?_ | refine Z.callZ_in tabOk 28 Try.f70 _ Try.func70 (by kernel_rfl) rfl rfl rfl ?_ | refine Z.callZ_in tabOk 29 Try.f31 _ Try.func31 (by kernel_rfl) rfl rfl rfl ?_
    | ((first | (with_reducible refine Z.conZ_mz ?_ (ca) ?_) | (with_reducible refine Z.callZ_mk ?_ (ca) ?_) | (with_reducible refine Z.conZ_mz ?_ (ck) ?_) | (with_reducible refine Z.callZ_mk ?_ (ck) ?_) | (with_reducible refine Z.conZ_mz ?_ (cw) ?_) | (with_reducible refine Z.callZ_mk ?_ (cw) ?_) | (with_reducible refine Z.conZ_mz ?_ (cp) ?_) | (with_reducible refine Z.callZ_mk ?_ (cp) ?_)); (focus ((repeat' (first | exact trivial | exact rfl | exact Z.low_nil | exact Z.low_nil2 | exact low_osl (fun _ => rfl) | (refine Z.low_osln ?_ (fun _ => rfl); (simp only [List.length_map]; done)) | exact low_oslr (fun _ => rfl) | exact Z.low_gslm (by first | rfl | exact Z.kb_some rfl) (fun _ => rfl) | exact .inl rfl | exact .inr ⟨_, rfl⟩ | apply And.intro)); done)))
    | ((with_reducible refine eqN_mk2 ?_ ?_); (focus (exact Z.kb_some rfl)))
    | ((with_reducible apply ex_and); exact rfl)
    | with_reducible first | refine Z.drawZ_rule tabOk mixOk ?_ | refine Z.apZ_mk (by kernel_rfl) ?_
    | ((with_reducible refine Z.ConZ.red ?_); (try subst hlb); (apply Z.conZ_all); (focus (repeat (first | exact Z.FK.nil | (apply Z.FK.keep; exact rfl)))); (focus rfl); (focus rfl); (focus (repeat (first | exact trivial | (refine ⟨(fun o ho => (by first | (cases ho; rfl) | (cases ho; exact Z.inL_map fun _ => rfl) | (cases ho; exact Z.inL_mapr fun _ => rfl) | exact Z.inL_gB ho fun _ => rfl)), ?_⟩)))))
    | ((refine ⟨rfl, ?_, rfl⟩); (focus (repeat (first | exact Z.DK.nil | apply Z.DK.cons))))
    | (focus (exact (rfl : Nat.ble _ _ = true))))
  all_goals (try (conv => whnf))
  all_goals try (show Nat.ble _ _ = true; rfl)
  all_goals first
  | (refine Z.retF2 [.agg [.osl 6 0 (0 + 1) none, .ro true 2 (ps.map eL)], .one (.v (.int .i64 0))] (by rfl) ⟨⟨(Z.frz_osl (l := [(⟨a, c⟩ : Wk)]) (f := cW) (ty := 27) (bx := false) (by rfl) (by simp) (fun _ => rfl)), rfl, trivial⟩, rfl, trivial⟩)
  | (refine Z.retF2 [.agg [.osl 6 0 (1) none, .ro true 2 (ps.map eL)], .one (.v (.int .i64 0))] (by rfl) ⟨⟨(Z.frz_osl (l := [(⟨a, c⟩ : Wk)]) (f := cW) (ty := 27) (bx := false) (by rfl) (by simp) (fun _ => rfl)), rfl, trivial⟩, rfl, trivial⟩)
  | (refine Z.retF2 [.agg [.osl 7 0 (0 + 1) none, .ro true 2 (ps.map eL)], .one (.v (.int .i64 0))] (by rfl) ⟨⟨(Z.frz_osl (l := [(⟨a, c⟩ : Wk)]) (f := cW) (ty := 27) (bx := false) (by rfl) (by simp) (fun _ => rfl)), rfl, trivial⟩, rfl, trivial⟩)
  | (refine Z.retF2 [.agg [.osl 7 0 (1) none, .ro true 2 (ps.map eL)], .one (.v (.int .i64 0))] (by rfl) ⟨⟨(Z.frz_osl (l := [(⟨a, c⟩ : Wk)]) (f := cW) (ty := 27) (bx := false) (by rfl) (by simp) (fun _ => rfl)), rfl, trivial⟩, rfl, trivial⟩)
  | (refine Z.retF2 [.agg [.osl 8 0 (0 + 1) none, .ro true 2 (ps.map eL)], .one (.v (.int .i64 0))] (by rfl) ⟨⟨(Z.frz_osl (l := [(⟨a, c⟩ : Wk)]) (f := cW) (ty := 27) (bx := false) (by rfl) (by simp) (fun _ => rfl)), rfl, trivial⟩, rfl, trivial⟩)
  | (refine Z.retF2 [.agg [.osl 8 0 (1) none, .ro true 2 (ps.map eL)], .one (.v (.int .i64 0))] (by rfl) ⟨⟨(Z.frz_osl (l := [(⟨a, c⟩ : Wk)]) (f := cW) (ty := 27) (bx := false) (by rfl) (by simp) (fun _ => rfl)), rfl, trivial⟩, rfl, trivial⟩)
  | (refine Z.retF2 [.agg [.osl 9 0 (0 + 1) none, .ro true 2 (ps.map eL)], .one (.v (.int .i64 0))] (by rfl) ⟨⟨(Z.frz_osl (l := [(⟨a, c⟩ : Wk)]) (f := cW) (ty := 27) (bx := false) (by rfl) (by simp) (fun _ => rfl)), rfl, trivial⟩, rfl, trivial⟩)
  | (refine Z.retF2 [.agg [.osl 9 0 (1) none, .ro true 2 (ps.map eL)], .one (.v (.int .i64 0))] (by rfl) ⟨⟨(Z.frz_osl (l := [(⟨a, c⟩ : Wk)]) (f := cW) (ty := 27) (bx := false) (by rfl) (by simp) (fun _ => rfl)), rfl, trivial⟩, rfl, trivial⟩)
  | (refine Z.retF2 [.agg [.osl 10 0 (0 + 1) none, .ro true 2 (ps.map eL)], .one (.v (.int .i64 0))] (by rfl) ⟨⟨(Z.frz_osl (l := [(⟨a, c⟩ : Wk)]) (f := cW) (ty := 27) (bx := false) (by rfl) (by simp) (fun _ => rfl)), rfl, trivial⟩, rfl, trivial⟩)
  | (refine Z.retF2 [.agg [.osl 10 0 (1) none, .ro true 2 (ps.map eL)], .one (.v (.int .i64 0))] (by rfl) ⟨⟨(Z.frz_osl (l := [(⟨a, c⟩ : Wk)]) (f := cW) (ty := 27) (bx := false) (by rfl) (by simp) (fun _ => rfl)), rfl, trivial⟩, rfl, trivial⟩)
  | (refine Z.retF2 [.agg [.gsl 8 [cW ⟨a, c⟩], .ro true 2 (ps.map eL)], .one (.v (.int .i64 0))] (by rfl) ⟨⟨⟨2, 27, _, rfl, rfl, rfl⟩, rfl, trivial⟩, rfl, trivial⟩)
  | (fail)

end Go.Proofs.Ytllnmdmmmkoiaaa
namespace Go.Proofs.Ytllnmdmmmkoiaaa
open Go Go.RowKit Wx
set_option linter.unusedVariables false
set_option linter.unusedSimpArgs false
set_option maxHeartbeats 4000000
/-- What Come tells: the workers, the places, and whether it was refused. -/
def comeT (ws : List Wk) (ps : List Pl) (a c : Int) : List Wk × List Pl × Int :=
  if okF ws ps = true then
    if (1 ≤ a ∧ a ≤ 4) ∧ 1 ≤ c ∧ c ≤ 8 then
      if idxW ws a < ws.length then ([], [], 5) else (ws.take (gtW ws a) ++ ⟨a, c⟩ :: ws.drop (gtW ws a), ps, 0)
    else ([], [], 2)
  else ([], [], 210)
theorem come_con (ws : List Wk) (ps : List Pl) (a c : Int) (hw : ws.length ≤ 1000) (hp : ps.length ≤ 1000) : Con Try.prog 12 [.agg [.ro false 2 (ws.map eW), .ro false 2 (ps.map eL)], .agg [.v (.int .i64 a), .v (.int .i64 c)]] (fun rx rK rt => rx = .tup [.agg [.ro true 2 ((comeT ws ps a c).1.map eW), .ro true 2 ((comeT ws ps a c).2.1.map eL)], .one (.v (.int .i64 (comeT ws ps a c).2.2))] ∧ rK = [] ∧ rt = 0) := by
  by_cases hk : okF ws ps = true
  · by_cases hv : (1 ≤ a ∧ a ≤ 4) ∧ 1 ≤ c ∧ c ≤ 8
    · by_cases hno : idxW ws a < ws.length
      · rw [show comeT ws ps a c = ([], [], 5) by unfold comeT; rw [if_pos hk, if_pos hv, if_pos hno]]
        exact come_there ws ps a c hw hp hk hv hno
      · rw [show comeT ws ps a c = (ws.take (gtW ws a) ++ ⟨a, c⟩ :: ws.drop (gtW ws a), ps, 0) by unfold comeT; rw [if_pos hk, if_pos hv, if_neg hno]]
        by_cases hg : gtW ws a < ws.length
        · exact come_n ws ps a c (gtW ws a) hw hp hk hv hno rfl hg
        · have hl : gtW ws a = ws.length := by
            have : gtW ws a ≤ ws.length := List.findIdx_le_length
            omega
          rw [hl, List.take_length, List.drop_length]
          cases ws with
          | nil => exact con_nilagg (come_0n ps a c hp hk hv) (fun ad cap => come_0e ad cap ps a c hp hk hv)
          | cons w ws => exact come_e (w :: ws) ps a c hw hp hk hv hno hl (by simp)
    · rw [show comeT ws ps a c = ([], [], 2) by unfold comeT; rw [if_pos hk, if_neg hv]]
      exact come_arg ws ps a c hw hp hk hv
  · rw [show comeT ws ps a c = ([], [], 210) by unfold comeT; rw [if_neg hk]]
    exact come_bad ws ps a c hw hp (by cases h : okF ws ps <;> simp_all)
end Go.Proofs.Ytllnmdmmmkoiaaa
namespace Go.Proofs.Ytllnmdmmmkoiaaa
open Go Go.RowKit Wx
set_option linter.unusedVariables false
set_option linter.unusedSimpArgs false
set_option maxHeartbeats 4000000
/-! ### Come, as the document has it -/
def insW (a c : Int) : List Wk → List Wk
  | [] => [⟨a, c⟩]
  | w :: l => if a < w.id then ⟨a, c⟩ :: w :: l else w :: insW a c l
theorem insW_eq {a c : Int} : ∀ {ws : List Wk}, ws.take (gtW ws a) ++ ⟨a, c⟩ :: ws.drop (gtW ws a) = insW a c ws
  | [] => rfl
  | w :: l => by
    unfold gtW insW
    rw [List.findIdx_cons]
    by_cases h : a < w.id
    · rw [if_pos h, decide_eq_true h]; rfl
    · rw [if_neg h, decide_eq_false h]
      show w :: (List.take (gtW l a) l ++ _ :: List.drop (gtW l a) l) = _
      rw [insW_eq]
theorem slF_no {y : Int} : ∀ {ws : List Wk}, (∀ w ∈ ws, w.id ≠ y) → slF ws y = 0
  | [], _ => rfl
  | w :: l, h => by rw [slF, if_neg (h w (by simp)), slF_no fun z hz => h z (List.mem_cons_of_mem _ hz)]
end Go.Proofs.Ytllnmdmmmkoiaaa
namespace Go.Proofs.Ytllnmdmmmkoiaaa
open Go Go.RowKit Wx
set_option linter.unusedVariables false
set_option linter.unusedSimpArgs false
set_option maxHeartbeats 4000000
/-- What Lay tells: the workers, the places, and whether it was refused. -/
def layR (ws : List Wk) (ps : List Pl) (ts : List Int) : List Wk × List Pl × Int :=
  if okF ws ps = true then (if wantT ws ps ts = 0 then (ws, layT ws ps ts, 0) else ([], [], wantT ws ps ts)) else ([], [], 210)
theorem lay_con (ws : List Wk) (ps : List Pl) (ts : List Int) (hw : ws.length ≤ 1000) (hp : ps.length ≤ 1000) (ht : ts.length ≤ 1000) : Con Try.prog 18 [.agg [.ro false 2 (ws.map eW), .ro false 2 (ps.map eL)], .one (.ro false 1 (ts.map eI))] (fun rx rK rt => rx = .tup [.agg [.ro true 2 ((layR ws ps ts).1.map eW), .ro true 2 ((layR ws ps ts).2.1.map eL)], .one (.v (.int .i64 (layR ws ps ts).2.2))] ∧ rK = [] ∧ rt = 0) := by
  by_cases hk : okF ws ps = true
  · by_cases hwt : wantT ws ps ts = 0
    · rw [show layR ws ps ts = (ws, layT ws ps ts, 0) by unfold layR; rw [if_pos hk, if_pos hwt]]
      cases ps with
      | nil => exact con_nil2 (lay_0n ws ts hw ht hk hwt) (fun ad cap => lay_0e ad cap ws ts hw ht hk hwt)
      | cons p l => exact lay_n ws (p :: l) ts hw hp ht hk hwt (by simp)
    · rw [show layR ws ps ts = ([], [], wantT ws ps ts) by unfold layR; rw [if_pos hk, if_neg hwt]]
      exact lay_no ws ps ts hw hp ht hk hwt
  · rw [show layR ws ps ts = ([], [], 210) by unfold layR; rw [if_neg hk]]
    exact lay_bad ws ps ts hw hp ht (by cases h : okF ws ps <;> simp_all)
theorem take_con (ws : List Wk) (ps : List Pl) (ts : List Int) (hw : ws.length ≤ 1000) (hp : ps.length ≤ 1000) (ht : ts.length ≤ 1000) : Con Try.prog 20 [.agg [.ro false 2 (ws.map eW), .ro false 2 (ps.map eL)], .one (.ro false 1 (ts.map eI))] (fun rx rK rt => rx = .tup [.agg [.ro true 2 ((takeT ws ps ts).1.map eW), .ro true 2 ((takeT ws ps ts).2.1.map eL)], .one (.v (.int .i64 (takeT ws ps ts).2.2))] ∧ rK = [] ∧ rt = 0) := by
  cases hk : okF ws ps with
  | false => exact take_bad ws ps ts hw hp ht hk
  | true =>
    cases ps with
    | nil => exact take_0 ws ts hw ht hk
    | cons p l => exact take_n ws (p :: l) ts hw hp ht hk (by simp)
def insL (a c : Int) : List Pl → List Pl
  | [] => [⟨a, c⟩]
  | w :: l => if a < w.task then ⟨a, c⟩ :: w :: l else w :: insL a c l
theorem insL_eq {a c : Int} : ∀ {ws : List Pl}, ws.take (gtT ws a) ++ ⟨a, c⟩ :: ws.drop (gtT ws a) = insL a c ws
  | [] => rfl
  | w :: l => by
    unfold gtT insL
    rw [List.findIdx_cons]
    by_cases h : a < w.task
    · rw [if_pos h, decide_eq_true h]; rfl
    · rw [if_neg h, decide_eq_false h]
      show w :: (List.take (gtT l a) l ++ _ :: List.drop (gtT l a) l) = _
      rw [insL_eq]
theorem ers_fil {id : Int} : ∀ {ws : List Pl}, psrt ws → ws.eraseIdx (idxT ws id) = ws.filter fun w => !decide (w.task = id)
  | [], _ => rfl
  | w :: l, h => by
    have hl := (List.pairwise_cons.1 h).1
    have h1 : psrt l := (List.pairwise_cons.1 h).2
    unfold idxT
    rw [List.findIdx_cons]
    by_cases e : w.task = id
    · rw [decide_eq_true e, List.filter_cons, decide_eq_true e]
      show l = l.filter _
      exact (List.filter_eq_self.2 fun z hz => by have := hl z hz; simp; omega).symm
    · rw [decide_eq_false e, List.filter_cons, decide_eq_false e]
      show w :: l.eraseIdx (idxT l id) = w :: l.filter _
      rw [ers_fil h1]
/-! ### Who has most room -/
theorem room_cons {f : Int → Int} {w : Wk} {l : List Wk} {b : Int} (h : b ≠ 0) : roomF f (w :: l) b = if f w.id > f b then roomF f l w.id else roomF f l b := by
  rw [roomF]
  by_cases e : f w.id > f b
  · rw [if_pos (.inr e), if_pos e]
  · rw [if_neg (by rintro (g | g); exact h g; exact e g), if_neg e]
theorem room_spec {f : Int → Int} : ∀ {l : List Wk} {b : Int}, 0 < b → wsrt l → (∀ w ∈ l, b < w.id) → (roomF f l b = b ∨ ∃ w ∈ l, roomF f l b = w.id) ∧ f b ≤ f (roomF f l b) ∧ (∀ w ∈ l, f w.id ≤ f (roomF f l b)) ∧ (b < roomF f l b → f b < f (roomF f l b)) ∧ (∀ w ∈ l, w.id < roomF f l b → f w.id < f (roomF f l b))
  | [], b, h, _, _ => ⟨.inl rfl, Int.le_refl _, fun w hw => by simp at hw, fun h => by simp [roomF] at h, fun w hw => by simp at hw⟩
  | w :: l, b, hb, hs, hg => by
    have hl := (List.pairwise_cons.1 hs).1
    have hs' : wsrt l := (List.pairwise_cons.1 hs).2
    have hbw := hg w (by simp)
    rw [room_cons (by omega)]
    by_cases e : f w.id > f b
    · rw [if_pos e]
      obtain ⟨h1, h2, h3, h4, h5⟩ := room_spec (f := f) (b := w.id) (by omega) hs' hl
      have hwr : w.id ≤ roomF f l w.id := by
        rcases h1 with h | ⟨z, hz, h⟩
        · omega
        · have := hl z hz; omega
      refine ⟨?_, by omega, fun z hz => ?_, fun _ => by omega, fun z hz hlt => ?_⟩
      · rcases h1 with h | ⟨z, hz, h⟩
        · exact .inr ⟨w, by simp, h⟩
        · exact .inr ⟨z, by simp [hz], h⟩
      · rcases List.mem_cons.1 hz with rfl | hz
        · exact h2
        · exact h3 z hz
      · rcases List.mem_cons.1 hz with rfl | hz
        · exact h4 hlt
        · exact h5 z hz hlt
    · rw [if_neg e]
      obtain ⟨h1, h2, h3, h4, h5⟩ := room_spec (f := f) (b := b) hb hs' (fun z hz => hg z (by simp [hz]))
      refine ⟨?_, h2, fun z hz => ?_, h4, fun z hz hlt => ?_⟩
      · rcases h1 with h | ⟨z, hz, h⟩
        · exact .inl h
        · exact .inr ⟨z, by simp [hz], h⟩
      · rcases List.mem_cons.1 hz with rfl | hz
        · omega
        · exact h3 z hz
      · rcases List.mem_cons.1 hz with rfl | hz
        · have := h4 (by omega); omega
        · exact h5 z hz hlt
theorem room_all {f : Int → Int} {ws : List Wk} (h : okW 0 ws = true) (hne : ws ≠ []) : (∃ w ∈ ws, roomF f ws 0 = w.id) ∧ (∀ w ∈ ws, f w.id ≤ f (roomF f ws 0)) ∧ ∀ w ∈ ws, w.id < roomF f ws 0 → f w.id < f (roomF f ws 0) := by
  obtain ⟨h1, h2⟩ := okW_all.1 h
  cases ws with
  | nil => exact absurd rfl hne
  | cons w l =>
    have hl := (List.pairwise_cons.1 h1).1
    have hs' : wsrt l := (List.pairwise_cons.1 h1).2
    have hw := h2 w (by simp)
    rw [show roomF f (w :: l) 0 = roomF f l w.id by rw [roomF, if_pos (.inl rfl)]]
    obtain ⟨g1, g2, g3, g4, g5⟩ := room_spec (f := f) (b := w.id) (by omega) hs' hl
    refine ⟨?_, fun z hz => ?_, fun z hz hlt => ?_⟩
    · rcases g1 with h | ⟨z, hz, h⟩
      · exact ⟨w, by simp, h⟩
      · exact ⟨z, by simp [hz], h⟩
    · rcases List.mem_cons.1 hz with rfl | hz
      · exact g2
      · exact g3 z hz
    · rcases List.mem_cons.1 hz with rfl | hz
      · exact g4 hlt
      · exact g5 z hz hlt
/-! ### What is kept -/
theorem sum_nil0 : ∀ (ws : List Wk), (ws.map fun w => cnt [] w.id).sum = ((([] : List Pl).length : Nat) : Int)
  | [] => rfl
  | w :: l => by rw [List.map_cons, List.sum_cons, sum_nil0 l]; rfl
theorem sum_left {A : List Pl} : ∀ {ws : List Wk}, wsrt ws → (∀ p ∈ A, ∃ w ∈ ws, w.id = p.wk) → ((ws.map fun w => cnt A w.id).sum = (A.length : Int)) := by
  induction A with
  | nil =>
    intro ws _ _
    exact sum_nil0 ws
  | cons p A ih =>
    intro ws hs hp
    have h1 := ih hs fun q hq => hp q (by simp [hq])
    obtain ⟨w, hw, he⟩ := hp p (by simp)
    have key : ∀ {l : List Wk}, wsrt l → (l.map fun w => cnt (p :: A) w.id).sum = (l.map fun w => cnt A w.id).sum + if (∃ w ∈ l, w.id = p.wk) then 1 else 0 := by
      intro l hl
      induction l with
      | nil => simp
      | cons z l ih2 =>
        have hzl := (List.pairwise_cons.1 hl).1
        have ih3 := ih2 (List.pairwise_cons.1 hl).2
        rw [List.map_cons, List.sum_cons, ih3, List.map_cons, List.sum_cons, show cnt (p :: A) z.id = (if p.wk = z.id then 1 else 0) + cnt A z.id from rfl]
        by_cases e : z.id = p.wk
        · have h2 : ¬ ∃ w ∈ l, w.id = p.wk := fun ⟨v, hv, hve⟩ => by have := hzl v hv; omega
          rw [if_pos e.symm, if_neg h2, if_pos ⟨z, by simp, e⟩]; omega
        · rw [if_neg (fun h => e h.symm)]
          by_cases h2 : ∃ w ∈ l, w.id = p.wk
          · obtain ⟨v, hv, hve⟩ := h2
            rw [if_pos ⟨v, hv, hve⟩, if_pos ⟨v, by simp [hv], hve⟩]; omega
          · rw [if_neg h2, if_neg (by rintro ⟨v, hv, hve⟩; rcases List.mem_cons.1 hv with rfl | hv; exact e hve; exact h2 ⟨v, hv, hve⟩)]
            omega
    rw [key hs, h1, if_pos ⟨w, hw, he⟩]
    simp
theorem sumW_left {ws : List Wk} {A : List Pl} (hk : okF ws A = true) : (ws.map fun w => leftF ws A w.id).sum = sumW ws - (A.length : Int) := by
  obtain ⟨hkw, hkp, hkc⟩ := okF_all hk
  have hs := (okW_all.1 hkw).1
  have hc := (okC_iff hkw).1 hkc
  have h1 : (ws.map fun w => cnt A w.id).sum = (A.length : Int) := sum_left hs fun p hp => by
    have h2 := hc p.wk
    have h3 := cnt_mem hp
    exact slF_ne (by omega)
  rw [← h1]
  have key : ∀ {l : List Wk}, (∀ w ∈ l, slF ws w.id = w.sl) → (l.map fun w => leftF ws A w.id).sum = sumW l - (l.map fun w => cnt A w.id).sum := by
    intro l hl
    induction l with
    | nil => rfl
    | cons z l ih =>
      have h4 := ih fun w hw => hl w (by simp [hw])
      simp only [sumW, List.map_cons, List.sum_cons] at h4 ⊢
      rw [h4]
      unfold leftF
      rw [hl z (by simp)]; omega
  exact key fun w hw => slF_of hs hw
theorem sum_pos {l : List Int} (h : 0 < l.sum) : ∃ x ∈ l, 0 < x := by
  refine Classical.byContradiction fun g => ?_
  have : l.sum ≤ 0 := by
    clear h
    induction l with
    | nil => simp
    | cons x l ih =>
      have h1 : ¬ 0 < x := fun e => g ⟨x, by simp, e⟩
      have h2 := ih fun ⟨y, hy, e⟩ => g ⟨y, by simp [hy], e⟩
      simp only [List.sum_cons]; omega
  omega
theorem room_there {ws : List Wk} {A : List Pl} (hk : okF ws A = true) (h : 0 < sumW ws - (A.length : Int)) : ∃ w ∈ ws, 0 < leftF ws A w.id := by
  rw [← sumW_left hk] at h
  obtain ⟨x, hx, hp⟩ := sum_pos h
  obtain ⟨w, hw, rfl⟩ := List.mem_map.1 hx
  exact ⟨w, hw, hp⟩
theorem room_pos {ws : List Wk} {A : List Pl} (hk : okF ws A = true) (h : 0 < sumW ws - (A.length : Int)) : 0 < leftF ws A (roomF (leftF ws A) ws 0) ∧ ∃ w ∈ ws, roomF (leftF ws A) ws 0 = w.id := by
  obtain ⟨w, hw, hp⟩ := room_there hk h
  obtain ⟨h1, h2, _⟩ := room_all (f := leftF ws A) (okF_all hk).1 (fun e => by subst e; simp at hw)
  have := h2 w hw
  exact ⟨by omega, h1⟩
theorem insL_mem {a c : Int} {q : Pl} : ∀ {A : List Pl}, q ∈ insL a c A ↔ q = ⟨a, c⟩ ∨ q ∈ A
  | [] => by simp [insL]
  | p :: l => by
    unfold insL
    split
    · simp
    · simp only [List.mem_cons, insL_mem (A := l)]
      constructor
      · rintro (h | h | h)
        · exact .inr (.inl h)
        · exact .inl h
        · exact .inr (.inr h)
      · rintro (h | h | h)
        · exact .inr (.inl h)
        · exact .inl h
        · exact .inr (.inr h)
theorem insT_L {A : List Pl} {p : Pl} : insT A p = insL p.task p.wk A := by unfold insT; rw [← insL_eq]
theorem insT_mem {A : List Pl} {p q : Pl} : q ∈ insT A p ↔ q = p ∨ q ∈ A := by rw [insT_L, insL_mem]
theorem insL_srt {a c : Int} : ∀ {A : List Pl}, psrt A → (∀ p ∈ A, p.task ≠ a) → psrt (insL a c A)
  | [], _, _ => by simp [insL, psrt]
  | p :: l, hs, hn => by
    have hl := (List.pairwise_cons.1 hs).1
    have hs' : psrt l := (List.pairwise_cons.1 hs).2
    have hp := hn p (by simp)
    unfold insL
    split
    · rename_i h
      refine List.pairwise_cons.2 ⟨fun q hq => ?_, hs⟩
      rcases List.mem_cons.1 hq with rfl | hq
      · exact h
      · have := hl q hq; dsimp only; omega
    · rename_i h
      refine List.pairwise_cons.2 ⟨fun q hq => ?_, insL_srt hs' fun q hq => hn q (by simp [hq])⟩
      rcases insL_mem.1 hq with rfl | hq
      · dsimp only; omega
      · exact hl q hq
theorem idxT_yes {A : List Pl} {t : Int} : idxT A t < A.length ↔ ∃ p ∈ A, p.task = t := by
  unfold idxT
  rw [List.findIdx_lt_length]
  simp
theorem want_0 {ws : List Wk} {A : List Pl} {l : List Int} : wantT ws A l = 0 ↔ okTs l = true ∧ freshT A l = true ∧ (l.length : Int) ≤ sumW ws - (A.length : Int) := by
  unfold wantT
  cases okTs l <;> cases freshT A l <;> simp
theorem fresh_iff {A : List Pl} {l : List Int} : freshT A l = true ↔ l.Nodup ∧ ∀ t ∈ l, ∀ p ∈ A, p.task ≠ t := by
  unfold freshT
  rw [Bool.and_eq_true, decide_eq_true_eq, List.all_eq_true]
  refine and_congr_right fun _ => ⟨fun h t ht p hp e => ?_, fun h t ht => decide_eq_true ?_⟩
  · exact of_decide_eq_true (h t ht) (idxT_yes.2 ⟨p, hp, e⟩)
  · intro g; obtain ⟨p, hp, e⟩ := idxT_yes.1 g; exact h t ht p hp e
/-- A task laid: the floor may be, and the rest is wanted as before. -/
theorem lay_keep {ws : List Wk} {A : List Pl} {t : Int} {l : List Int} (hk : okF ws A = true) (hw : wantT ws A (t :: l) = 0) : okF ws (insT A ⟨t, roomF (leftF ws A) ws 0⟩) = true ∧ wantT ws (insT A ⟨t, roomF (leftF ws A) ws 0⟩) l = 0 := by
  obtain ⟨h1, h2, h3⟩ := want_0.1 hw
  obtain ⟨h4, h5⟩ := fresh_iff.1 h2
  obtain ⟨hkw, hkp, hkc⟩ := okF_all hk
  have hr := room_pos hk (by simp only [List.length_cons] at h3; omega)
  have ht := of_decide_eq_true (List.all_eq_true.1 h1 t (by simp))
  have hA := okT_all.1 hkp
  have hn : ∀ p ∈ A, p.task ≠ t := h5 t (by simp)
  generalize roomF (leftF ws A) ws 0 = b at *
  refine ⟨?_, want_0.2 ⟨?_, ?_, ?_⟩⟩
  · unfold okF
    rw [hkw, show okT (-1) (insT A ⟨t, b⟩) = true from okT_all.2 ⟨by rw [insT_L]; exact insL_srt hA.1 hn, fun p hp => ?_⟩, (okC_iff hkw).2 fun y => ?_]
    · rfl
    · rw [cnt_ins]
      have h6 := (okC_iff hkw).1 hkc y
      dsimp only
      by_cases e : b = y
      · subst e; rw [if_pos rfl]; have := hr.1; unfold leftF at this; omega
      · rw [if_neg e]; omega
    · rcases insT_mem.1 hp with rfl | hp
      · dsimp only; omega
      · exact hA.2 p hp
  · unfold okTs at h1 ⊢; rw [List.all_cons, Bool.and_eq_true] at h1; exact h1.2
  · refine fresh_iff.2 ⟨(List.nodup_cons.1 h4).2, fun s hs p hp e => ?_⟩
    rcases insT_mem.1 hp with rfl | hp
    · dsimp only at e; subst e; exact (List.nodup_cons.1 h4).1 hs
    · exact h5 s (by simp [hs]) p hp e
  · rw [insT_len]; simp only [List.length_cons] at h3; omega
theorem layT_len {ws : List Wk} : ∀ {l : List Int} {A : List Pl}, (layT ws A l).length = A.length + l.length
  | [], A => by simp [layT]
  | t :: l, A => by rw [layT, layT_len, insT_len, List.length_cons]; omega
/-! ### What is taken -/
theorem srt_filter {A : List Pl} {p : Pl → Bool} (h : psrt A) : psrt (A.filter p) := List.Pairwise.filter p h
theorem takT_doc : ∀ {l : List Int} {A : List Pl}, psrt A → takT A l = if l.Nodup ∧ ∀ t ∈ l, ∃ p ∈ A, p.task = t then some (A.filter fun p => !decide (p.task ∈ l)) else none
  | [], A, h => by
    rw [takT, if_pos ⟨List.nodup_nil, fun t ht => by simp at ht⟩]; exact congrArg some (List.filter_eq_self.2 fun p hp => by simp).symm
  | t :: l, A, h => by
    rw [takT]
    by_cases ht : idxT A t < A.length
    · obtain ⟨p, hp, hpt⟩ := idxT_yes.1 ht
      rw [if_pos ht, ers_fil h, takT_doc (srt_filter h)]
      by_cases hc : (t :: l).Nodup ∧ ∀ s ∈ t :: l, ∃ p ∈ A, p.task = s
      · obtain ⟨h1, h2⟩ := hc
        have h3 := List.nodup_cons.1 h1
        rw [if_pos (show l.Nodup ∧ ∀ s ∈ l, ∃ p ∈ A.filter (fun w => !decide (w.task = t)), p.task = s from ⟨h3.2, fun s hs => ?_⟩), if_pos ⟨h1, h2⟩]
        · rw [List.filter_filter]
          congr 1
          refine List.filter_congr fun q _ => ?_
          by_cases e : q.task = t <;> simp [e]
        · obtain ⟨q, hq, hqe⟩ := h2 s (by simp [hs])
          refine ⟨q, List.mem_filter.2 ⟨hq, ?_⟩, hqe⟩
          have : q.task ≠ t := fun e => h3.1 (by rw [← e, hqe]; exact hs)
          simp [this]
      · rw [if_neg hc, if_neg]
        rintro ⟨h1, h2⟩
        refine hc ⟨List.nodup_cons.2 ⟨fun hm => ?_, h1⟩, fun s hs => ?_⟩
        · obtain ⟨q, hq, hqe⟩ := h2 t hm
          have := (List.mem_filter.1 hq).2
          simp [hqe] at this
        · rcases List.mem_cons.1 hs with rfl | hs
          · exact ⟨p, hp, hpt⟩
          · obtain ⟨q, hq, hqe⟩ := h2 s hs
            exact ⟨q, (List.mem_filter.1 hq).1, hqe⟩
    · rw [if_neg ht, if_neg]
      rintro ⟨_, h2⟩
      exact ht (idxT_yes.2 (h2 t (by simp)))
end Go.Proofs.Ytllnmdmmmkoiaaa
namespace Go.Proofs.Ytllnmdmmmkoiaaa
open Go Go.RowKit Wx
set_option linter.unusedVariables false
set_option linter.unusedSimpArgs false
set_option maxHeartbeats 4000000
theorem clonew_fr2_nil   : Con Try.prog 59 [.one (.v (.slice none 0 0))] (fun rx rK rt => rx = .c (.ro true 2 (([] : List Wk).map eW)) ∧ rK = [] ∧ rt = 0) := by
  refine Z.con_ofF tabOk 8 Try.f59 _ Try.func59 (by kernel_rfl) rfl rfl rfl rfl ?_
  repeat' ((conv => whnf); first
    | with_reducible first | refine spB_t ?_)
  all_goals (try (conv => whnf))
  all_goals first
    | ((first | (with_reducible apply Z.retF1)); (focus (exact rfl)); (repeat' (first | exact trivial | (with_reducible apply Z.frz_one) | (exact Z.frz_nil) | apply And.intro)); (all_goals (try exact (fun _ => none))); all_goals (rfl))

theorem clonew_fr2_emp (ad : Addr) (cap : Nat)  : Con Try.prog 59 [.one (.v (.slice (some ad) 0 cap))] (fun rx rK rt => rx = .c (.ro true 2 (([] : List Wk).map eW)) ∧ rK = [] ∧ rt = 0) := by
  refine Z.con_ofF tabOk 8 Try.f59 _ Try.func59 (by kernel_rfl) rfl rfl rfl rfl ?_
  repeat' ((conv => whnf); first
    | with_reducible first | refine spB_no (by decide) ?_
    | ((with_reducible refine apdE_r ?_); (with_reducible refine aprN.mk ⟨_, rfl, ?_⟩ ?_ ?_ ?_ ?_); (focus ((try simp only [LN] at *) <;> omega)); (focus (first | rfl)); (focus (first | exact one_all (by rfl))); (focus ((try simp only [LN] at *) <;> omega))))
  all_goals (try (conv => whnf))
  all_goals first
    | ((first | (with_reducible apply Z.retF1)); (focus (exact rfl)); (repeat' (first | exact trivial | (with_reducible apply Z.frz_one) | (exact Z.frz_osl0 rfl rfl rfl) | apply And.intro)); (all_goals (try exact (fun _ => none))); all_goals (rfl))

theorem clonew_fr2_ne (x : Wk) (l : List Wk) (hl : l.length ≤ 1000) : Con Try.prog 59 [.one (.ro false 2 ((x :: l).map eW))] (fun rx rK rt => rx = .c (.ro true 2 ((x :: l).map eW)) ∧ rK = [] ∧ rt = 0) := by
  refine Z.con_ofF tabOk 8 Try.f59 _ Try.func59 (by kernel_rfl) rfl rfl rfl rfl ?_
  repeat' ((conv => whnf); first
    | with_reducible first | refine spB_no (by decide) ?_
    | ((with_reducible refine apdE_k ?_); (with_reducible refine apkN.mk ⟨_, rfl, ?_⟩ ?_); (focus ((try simp only [LN] at *) <;> omega)))
    | ((with_reducible refine apdN.mk ?_ ?_ ?_ ?_ ?_ ?_); (focus (first | (simp; done))); (focus (first | exact one_map2 (fun _ => rfl))); (focus ((try simp only [LN] at *) <;> omega)); (focus ((try simp only [LN] at *) <;> omega)); (focus ((try simp only [LN] at *) <;> omega))))
  all_goals (try (conv => whnf))
  all_goals first
    | ((first | (with_reducible apply Z.retF1)); (focus (exact rfl)); (repeat' (first | exact trivial | (with_reducible apply Z.frz_one) | ((with_reducible apply Z.fq_src); (focus (exact rfl)); (focus (first | (simp only [List.length_map, Nat.zero_add]; done))); (focus (exact fun _ => rfl))) | exact rfl | apply And.intro)); (all_goals (try exact (fun _ => none))); all_goals (rfl))

theorem clonew_fr2 (l : List Wk) (hl : l.length ≤ 1000) : Con Try.prog 59 [.one (.ro false 2 (l.map eW))] (fun rx rK rt => rx = .c (.ro true 2 (l.map eW)) ∧ rK = [] ∧ rt = 0) := by
  cases l with
  | nil => exact Z.con_nilcases (fun _ => clonew_fr2_nil) (fun _ ad cap => clonew_fr2_emp ad cap) (fun r rs h => by cases h)
  | cons x l => exact clonew_fr2_ne x l (by simp only [List.length_cons] at hl; omega)
theorem go_bad (ws : List Wk) (ps : List Pl) (id : Int) (hw : ws.length ≤ 1000) (hp : ps.length ≤ 1000) (hk : okF ws ps = false) : Con Try.prog 14 [.agg [.ro false 2 ((ws).map eW), .ro false 2 ((ps).map eL)], .one (.v (.int .i64 id))] (fun rx rK rt => rx = .tup [.agg [.ro true 2 ((([] : List Wk)).map eW), .ro true 2 ((([] : List Pl)).map eL)], .one (.ro true 1 (([] : List Int).map eI)), .one (.v (.int .i64 210))] ∧ rK = [] ∧ rt = 0) := by
  refine Z.con_ofF tabOk 23 Try.f14 _ Try.func14 (by kernel_rfl) rfl rfl rfl rfl ?_
  have ck := check_con ws ps (by omega) (by omega)
  rw [hk] at ck
  simp only [cond_false] at ck
  repeat' ((conv => whnf); first
    | with_reducible first | refine spB_t ?_
    | ((with_reducible apply spB_cong); (focus (simp only [beq_self_eq_true, bne_self_eq_false, Bool.true_bne, Bool.false_bne, Bool.bne_true, Bool.bne_false, Bool.true_beq, Bool.false_beq, Bool.not_true, Bool.not_false, Bool.not_not, Int.reduceBEq, Int.reduceBNe, Int.reduceLE, Int.reduceLT, Int.reduceEq, decide_true, decide_false]; rfl)))
    | with_reducible first | refine Z.callZ_in tabOk 29 Try.f31 _ Try.func31 (by kernel_rfl) rfl rfl rfl ?_
    | ((first | (with_reducible refine Z.callZ_mk ?_ (ck) ?_)); (focus ((repeat' (first | exact trivial | exact rfl | apply And.intro)); done)))
    | ((with_reducible apply ex_and); exact rfl))
  all_goals (try (conv => whnf))
  all_goals try (show Nat.ble _ _ = true; rfl)
  all_goals first
    | ((first | (with_reducible apply Z.retF2)); (focus (exact rfl)); (repeat' (first | exact trivial | (with_reducible apply Z.frz_one) | (with_reducible apply Z.frz_agg) | (exact Z.frz_nil) | exact rfl | apply And.intro)); (all_goals (try exact (fun _ => none))); all_goals (first | (simp; done)))

theorem go_none (ws : List Wk) (ps : List Pl) (id : Int) (hw : ws.length ≤ 1000) (hp : ps.length ≤ 1000) (hk : okF ws ps = true) (hno : ¬ idxW ws id < ws.length) : Con Try.prog 14 [.agg [.ro false 2 ((ws).map eW), .ro false 2 ((ps).map eL)], .one (.v (.int .i64 id))] (fun rx rK rt => rx = .tup [.agg [.ro true 2 ((([] : List Wk)).map eW), .ro true 2 ((([] : List Pl)).map eL)], .one (.ro true 1 (([] : List Int).map eI)), .one (.v (.int .i64 4))] ∧ rK = [] ∧ rt = 0) := by
  refine Z.con_ofF tabOk 23 Try.f14 _ Try.func14 (by kernel_rfl) rfl rfl rfl rfl ?_
  have ck := check_con ws ps (by omega) (by omega)
  rw [hk] at ck
  simp only [cond_true] at ck
  have cw := clonew_fr2 ws hw
  have cp := clonep_con ps hp
  have ca := workerAt_con ws ps id (by omega) (by omega)
  rw [decide_eq_false hno] at ca
  repeat' ((conv => whnf); first
    | with_reducible first | refine spB_t ?_
    | ((with_reducible apply spB_cong); (focus (simp only [beq_self_eq_true, bne_self_eq_false, Bool.true_bne, Bool.false_bne, Bool.bne_true, Bool.bne_false, Bool.true_beq, Bool.false_beq, Bool.not_true, Bool.not_false, Bool.not_not, Int.reduceBEq, Int.reduceBNe, Int.reduceLE, Int.reduceLT, Int.reduceEq, decide_true, decide_false]; rfl)))
    | with_reducible first | refine spB_no (by decide) ?_
    | with_reducible first | refine Z.callZ_in tabOk 35 Try.f40 _ Try.func40 (by kernel_rfl) rfl rfl rfl ?_ | refine Z.callZ_in tabOk 29 Try.f31 _ Try.func31 (by kernel_rfl) rfl rfl rfl ?_
    | ((first | (with_reducible refine Z.callZ_mk ?_ (ca) ?_) | (with_reducible refine Z.callZ_mk ?_ (ck) ?_) | (with_reducible refine Z.conZ_mz ?_ (cw) ?_) | (with_reducible refine Z.conZ_mz ?_ (cp) ?_)); (focus ((repeat' (first | exact trivial | exact rfl | apply And.intro)); done)))
    | ((with_reducible apply ex_and); exact rfl)
    | with_reducible first | refine Z.drawZ_rule tabOk mixOk ?_ | refine Z.apZ_mk (by kernel_rfl) ?_)
  all_goals (try (conv => whnf))
  all_goals try (show Nat.ble _ _ = true; rfl)
  all_goals first
    | ((first | (with_reducible apply Z.retF2)); (focus (exact rfl)); (repeat' (first | exact trivial | (with_reducible apply Z.frz_one) | (with_reducible apply Z.frz_agg) | (with_reducible apply Z.fq_int) | (exact Z.frz_nil) | exact rfl | apply And.intro)); (all_goals (try exact (fun _ => none))); all_goals (first | (simp; done)))

end Go.Proofs.Ytllnmdmmmkoiaaa
namespace Go.Proofs.Ytllnmdmmmkoiaaa
open Go Go.RowKit Wx
set_option linter.unusedVariables false
set_option linter.unusedSimpArgs false
set_option maxHeartbeats 4000000
theorem go_p1 (ws : List Wk) (ps : List Pl) (id : Int) (i : Nat) (hw : ws.length ≤ 1000) (hp : ps.length ≤ 1000) (hk : okF ws ps = true) (hi : idxW ws id = i) (hil : i < ws.length) (hi1 : i + 1 < ws.length) (hex : ¬ keepP id ps = ps) : Con Try.prog 14 [.agg [.ro false 2 ((ws).map eW), .ro false 2 ((ps).map eL)], .one (.v (.int .i64 id))] (fun rx rK rt => rx = .tup [.agg [.ro true 2 (((ws.eraseIdx i)).map eW), .ro true 2 (((keepP id ps)).map eL)], .one (.ro true 1 ((atL ps id).map eI)), .one (.v (.int .i64 0))] ∧ rK = [] ∧ rt = 0) := by
  refine Z.con_ofF tabOk 23 Try.f14 _ Try.func14 (by kernel_rfl) rfl rfl rfl rfl ?_
  have ck := check_con ws ps (by omega) (by omega)
  rw [hk] at ck
  simp only [cond_true] at ck
  have ca := workerAt_con ws ps id (by omega) (by omega)
  rw [decide_eq_true (by omega), hi] at ca
  have hne : ws ≠ [] := fun e => by subst e; simp at hil
  have hpe : ps ≠ [] := fun e => by subst e; exact hex rfl
  have cw := clonew_con ws hw hne
  have cp := cloneq_con ps hp hpe
  repeat' ((conv => whnf); first
    | ((with_reducible apply spB_cong); (focus (simp only [beq_self_eq_true, bne_self_eq_false, Bool.true_bne, Bool.false_bne, Bool.bne_true, Bool.bne_false, Bool.true_beq, Bool.false_beq, Bool.not_true, Bool.not_false, Bool.not_not, Int.reduceBEq, Int.reduceBNe, Int.reduceLE, Int.reduceLT, Int.reduceEq, decide_true, decide_false]; rfl)))
    | with_reducible first | refine spB_no (by decide) ?_
    | (with_reducible refine spB_beq ?_ ?_ <;> intro _ <;> (try (exfalso; first | contradiction | omega | (rename_i hz; refine hz ?_; simp; done) | (rename_i hz; simp at hz; done) | (simp only [LN] at *; omega))))
    | ((apply Z.callZ_capn (n := ws.length)); intro capv hcapv)
    | ((apply Z.callZ_capn (n := ps.length)); intro capp hcapp)
    | ((with_reducible refine slN_hi (i) ?_ ?_ ?_); (focus rfl); (focus ((try simp only [LN] at *) <;> omega)))
    | ((with_reducible refine Z.slN_lo (i + 1) ?_ ?_ ?_); (focus rfl); (focus ((try simp only [LN] at *) <;> omega)))
    | ((with_reducible refine Z.slN_lhc (ws.length - 1) ws.length ?_ ?_ ?_ ?_ ?_); (iterate 3 (focus ((try simp only [LN] at *) <;> omega))); (focus (exact ⟨_, rfl, by (try simp only [LN] at *) <;> omega⟩)))
    | ((with_reducible refine apdE_r ?_); (with_reducible refine aprN.mk ⟨_, rfl, ?_⟩ ?_ ?_ ?_ ?_); (focus ((try simp only [LN] at *) <;> omega)); (focus (exact g_len (f := cW) (ren_map fun _ => rfl) (by (try simp only [LN] at *) <;> omega))); (focus (exact g_one cW_one (ren_map fun _ => rfl))); (focus (exact g_le (f := cW) (ren_map fun _ => rfl) (by (try simp only [LN] at *) <;> omega))))
    | ((with_reducible refine clrN_mk ?_ ?_ ?_); (focus (exact g_clr (f := cW) (ren_map fun _ => rfl) (by first | (rw [g_len (f := cW) (l := ws) (ren_map fun _ => rfl) (by (try simp only [LN] at *) <;> omega)]; omega) | (simp; omega)) (by (try simp only [LN] at *) <;> omega))); (focus rfl))
    | ((with_reducible refine slE_a ?_ ?_); (focus ((try simp only [LN] at *) <;> omega)))
    | ((with_reducible apply sl3N_mk); (focus (exact rfl)); (focus (exact rfl)); (focus (exact rfl)); (focus ((try simp only [LN] at *) <;> omega)); (focus ((try simp only [LN] at *) <;> omega)); (focus ((try simp only [LN] at *) <;> omega)); (focus ((try simp only [LN] at *) <;> omega)))
    | with_reducible refine wr_i64 (by first | omega | (simp only [LN] at *; omega)) ?_
    | with_reducible first | refine Z.callZ_in tabOk 35 Try.f40 _ Try.func40 (by kernel_rfl) rfl rfl rfl ?_ | refine Z.callZ_in tabOk 33 Try.f41 _ Try.func41 (by kernel_rfl) rfl rfl rfl ?_ | refine Z.callZ_in tabOk 42 Try.f42 _ Try.func42 (by kernel_rfl) rfl rfl rfl ?_ | refine Z.callZ_in tabOk 19 Try.f64 _ Try.func64 (by kernel_rfl) rfl rfl rfl ?_ | refine Z.callZ_in tabOk 29 Try.f31 _ Try.func31 (by kernel_rfl) rfl rfl rfl ?_
    | ((first | (with_reducible refine Z.callZ_mk ?_ (ca) ?_) | (with_reducible refine Z.callZ_mk ?_ (ck) ?_) | (with_reducible refine Z.conZ_mz ?_ (cw) ?_) | (with_reducible refine Z.conZ_mz ?_ (cp) ?_)); (focus ((repeat' (first | exact trivial | exact rfl | apply And.intro)); done)))
    | ((with_reducible apply ex_and); exact rfl)
    | with_reducible first | refine Z.drawZ_rule tabOk mixOk ?_ | refine Z.apZ_mk (by kernel_rfl) ?_)
  all_goals (try (conv => whnf))
  all_goals try (show Nat.ble _ _ = true; rfl)
  refine Z.loopK tabOk (fun zq : Nat => [(8, .val (.int .i64 (zq : Int)))]) (fun zq : Nat => ([(5, some (Z.Ob.b ⟨(ws.eraseIdx i ++ [(⟨0, 0⟩ : Wk)]).map cW, 2, 27, false⟩)), (6, some (Z.Ob.b ⟨ps.map cL, 2, 66, false⟩))] : Z.Kr)) (fun zq => zq ≤ ps.length ∧ keepP id (ps.take zq) = ps.take zq) (fun zq => ps.length - zq) 0 8 [(0, _), (1, _), (7, _)] ⟨rfl, rfl, rfl, trivial⟩ [(0, some _), (1, some _), (2, some _), (3, some _), (4, some _), (7, some _)] ⟨rfl, rfl, rfl, rfl, rfl, rfl, trivial⟩ ?_ ?_ rfl rfl ⟨Nat.zero_le _, rfl⟩ ?_
  · repeat' (first | exact trivial | apply And.intro | exact ⟨_, rfl, Z.Imp.refl _⟩)
  · repeat' (first | exact trivial | (intro b hb; cases hb; refine ⟨_, rfl, ⟨rfl, rfl, rfl⟩, Z.imp_eq ?_⟩; first | rfl | exact ren_map (fun _ => rfl) | exact (ren_map (fun _ => rfl)).symm | exact del_full (f := cW) (ren_map (fun _ => rfl)) hil rfl (by rw [show ws.length - (ws.length - 1) = 1 by omega]; rfl) | exact (del_full (f := cW) (ren_map (fun _ => rfl)) hil rfl (by rw [show ws.length - (ws.length - 1) = 1 by omega]; rfl)).symm; done) | apply And.intro)
  rintro h HINV
  dsimp only at HINV ⊢
  obtain ⟨HH, HK⟩ := HINV
  have hh : h < ps.length := by
    rcases Nat.lt_or_ge h ps.length with h9 | h9
    · exact h9
    · rw [List.take_of_length_le h9] at HK; exact absurd HK hex
  obtain ⟨x, hx⟩ := getElem?_some' (xs := ps) (i := h) hh
  by_cases hd : x.wk = id
  rotate_left
  · skip
    repeat' ((conv => whnf); first
      | (with_reducible refine spB_dec ?_ ?_ <;> intro _ <;> (try (exfalso; first | contradiction | omega | (rename_i hz; refine hz ?_; simp; done) | (rename_i hz; simp at hz; done) | (simp only [LN] at *; omega))))
      | (with_reducible refine spB_beq ?_ ?_ <;> intro _ <;> (try (exfalso; first | contradiction | omega | (rename_i hz; refine hz ?_; simp; done) | (rename_i hz; simp at hz; done) | (simp only [LN] at *; omega))))
      | ((with_reducible refine rowN_mk (cL x) ?_ ?_); (focus (show (List.map cL ps)[0 + h]? = some (cL x); rw [Nat.zero_add, List.getElem?_map, hx]; rfl)))
      | ((with_reducible apply ixN_litp); (focus (exact rfl)); (focus ((try simp only [LN] at *) <;> omega)))
      | with_reducible refine wr_i64 (by first | omega | (simp only [LN] at *; omega)) ?_
      | with_reducible first | refine Z.callZ_in tabOk 8 Try.f43 _ Try.func43 (by kernel_rfl) rfl rfl rfl ?_
      | ((with_reducible apply ex_and); exact rfl))
    all_goals (try (conv => whnf))
    all_goals try (show Nat.ble _ _ = true; rfl)
    all_goals first
      | ((refine Z.rndK ((h + 1)) (fun s => [0, 1, 2, 3, 4, 5, 6, 7]) rfl rfl rfl rfl ?_ ?_ ?_ ?_); (focus (repeat' (first | exact trivial | exact rfl | apply And.intro))); (focus (repeat' (first | exact trivial | (intro b hb; cases hb; rfl) | exact Z.blk_sub rfl rfl (ren_map fun _ => rfl) | apply And.intro))); (focus (refine ⟨by (try dsimp only); omega, ?_⟩; (try dsimp only); rw [keepP_yes hx hd, HK, ← take_snoc hx])); ((try dsimp only); omega))
  have hkh : ps.take h = keepP id (ps.take (h + 1)) := by rw [keepP_no hx hd, HK]
  repeat' ((conv => whnf); first
    | (with_reducible refine spB_dec ?_ ?_ <;> intro _ <;> (try (exfalso; first | contradiction | omega | (rename_i hz; refine hz ?_; simp; done) | (rename_i hz; simp at hz; done) | (simp only [LN] at *; omega))))
    | (with_reducible refine spB_beq ?_ ?_ <;> intro _ <;> (try (exfalso; first | contradiction | omega | (rename_i hz; refine hz ?_; simp; done) | (rename_i hz; simp at hz; done) | (simp only [LN] at *; omega))))
    | ((with_reducible refine rowN_mk (cL x) ?_ ?_); (focus (show (List.map cL ps)[0 + h]? = some (cL x); rw [Nat.zero_add, List.getElem?_map, hx]; rfl)))
    | ((with_reducible apply ixN_litp); (focus (exact rfl)); (focus ((try simp only [LN] at *) <;> omega)))
    | with_reducible refine wr_i64 (by first | omega | (simp only [LN] at *; omega)) ?_
    | with_reducible first | refine Z.callZ_in tabOk 8 Try.f43 _ Try.func43 (by kernel_rfl) rfl rfl rfl ?_
    | ((with_reducible apply ex_and); exact rfl))
  all_goals (try (conv => whnf))
  all_goals try (show Nat.ble _ _ = true; rfl)
  refine Z.loopK tabOk (fun zq : Nat × Nat × List Pl => [(6, .val (.int .i64 (zq.1 : Int))), (5, .val (.int .i64 (zq.2.1 : Int)))]) (fun zq : Nat × Nat × List Pl => ([(6, some (Z.Ob.b ⟨((zq.2.2) ++ ps.drop zq.2.1).map cL, 2, 66, false⟩))] : Z.Kr)) (fun zq => zq.2.1 < zq.1 ∧ zq.1 ≤ ps.length ∧ zq.2.1 = (zq.2.2).length ∧ zq.2.2 = keepP id (ps.take zq.1)) (fun zq => ps.length - zq.1) (h + 1, h, ps.take h) 9 [(0, _), (1, _)] ⟨rfl, rfl, trivial⟩ [(0, some _), (1, some _), (2, some _), (3, some _), (4, some _), (5, some _), (7, some _)] ⟨rfl, rfl, rfl, rfl, rfl, rfl, rfl, trivial⟩ ?_ ?_ rfl rfl ⟨Nat.lt_succ_self _, by (try dsimp only); omega, (show h = (List.take h ps).length by rw [List.length_take]; omega), hkh⟩ ?_
  · repeat' (first | exact trivial | apply And.intro | exact ⟨_, rfl, Z.Imp.refl _⟩)
  · repeat' (first | exact trivial | (intro b hb; cases hb; refine ⟨_, rfl, ⟨rfl, rfl, rfl⟩, Z.imp_eq ?_⟩; first | rfl | exact ren_map (fun _ => rfl) | rw [List.take_append_drop]; done) | apply And.intro)
  rintro ⟨j, m, acc⟩ HINV
  dsimp only at HINV ⊢
  obtain ⟨HJ, HJ2, rfl, HC⟩ := HINV
  by_cases hjl : j < ps.length
  · obtain ⟨y, hy⟩ := getElem?_some' (xs := ps) (i := j) hjl
    obtain ⟨z, hz⟩ := getElem?_some' (xs := ps) (i := acc.length) (by omega)
    repeat' ((conv => whnf); first
      | with_reducible first | refine spB_not ?_
      | (with_reducible refine spB_dec ?_ ?_ <;> intro _ <;> (try (exfalso; first | contradiction | omega | (rename_i hz; refine hz ?_; simp; done) | (rename_i hz; simp at hz; done) | (simp only [LN] at *; omega))))
      | (with_reducible refine spB_beq ?_ ?_ <;> intro _ <;> (try (exfalso; first | contradiction | omega | (rename_i hz; refine hz ?_; simp; done) | (rename_i hz; simp at hz; done) | (simp only [LN] at *; omega))))
      | ((with_reducible refine rowN_mk (cL y) ?_ ?_); (focus (exact midp_get (by omega) hy)))
      | ((with_reducible refine rowN_mk (cL z) ?_ ?_); (focus (exact midp_get (Nat.le_refl _) hz)))
      | ((with_reducible apply ixN_litp); (focus (exact rfl)); (focus ((try simp only [LN] at *) <;> omega)))
      | with_reducible refine wr_i64 (by first | omega | (simp only [LN] at *; omega)) ?_
      | with_reducible first | refine Z.callZ_in tabOk 8 Try.f43 _ Try.func43 (by kernel_rfl) rfl rfl rfl ?_
      | ((with_reducible apply ex_and); exact rfl))
    all_goals (try (conv => whnf))
    all_goals try (show Nat.ble _ _ = true; rfl)
    all_goals first
      | ((refine Z.rnd_rw 6 (((acc ++ [y]) ++ ps.drop (acc.length + 1)).map cL) rfl rfl ?_ ?_); (focus (exact midp_set (by omega))); ((refine Z.rndK ((j + 1, acc.length + 1, acc ++ [y])) (fun s => [0, 1, 2, 3, 4, 5, 6, 7, 8]) rfl rfl rfl rfl ?_ ?_ ?_ ?_); (focus (repeat' (first | exact trivial | exact rfl | apply And.intro))); (focus (repeat' (first | exact trivial | (intro b hb; cases hb; rfl) | exact Z.blk_sub rfl rfl (ren_map fun _ => rfl) | apply And.intro))); (focus (refine ⟨by (try dsimp only); omega, by (try dsimp only); omega, by simp, ?_⟩; (try dsimp only); rw [keepP_yes hy (by assumption), ← HC])); ((try dsimp only); omega)))
      | ((refine Z.rndK ((j + 1, acc.length, acc)) (fun s => [0, 1, 2, 3, 4, 5, 6, 7, 8]) rfl rfl rfl rfl ?_ ?_ ?_ ?_); (focus (repeat' (first | exact trivial | exact rfl | apply And.intro))); (focus (repeat' (first | exact trivial | (intro b hb; cases hb; rfl) | exact Z.blk_sub rfl rfl (ren_map fun _ => rfl) | apply And.intro))); (focus (refine ⟨by (try dsimp only); omega, by (try dsimp only); omega, rfl, ?_⟩; (try dsimp only); rw [keepP_no hy (by assumption), ← HC])); ((try dsimp only); omega))
  have hfin : acc = keepP id ps := by rw [HC, List.take_of_length_le (by omega)]
  repeat' ((conv => whnf); first
    | ((with_reducible apply spB_cong); (focus (simp only [beq_self_eq_true, bne_self_eq_false, Bool.true_bne, Bool.false_bne, Bool.bne_true, Bool.bne_false, Bool.true_beq, Bool.false_beq, Bool.not_true, Bool.not_false, Bool.not_not, Int.reduceBEq, Int.reduceBNe, Int.reduceLE, Int.reduceLT, Int.reduceEq, decide_true, decide_false]; rfl)))
    | with_reducible first | refine spB_no (by decide) ?_
    | (with_reducible refine spB_dec ?_ ?_ <;> intro _ <;> (try (exfalso; first | contradiction | omega | (rename_i hz; refine hz ?_; simp; done) | (rename_i hz; simp at hz; done) | (simp only [LN] at *; omega))))
    | ((with_reducible refine Z.slN_lo acc.length ?_ ?_ ?_); (focus rfl); (focus ((try simp only [LN] at *) <;> omega)))
    | ((with_reducible refine slN_hi acc.length ?_ ?_ ?_); (focus rfl); (focus ((try simp only [LN] at *) <;> omega)))
    | ((with_reducible refine slE_a ?_ ?_); (focus ((try simp only [LN] at *) <;> omega)))
    | ((with_reducible refine clrN_mk ?_ ?_ ?_); (focus ((try simp only [LN] at *) <;> omega)); (focus rfl))
    | ((first | (with_reducible apply Z.conZ_mz ?_ (tasks_con _ _ _ ?_ ?_) ?_)); (rotate_left 3); (focus ((repeat' (first | exact trivial | exact rfl | apply And.intro)); done)); (iterate 2 (focus (first | assumption))))
    | ((with_reducible apply ex_and); exact rfl)
    | with_reducible first | refine Z.drawZ_rule tabOk mixOk ?_ | refine Z.apZ_mk (by kernel_rfl) ?_)
  all_goals (try (conv => whnf))
  all_goals try (show Nat.ble _ _ = true; rfl)
  all_goals first
  | (rw [← hfin]; refine Z.retF2 [.agg [.osl 5 0 (i - 0 + (ws.length - (i + 1))) (some capv), .osl 6 0 (acc.length - 0) (some capp)], .one (.ro true 1 ((atL ps id).map eI)), .one (.v (.int .i64 0))] (by rfl) ⟨⟨(Z.frz_oslw (l := ws.eraseIdx i) (f := cW) (ty := 27) (bx := false) (by rfl) (by rw [List.length_eraseIdx, if_pos hil]; omega) (tk_del hil (by omega)) (fun _ => rfl)), (Z.frz_oslw (l := acc) (f := cL) (ty := 66) (bx := false) (by rfl) (by simp) cutp_rows (fun _ => rfl)), trivial⟩, rfl, rfl, trivial⟩)
  | (fail)

theorem go_p2 (ws : List Wk) (ps : List Pl) (id : Int) (i : Nat) (hw : ws.length ≤ 1000) (hp : ps.length ≤ 1000) (hk : okF ws ps = true) (hi : idxW ws id = i) (hil : i < ws.length) (hi1 : i + 1 = ws.length) (hex : ¬ keepP id ps = ps) : Con Try.prog 14 [.agg [.ro false 2 ((ws).map eW), .ro false 2 ((ps).map eL)], .one (.v (.int .i64 id))] (fun rx rK rt => rx = .tup [.agg [.ro true 2 (((ws.eraseIdx i)).map eW), .ro true 2 (((keepP id ps)).map eL)], .one (.ro true 1 ((atL ps id).map eI)), .one (.v (.int .i64 0))] ∧ rK = [] ∧ rt = 0) := by
  refine Z.con_ofF tabOk 23 Try.f14 _ Try.func14 (by kernel_rfl) rfl rfl rfl rfl ?_
  have ck := check_con ws ps (by omega) (by omega)
  rw [hk] at ck
  simp only [cond_true] at ck
  have ca := workerAt_con ws ps id (by omega) (by omega)
  rw [decide_eq_true (by omega), hi] at ca
  have hne : ws ≠ [] := fun e => by subst e; simp at hil
  have hpe : ps ≠ [] := fun e => by subst e; exact hex rfl
  have cw := clonew_con ws hw hne
  have cp := cloneq_con ps hp hpe
  repeat' ((conv => whnf); first
    | ((with_reducible apply spB_cong); (focus (simp only [beq_self_eq_true, bne_self_eq_false, Bool.true_bne, Bool.false_bne, Bool.bne_true, Bool.bne_false, Bool.true_beq, Bool.false_beq, Bool.not_true, Bool.not_false, Bool.not_not, Int.reduceBEq, Int.reduceBNe, Int.reduceLE, Int.reduceLT, Int.reduceEq, decide_true, decide_false]; rfl)))
    | with_reducible first | refine spB_no (by decide) ?_
    | (with_reducible refine spB_beq ?_ ?_ <;> intro _ <;> (try (exfalso; first | contradiction | omega | (rename_i hz; refine hz ?_; simp; done) | (rename_i hz; simp at hz; done) | (simp only [LN] at *; omega))))
    | ((apply Z.callZ_capn (n := ws.length)); intro capv hcapv)
    | ((apply Z.callZ_capn (n := ps.length)); intro capp hcapp)
    | ((with_reducible refine slN_hi (i) ?_ ?_ ?_); (focus rfl); (focus ((try simp only [LN] at *) <;> omega)))
    | ((with_reducible refine Z.slN_lo (i + 1) ?_ ?_ ?_); (focus rfl); (focus ((try simp only [LN] at *) <;> omega)))
    | ((with_reducible refine Z.slN_lhc (ws.length - 1) ws.length ?_ ?_ ?_ ?_ ?_); (iterate 3 (focus ((try simp only [LN] at *) <;> omega))); (focus (exact ⟨_, rfl, by (try simp only [LN] at *) <;> omega⟩)))
    | ((with_reducible refine apdE_r ?_); (with_reducible refine aprN.mk ⟨_, rfl, ?_⟩ ?_ ?_ ?_ ?_); (focus ((try simp only [LN] at *) <;> omega)); (focus rfl); (focus (exact one_all (by rfl))); (focus (exact g_le (f := cW) (ren_map fun _ => rfl) (by (try simp only [LN] at *) <;> omega))))
    | ((with_reducible refine clrN_mk ?_ ?_ ?_); (focus (exact g_clr (f := cW) (ren_map fun _ => rfl) (by first | (rw [g_len (f := cW) (l := ws) (ren_map fun _ => rfl) (by (try simp only [LN] at *) <;> omega)]; omega) | (simp; omega)) (by (try simp only [LN] at *) <;> omega))); (focus rfl))
    | ((with_reducible refine slE_a ?_ ?_); (focus ((try simp only [LN] at *) <;> omega)))
    | ((with_reducible refine slE_b ?_ ?_); (focus ((try simp only [LN] at *) <;> omega)))
    | ((with_reducible apply sl3N_mk); (focus (exact rfl)); (focus (exact rfl)); (focus (exact rfl)); (focus ((try simp only [LN] at *) <;> omega)); (focus ((try simp only [LN] at *) <;> omega)); (focus ((try simp only [LN] at *) <;> omega)); (focus ((try simp only [LN] at *) <;> omega)))
    | with_reducible refine wr_i64 (by first | omega | (simp only [LN] at *; omega)) ?_
    | with_reducible first | refine Z.callZ_in tabOk 35 Try.f40 _ Try.func40 (by kernel_rfl) rfl rfl rfl ?_ | refine Z.callZ_in tabOk 33 Try.f41 _ Try.func41 (by kernel_rfl) rfl rfl rfl ?_ | refine Z.callZ_in tabOk 42 Try.f42 _ Try.func42 (by kernel_rfl) rfl rfl rfl ?_ | refine Z.callZ_in tabOk 19 Try.f64 _ Try.func64 (by kernel_rfl) rfl rfl rfl ?_ | refine Z.callZ_in tabOk 29 Try.f31 _ Try.func31 (by kernel_rfl) rfl rfl rfl ?_
    | ((first | (with_reducible refine Z.callZ_mk ?_ (ca) ?_) | (with_reducible refine Z.callZ_mk ?_ (ck) ?_) | (with_reducible refine Z.conZ_mz ?_ (cw) ?_) | (with_reducible refine Z.conZ_mz ?_ (cp) ?_)); (focus ((repeat' (first | exact trivial | exact rfl | apply And.intro)); done)))
    | ((with_reducible apply ex_and); exact rfl)
    | with_reducible first | refine Z.drawZ_rule tabOk mixOk ?_ | refine Z.apZ_mk (by kernel_rfl) ?_)
  all_goals (try (conv => whnf))
  all_goals try (show Nat.ble _ _ = true; rfl)
  refine Z.loopK tabOk (fun zq : Nat => [(8, .val (.int .i64 (zq : Int)))]) (fun zq : Nat => ([(5, some (Z.Ob.b ⟨(ws.eraseIdx i ++ [(⟨0, 0⟩ : Wk)]).map cW, 2, 27, false⟩)), (6, some (Z.Ob.b ⟨ps.map cL, 2, 66, false⟩))] : Z.Kr)) (fun zq => zq ≤ ps.length ∧ keepP id (ps.take zq) = ps.take zq) (fun zq => ps.length - zq) 0 8 [(0, _), (1, _), (7, _)] ⟨rfl, rfl, rfl, trivial⟩ [(0, some _), (1, some _), (2, some _), (3, some _), (4, some _), (7, some _)] ⟨rfl, rfl, rfl, rfl, rfl, rfl, trivial⟩ ?_ ?_ rfl rfl ⟨Nat.zero_le _, rfl⟩ ?_
  · repeat' (first | exact trivial | apply And.intro | exact ⟨_, rfl, Z.Imp.refl _⟩)
  · repeat' (first | exact trivial | (intro b hb; cases hb; refine ⟨_, rfl, ⟨rfl, rfl, rfl⟩, Z.imp_eq ?_⟩; first | rfl | exact ren_map (fun _ => rfl) | exact (ren_map (fun _ => rfl)).symm | exact del_full0 (f := cW) (ren_map (fun _ => rfl)) hi1 rfl (by rw [show ws.length - (ws.length - 1) = 1 by omega]; rfl) | exact (del_full0 (f := cW) (ren_map (fun _ => rfl)) hi1 rfl (by rw [show ws.length - (ws.length - 1) = 1 by omega]; rfl)).symm; done) | apply And.intro)
  rintro h HINV
  dsimp only at HINV ⊢
  obtain ⟨HH, HK⟩ := HINV
  have hh : h < ps.length := by
    rcases Nat.lt_or_ge h ps.length with h9 | h9
    · exact h9
    · rw [List.take_of_length_le h9] at HK; exact absurd HK hex
  obtain ⟨x, hx⟩ := getElem?_some' (xs := ps) (i := h) hh
  by_cases hd : x.wk = id
  rotate_left
  · skip
    repeat' ((conv => whnf); first
      | (with_reducible refine spB_dec ?_ ?_ <;> intro _ <;> (try (exfalso; first | contradiction | omega | (rename_i hz; refine hz ?_; simp; done) | (rename_i hz; simp at hz; done) | (simp only [LN] at *; omega))))
      | (with_reducible refine spB_beq ?_ ?_ <;> intro _ <;> (try (exfalso; first | contradiction | omega | (rename_i hz; refine hz ?_; simp; done) | (rename_i hz; simp at hz; done) | (simp only [LN] at *; omega))))
      | ((with_reducible refine rowN_mk (cL x) ?_ ?_); (focus (show (List.map cL ps)[0 + h]? = some (cL x); rw [Nat.zero_add, List.getElem?_map, hx]; rfl)))
      | ((with_reducible apply ixN_litp); (focus (exact rfl)); (focus ((try simp only [LN] at *) <;> omega)))
      | with_reducible refine wr_i64 (by first | omega | (simp only [LN] at *; omega)) ?_
      | with_reducible first | refine Z.callZ_in tabOk 8 Try.f43 _ Try.func43 (by kernel_rfl) rfl rfl rfl ?_
      | ((with_reducible apply ex_and); exact rfl))
    all_goals (try (conv => whnf))
    all_goals try (show Nat.ble _ _ = true; rfl)
    all_goals first
      | ((refine Z.rndK ((h + 1)) (fun s => [0, 1, 2, 3, 4, 5, 6, 7]) rfl rfl rfl rfl ?_ ?_ ?_ ?_); (focus (repeat' (first | exact trivial | exact rfl | apply And.intro))); (focus (repeat' (first | exact trivial | (intro b hb; cases hb; rfl) | exact Z.blk_sub rfl rfl (ren_map fun _ => rfl) | apply And.intro))); (focus (refine ⟨by (try dsimp only); omega, ?_⟩; (try dsimp only); rw [keepP_yes hx hd, HK, ← take_snoc hx])); ((try dsimp only); omega))
  have hkh : ps.take h = keepP id (ps.take (h + 1)) := by rw [keepP_no hx hd, HK]
  repeat' ((conv => whnf); first
    | (with_reducible refine spB_dec ?_ ?_ <;> intro _ <;> (try (exfalso; first | contradiction | omega | (rename_i hz; refine hz ?_; simp; done) | (rename_i hz; simp at hz; done) | (simp only [LN] at *; omega))))
    | (with_reducible refine spB_beq ?_ ?_ <;> intro _ <;> (try (exfalso; first | contradiction | omega | (rename_i hz; refine hz ?_; simp; done) | (rename_i hz; simp at hz; done) | (simp only [LN] at *; omega))))
    | ((with_reducible refine rowN_mk (cL x) ?_ ?_); (focus (show (List.map cL ps)[0 + h]? = some (cL x); rw [Nat.zero_add, List.getElem?_map, hx]; rfl)))
    | ((with_reducible apply ixN_litp); (focus (exact rfl)); (focus ((try simp only [LN] at *) <;> omega)))
    | with_reducible refine wr_i64 (by first | omega | (simp only [LN] at *; omega)) ?_
    | with_reducible first | refine Z.callZ_in tabOk 8 Try.f43 _ Try.func43 (by kernel_rfl) rfl rfl rfl ?_
    | ((with_reducible apply ex_and); exact rfl))
  all_goals (try (conv => whnf))
  all_goals try (show Nat.ble _ _ = true; rfl)
  refine Z.loopK tabOk (fun zq : Nat × Nat × List Pl => [(6, .val (.int .i64 (zq.1 : Int))), (5, .val (.int .i64 (zq.2.1 : Int)))]) (fun zq : Nat × Nat × List Pl => ([(6, some (Z.Ob.b ⟨((zq.2.2) ++ ps.drop zq.2.1).map cL, 2, 66, false⟩))] : Z.Kr)) (fun zq => zq.2.1 < zq.1 ∧ zq.1 ≤ ps.length ∧ zq.2.1 = (zq.2.2).length ∧ zq.2.2 = keepP id (ps.take zq.1)) (fun zq => ps.length - zq.1) (h + 1, h, ps.take h) 9 [(0, _), (1, _)] ⟨rfl, rfl, trivial⟩ [(0, some _), (1, some _), (2, some _), (3, some _), (4, some _), (5, some _), (7, some _)] ⟨rfl, rfl, rfl, rfl, rfl, rfl, rfl, trivial⟩ ?_ ?_ rfl rfl ⟨Nat.lt_succ_self _, by (try dsimp only); omega, (show h = (List.take h ps).length by rw [List.length_take]; omega), hkh⟩ ?_
  · repeat' (first | exact trivial | apply And.intro | exact ⟨_, rfl, Z.Imp.refl _⟩)
  · repeat' (first | exact trivial | (intro b hb; cases hb; refine ⟨_, rfl, ⟨rfl, rfl, rfl⟩, Z.imp_eq ?_⟩; first | rfl | exact ren_map (fun _ => rfl) | rw [List.take_append_drop]; done) | apply And.intro)
  rintro ⟨j, m, acc⟩ HINV
  dsimp only at HINV ⊢
  obtain ⟨HJ, HJ2, rfl, HC⟩ := HINV
  by_cases hjl : j < ps.length
  · obtain ⟨y, hy⟩ := getElem?_some' (xs := ps) (i := j) hjl
    obtain ⟨z, hz⟩ := getElem?_some' (xs := ps) (i := acc.length) (by omega)
    repeat' ((conv => whnf); first
      | with_reducible first | refine spB_not ?_
      | (with_reducible refine spB_dec ?_ ?_ <;> intro _ <;> (try (exfalso; first | contradiction | omega | (rename_i hz; refine hz ?_; simp; done) | (rename_i hz; simp at hz; done) | (simp only [LN] at *; omega))))
      | (with_reducible refine spB_beq ?_ ?_ <;> intro _ <;> (try (exfalso; first | contradiction | omega | (rename_i hz; refine hz ?_; simp; done) | (rename_i hz; simp at hz; done) | (simp only [LN] at *; omega))))
      | ((with_reducible refine rowN_mk (cL y) ?_ ?_); (focus (exact midp_get (by omega) hy)))
      | ((with_reducible refine rowN_mk (cL z) ?_ ?_); (focus (exact midp_get (Nat.le_refl _) hz)))
      | ((with_reducible apply ixN_litp); (focus (exact rfl)); (focus ((try simp only [LN] at *) <;> omega)))
      | with_reducible refine wr_i64 (by first | omega | (simp only [LN] at *; omega)) ?_
      | with_reducible first | refine Z.callZ_in tabOk 8 Try.f43 _ Try.func43 (by kernel_rfl) rfl rfl rfl ?_
      | ((with_reducible apply ex_and); exact rfl))
    all_goals (try (conv => whnf))
    all_goals try (show Nat.ble _ _ = true; rfl)
    all_goals first
      | ((refine Z.rnd_rw 6 (((acc ++ [y]) ++ ps.drop (acc.length + 1)).map cL) rfl rfl ?_ ?_); (focus (exact midp_set (by omega))); ((refine Z.rndK ((j + 1, acc.length + 1, acc ++ [y])) (fun s => [0, 1, 2, 3, 4, 5, 6, 7, 8]) rfl rfl rfl rfl ?_ ?_ ?_ ?_); (focus (repeat' (first | exact trivial | exact rfl | apply And.intro))); (focus (repeat' (first | exact trivial | (intro b hb; cases hb; rfl) | exact Z.blk_sub rfl rfl (ren_map fun _ => rfl) | apply And.intro))); (focus (refine ⟨by (try dsimp only); omega, by (try dsimp only); omega, by simp, ?_⟩; (try dsimp only); rw [keepP_yes hy (by assumption), ← HC])); ((try dsimp only); omega)))
      | ((refine Z.rndK ((j + 1, acc.length, acc)) (fun s => [0, 1, 2, 3, 4, 5, 6, 7, 8]) rfl rfl rfl rfl ?_ ?_ ?_ ?_); (focus (repeat' (first | exact trivial | exact rfl | apply And.intro))); (focus (repeat' (first | exact trivial | (intro b hb; cases hb; rfl) | exact Z.blk_sub rfl rfl (ren_map fun _ => rfl) | apply And.intro))); (focus (refine ⟨by (try dsimp only); omega, by (try dsimp only); omega, rfl, ?_⟩; (try dsimp only); rw [keepP_no hy (by assumption), ← HC])); ((try dsimp only); omega))
  have hfin : acc = keepP id ps := by rw [HC, List.take_of_length_le (by omega)]
  repeat' ((conv => whnf); first
    | ((with_reducible apply spB_cong); (focus (simp only [beq_self_eq_true, bne_self_eq_false, Bool.true_bne, Bool.false_bne, Bool.bne_true, Bool.bne_false, Bool.true_beq, Bool.false_beq, Bool.not_true, Bool.not_false, Bool.not_not, Int.reduceBEq, Int.reduceBNe, Int.reduceLE, Int.reduceLT, Int.reduceEq, decide_true, decide_false]; rfl)))
    | with_reducible first | refine spB_no (by decide) ?_
    | (with_reducible refine spB_dec ?_ ?_ <;> intro _ <;> (try (exfalso; first | contradiction | omega | (rename_i hz; refine hz ?_; simp; done) | (rename_i hz; simp at hz; done) | (simp only [LN] at *; omega))))
    | ((with_reducible refine Z.slN_lo acc.length ?_ ?_ ?_); (focus rfl); (focus ((try simp only [LN] at *) <;> omega)))
    | ((with_reducible refine slN_hi acc.length ?_ ?_ ?_); (focus rfl); (focus ((try simp only [LN] at *) <;> omega)))
    | ((with_reducible refine slE_a ?_ ?_); (focus ((try simp only [LN] at *) <;> omega)))
    | ((with_reducible refine clrN_mk ?_ ?_ ?_); (focus ((try simp only [LN] at *) <;> omega)); (focus rfl))
    | ((first | (with_reducible apply Z.conZ_mz ?_ (tasks_con _ _ _ ?_ ?_) ?_)); (rotate_left 3); (focus ((repeat' (first | exact trivial | exact rfl | apply And.intro)); done)); (iterate 2 (focus (first | assumption))))
    | ((with_reducible apply ex_and); exact rfl)
    | with_reducible first | refine Z.drawZ_rule tabOk mixOk ?_ | refine Z.apZ_mk (by kernel_rfl) ?_)
  all_goals (try (conv => whnf))
  all_goals try (show Nat.ble _ _ = true; rfl)
  all_goals first
  | (rw [← hfin]; refine Z.retF2 [.agg [.osl 5 0 (i - 0 + 0) (some capv), .osl 6 0 (acc.length - 0) (some capp)], .one (.ro true 1 ((atL ps id).map eI)), .one (.v (.int .i64 0))] (by rfl) ⟨⟨(Z.frz_oslw (l := ws.eraseIdx i) (f := cW) (ty := 27) (bx := false) (by rfl) (by rw [List.length_eraseIdx, if_pos hil]; omega) (tk_del hil (by omega)) (fun _ => rfl)), (Z.frz_oslw (l := acc) (f := cL) (ty := 66) (bx := false) (by rfl) (by simp) cutp_rows (fun _ => rfl)), trivial⟩, rfl, rfl, trivial⟩)
  | (fail)

end Go.Proofs.Ytllnmdmmmkoiaaa
namespace Go.Proofs.Ytllnmdmmmkoiaaa
open Go Go.RowKit Wx
set_option linter.unusedVariables false
set_option linter.unusedSimpArgs false
set_option maxHeartbeats 4000000
/-- What Go tells: the workers, the places, the tasks that lay there, and whether it was refused. -/
def goT (ws : List Wk) (ps : List Pl) (id : Int) : List Wk × List Pl × List Int × Int :=
  if okF ws ps = true then
    if idxW ws id < ws.length then (ws.eraseIdx (idxW ws id), keepP id ps, atL ps id, 0) else ([], [], [], 4)
  else ([], [], [], 210)
theorem go_con (ws : List Wk) (ps : List Pl) (id : Int) (hw : ws.length ≤ 1000) (hp : ps.length ≤ 1000) : Con Try.prog 14 [.agg [.ro false 2 (ws.map eW), .ro false 2 (ps.map eL)], .one (.v (.int .i64 id))] (fun rx rK rt => rx = .tup [.agg [.ro true 2 ((goT ws ps id).1.map eW), .ro true 2 ((goT ws ps id).2.1.map eL)], .one (.ro true 1 ((goT ws ps id).2.2.1.map eI)), .one (.v (.int .i64 (goT ws ps id).2.2.2))] ∧ rK = [] ∧ rt = 0) := by
  by_cases hk : okF ws ps = true
  · by_cases hil : idxW ws id < ws.length
    · rw [show goT ws ps id = (ws.eraseIdx (idxW ws id), keepP id ps, atL ps id, 0) by unfold goT; rw [if_pos hk, if_pos hil]]
      by_cases hex : keepP id ps = ps
      · have hnp : ∀ p ∈ ps, p.wk ≠ id := fun p hp9 e => by
          have h9 := List.filter_eq_self.1 hex p hp9
          simp [e] at h9
        rw [hex]
        by_cases hi1 : idxW ws id + 1 < ws.length
        · exact go_w1 ws ps id _ hw hp hk rfl hil hi1 hnp
        · exact go_w2 ws ps id _ hw hp hk rfl hil (by omega) hnp
      · by_cases hi1 : idxW ws id + 1 < ws.length
        · exact go_p1 ws ps id _ hw hp hk rfl hil hi1 hex
        · exact go_p2 ws ps id _ hw hp hk rfl hil (by omega) hex
    · rw [show goT ws ps id = ([], [], [], 4) by unfold goT; rw [if_pos hk, if_neg hil]]
      exact go_none ws ps id hw hp hk hil
  · rw [show goT ws ps id = ([], [], [], 210) by unfold goT; rw [if_neg hk]]
    exact go_bad ws ps id hw hp (by cases h : okF ws ps <;> simp_all)
end Go.Proofs.Ytllnmdmmmkoiaaa
namespace Go.Proofs.Ytllnmdmmmkoiaaa
open Go Go.RowKit Wx
set_option linter.unusedVariables false
set_option linter.unusedSimpArgs false
set_option maxHeartbeats 4000000
/-! ### Go, as the document has it -/
theorem go_doc {id : Int} : ∀ {ws : List Wk}, wsrt ws → ws.eraseIdx (idxW ws id) = ws.filter fun w => !decide (w.id = id)
  | [], _ => rfl
  | w :: l, h => by
    have hl := (List.pairwise_cons.1 h).1
    have h1 : wsrt l := (List.pairwise_cons.1 h).2
    unfold idxW
    rw [List.findIdx_cons]
    by_cases e : w.id = id
    · rw [decide_eq_true e, List.filter_cons, decide_eq_true e]
      show l = l.filter _
      exact (List.filter_eq_self.2 fun z hz => by have := hl z hz; simp; omega).symm
    · rw [decide_eq_false e, List.filter_cons, decide_eq_false e]
      show w :: l.eraseIdx (idxW l id) = w :: l.filter _
      rw [go_doc h1]
end Go.Proofs.Ytllnmdmmmkoiaaa
namespace Go.Proofs.Ytllnmdmmmkoiaaa
open Go Go.RowKit Wx
set_option linter.unusedVariables false
set_option linter.unusedSimpArgs false
set_option maxHeartbeats 4000000
def decW : List Ce → Option Wk
  | [.v (.int .i64 a), .v (.int .i64 b)] => some ⟨a, b⟩
  | _ => none
def decL : List Ce → Option Pl
  | [.v (.int .i64 a), .v (.int .i64 b)] => some ⟨a, b⟩
  | _ => none
def decAll {α : Type} (d : List Ce → Option α) : List (List Ce) → Option (List α)
  | [] => some []
  | r :: rs => match d r, decAll d rs with
    | some x, some xs => some (x :: xs)
    | _, _ => none
theorem decAll_map {α : Type} {d : List Ce → Option α} {en : α → List RT} (hd : ∀ r x, d r = some x → r.map RT.of = (en x).map some) : ∀ {rs : List (List Ce)} {xs : List α}, decAll d rs = some xs → rs.map (List.map RT.of) = (xs.map en).map (List.map some)
  | [], xs, h => by simp only [decAll, Option.some.injEq] at h; subst h; rfl
  | r :: rs, xs, h => by
    simp only [decAll] at h
    split at h
    · rename_i x ys h1 h2
      simp only [Option.some.injEq] at h
      subst h
      simp only [List.map_cons, hd r x h1, decAll_map hd h2]
    · cases h
def rowsD {α : Type} (d : List Ce → Option α) (K : Nat → Option Y.Ob) : Ce → Option (List α)
  | .v (.slice none 0 0) => some []
  | .osl i q n _ => match K i with
    | some (.b b) => match Nat.beq b.sz 2, decAll d ((b.rows.drop q).take n) with
      | true, some xs => match Nat.beq xs.length n, Nat.ble xs.length 1000 with
        | true, true => some xs
        | _, _ => none
      | _, _ => none
    | _ => none
  | _ => none
theorem rowsD_low {α : Type} {d : List Ce → Option α} {en : α → List RT} (hd : ∀ r x, d r = some x → r.map RT.of = (en x).map some) {K : Nat → Option Y.Ob} {c : Ce} {xs : List α} (h : rowsD d K c = some xs) : lowC (Y.blkOf K) c (.ro false 2 (xs.map en)) ∧ xs.length ≤ 1000 := by
  unfold rowsD at h
  split at h
  · simp only [Option.some.injEq] at h
    subst h
    exact ⟨.inr ⟨2, rfl⟩, by simp⟩
  · rename_i i q n _
    split at h
    · rename_i b hb
      split at h
      · rename_i ys hsz hys
        split at h
        · rename_i hn hle
          simp only [Option.some.injEq] at h
          subst h
          refine ⟨?_, Nat.le_of_ble_eq_true hle⟩
          have hk : Y.blkOf K i = some b := by unfold Y.blkOf; rw [hb]
          show match Y.blkOf K i with
            | some b => ∃ rows, Ce.ro false 2 (ys.map en) = .ro false b.sz rows ∧ rows.length = n ∧ ((b.rows.drop q).take n).map (List.map RT.of) = rows.map (List.map some)
            | none => False
          rw [hk]
          exact ⟨ys.map en, by rw [Nat.eq_of_beq_eq_true hsz], by rw [List.length_map]; exact Nat.eq_of_beq_eq_true hn, decAll_map hd hys⟩
        · cases h
      · cases h
    · cases h
  · cases h
theorem decW_ok (r : List Ce) (x : Wk) (h : decW r = some x) : r.map RT.of = (eW x).map some := by
  unfold decW at h
  split at h
  · simp only [Option.some.injEq] at h; subst h; rfl
  · cases h
theorem decL_ok (r : List Ce) (x : Pl) (h : decL r = some x) : r.map RT.of = (eL x).map some := by
  unfold decL at h
  split at h
  · simp only [Option.some.injEq] at h; subst h; rfl
  · cases h
/-- What Check and Free answer, by their contracts. -/
def orc : Y.CallFn := fun c avs K top => match c, avs with
  | .fn g [], [.pl (.agg [a, b])] => match Nat.beq g 23, Nat.beq g 26 with
    | true, _ => match rowsD decW K.get a, rowsD decL K.get b with
      | some ws, some ps => some ⟨.val (.int .i64 (bif okF ws ps then 0 else 210)), K, top, []⟩
      | _, _ => none
    | false, true => match rowsD decW K.get a, rowsD decL K.get b with
      | some ws, some ps => some ⟨.val (.int .i64 (bif okF ws ps then sumW ws - (ps.length : Int) else 0)), K, top, []⟩
      | _, _ => none
    | _, _ => none
  | _, _ => none
theorem orc_sound : Y.CallsOk Try.prog orc := by
  intro c avs K top r h
  unfold orc at h
  split at h
  · rename_i g a b
    split at h
    · have hg : Nat.beq g 23 = true := by assumption
      split at h
      · rename_i ws ps h1 h2
        simp only [Option.some.injEq] at h
        subst h
        obtain ⟨g1, g2⟩ := rowsD_low decW_ok h1
        obtain ⟨g3, g4⟩ := rowsD_low decL_ok h2
        have := Nat.eq_of_beq_eq_true hg
        subst this
        exact ⟨Y.con_callE (args := [.agg [.ro false 2 (ws.map eW), .ro false 2 (ps.map eL)]]) ⟨⟨g1, g3, trivial⟩, trivial⟩ (check_con ws ps (by omega) (by omega)) rfl, fun _ _ => rfl⟩
      · cases h
    · rename_i _ hg
      split at h
      · rename_i ws ps h1 h2
        simp only [Option.some.injEq] at h
        subst h
        obtain ⟨g1, g2⟩ := rowsD_low decW_ok h1
        obtain ⟨g3, g4⟩ := rowsD_low decL_ok h2
        have := Nat.eq_of_beq_eq_true hg
        subst this
        exact ⟨Y.con_callE (args := [.agg [.ro false 2 (ws.map eW), .ro false 2 (ps.map eL)]]) ⟨⟨g1, g3, trivial⟩, trivial⟩ (free_con ws ps (by omega) (by omega)) rfl, fun _ _ => rfl⟩
      · cases h
    · cases h
  · cases h
theorem wakes_con : Con Try.prog 9 [] (fun x K t => x = .val (.bool true) ∧ K = [] ∧ t = 0) := Y.con_runO ftabOk tabOk mixOk orc_sound 40 12 (by kernel_rfl) (by kernel_rfl)
end Go.Proofs.Ytllnmdmmmkoiaaa
