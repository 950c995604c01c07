import Derived.Test.YtoiadndmbppobaaLib3
import Derived.Test.YtoiadndmbppobaaLib5
import Derived.Test.YtoiadndmbppobaaLib4
namespace Go.Proofs.Ytoiadndmbppobaa
open Go Go.RowKit Wx
set_option linter.unusedVariables false
set_option linter.unusedSimpArgs false
set_option maxHeartbeats 4000000
structure El where
  kd : Int
  src : Int
  key : Int
  val : Int
  num : Int
deriving DecidableEq
abbrev eE (x : El) : List RT := [RT.v (.int .i64 x.kd), RT.v (.int .i64 x.src), RT.v (.int .i64 x.key), RT.v (.int .i64 x.val), RT.v (.int .u64 x.num)]
abbrev cE (x : El) : List Ce := [Ce.v (.int .i64 x.kd), Ce.v (.int .i64 x.src), Ce.v (.int .i64 x.key), Ce.v (.int .i64 x.val), Ce.v (.int .u64 x.num)]
/-- A packet. -/
structure Pk where
  kd : Int
  se : Int
  sq : Int
  lim : Int
  e : El
deriving DecidableEq
abbrev eP (x : Pk) : List RT := [RT.v (.int .i64 x.kd), RT.v (.int .u32 x.se), RT.v (.int .u64 x.sq), RT.v (.int .u64 x.lim), RT.v (.int .i64 x.e.kd), RT.v (.int .i64 x.e.src), RT.v (.int .i64 x.e.key), RT.v (.int .i64 x.e.val), RT.v (.int .u64 x.e.num)]
structure Sn where
  n : Int
  b : Int
  q : List El
  l : Int
  d : Bool
structure Rc where
  n : Int
  nx : Int
  bf : List El
  rm : Int
def okE (e : El) : Bool := decide ((e.kd = 1 ∧ (0 ≤ e.src ∧ e.src < 8 ∧ 0 ≤ e.key ∧ e.key < 32) ∧ e.num = 0) ∨ (e.kd = 2 ∧ (e.src = 0 ∧ e.key = 0 ∧ e.val = 0) ∧ 0 < e.num ∧ e.num ≤ 4611686018427387904) ∨ (e.kd = 3 ∧ (e.src = 0 ∧ e.key = 0 ∧ e.val = 0) ∧ e.num = 0))
def okEs : List El → Bool
  | [] => true
  | e :: r => okE e && decide (e.kd = 3 → r = []) && okEs r
theorem okEs_at {l : List El} {i : Nat} {x : El} (h : l[i]? = some x) : okEs (l.drop i) = (okE x && decide (x.kd = 3 → l.length ≤ i + 1) && okEs (l.drop (i + 1))) := by
  rw [drop_cons h, okEs]
  congr 2
  have hl := (List.getElem?_eq_some_iff.1 h).1
  refine decide_eq_decide.2 ⟨fun h1 h2 => ?_, fun h1 h2 => ?_⟩
  · have := h1 h2
    have h3 : (l.drop (i + 1)).length = 0 := by rw [this]; rfl
    simp at h3; omega
  · exact List.drop_eq_nil_of_le (h1 h2)
/-- Is the last one an end? -/
def endsL (l : List El) : Bool := match l[l.length - 1]? with
  | some e => decide (e.kd = 3)
  | none => false
theorem endsL_at {l : List El} {x : El} (h : l[l.length - 1]? = some x) : endsL l = decide (x.kd = 3) := by unfold endsL; rw [h]
def okS (n b : Int) (q : List El) (l : Int) (d : Bool) : Bool := decide ((1 ≤ n ∧ n ≤ 2147483647) ∧ (1 ≤ b ∧ b ≤ 4611686018427387904) ∧ q.length ≤ 8 ∧ b + (q.length : Int) ≤ 4611686018427387905 ∧ l ≤ 4611686018427387904) && okEs q && (d || !endsL q)
def okR (n nx : Int) (bf : List El) (rm : Int) : Bool := decide ((1 ≤ n ∧ n ≤ 2147483647) ∧ (1 ≤ nx ∧ nx ≤ 4611686018427387905) ∧ (1 ≤ rm ∧ rm ≤ 8) ∧ (bf.length : Int) ≤ rm ∧ (bf.length : Int) < nx) && okEs bf
theorem okS_all {n b l : Int} {q : List El} {d : Bool} (h : okS n b q l d = true) : ((1 ≤ n ∧ n ≤ 2147483647) ∧ (1 ≤ b ∧ b ≤ 4611686018427387904) ∧ q.length ≤ 8 ∧ b + (q.length : Int) ≤ 4611686018427387905 ∧ l ≤ 4611686018427387904) ∧ okEs q = true ∧ (d = true ∨ endsL q = false) := by
  unfold okS at h
  simp only [Bool.and_eq_true, Bool.or_eq_true, Bool.not_eq_true', decide_eq_true_eq] at h
  exact ⟨h.1.1, h.1.2, h.2⟩
theorem okR_all {n nx rm : Int} {bf : List El} (h : okR n nx bf rm = true) : ((1 ≤ n ∧ n ≤ 2147483647) ∧ (1 ≤ nx ∧ nx ≤ 4611686018427387905) ∧ (1 ≤ rm ∧ rm ≤ 8) ∧ (bf.length : Int) ≤ rm ∧ (bf.length : Int) < nx) ∧ okEs bf = true := by
  unfold okR at h
  simp only [Bool.and_eq_true, decide_eq_true_eq] at h
  exact ⟨h.1, h.2⟩
def zS : Sn := ⟨0, 0, [], 0, false⟩
def zR : Rc := ⟨0, 0, [], 0⟩
def zE : El := ⟨0, 0, 0, 0, 0⟩
def ackOf (n b : Int) (q : List El) (p : Pk) : Prop := p = ⟨2, n, p.sq, p.lim, zE⟩ ∧ b ≤ p.sq ∧ p.sq ≤ b + (q.length : Int) ∧ p.sq ≤ 4611686018427387904 ∧ p.lim ≤ 4611686018427387904
instance (n b : Int) (q : List El) (p : Pk) : Decidable (ackOf n b q p) := by unfold ackOf; infer_instance
def ackedR (n b : Int) (q : List El) (l : Int) (d : Bool) (p : Pk) : Sn × Int :=
  bif okS n b q l d then if ackOf n b q p then (⟨n, p.sq, q.drop (p.sq - b).toNat, max l p.lim, d⟩, 0) else (⟨n, b, q, l, d⟩, 0) else (zS, 240)
def dataOf (n nx : Int) (bf : List El) (rm : Int) (p : Pk) : Prop := p = ⟨1, n, nx, 0, p.e⟩ ∧ nx ≤ 4611686018427387904 ∧ okE p.e = true ∧ (bf.length : Int) < rm ∧ endsL bf = false
instance (n nx : Int) (bf : List El) (rm : Int) (p : Pk) : Decidable (dataOf n nx bf rm p) := by unfold dataOf; infer_instance
def hearR (n nx : Int) (bf : List El) (rm : Int) (p : Pk) : Rc × Int :=
  bif okR n nx bf rm then if dataOf n nx bf rm p then (⟨n, nx + 1, bf ++ [p.e], rm⟩, 0) else (⟨n, nx, bf, rm⟩, 0) else (zR, 240)
def ackR (n nx : Int) (bf : List El) (rm : Int) : Pk × Int :=
  bif okR n nx bf rm then (⟨2, n, nx, min (nx - 1 + (rm - (bf.length : Int))) 4611686018427387904, zE⟩, 0) else (⟨0, 0, 0, 0, zE⟩, 240)
def takeR (n nx : Int) (bf : List El) (rm : Int) : Rc × El × Int :=
  bif okR n nx bf rm then (match bf with
    | [] => (zR, zE, 4)
    | e :: r => (⟨n, nx, r, rm⟩, e, 0)) else (zR, zE, 240)
end Go.Proofs.Ytoiadndmbppobaa
namespace Go.Proofs.Ytoiadndmbppobaa
open Go Go.RowKit Wx
set_option linter.unusedVariables false
set_option linter.unusedSimpArgs false
set_option maxHeartbeats 4000000
theorem checkE_con (e : El) (hu : 0 ≤ e.num) : Con Try.prog 52 [.agg [.v (.int .i64 e.kd), .v (.int .i64 e.src), .v (.int .i64 e.key), .v (.int .i64 e.val), .v (.int .u64 e.num)]] (fun rx rK rt => rx = .val (.int .i64 (bif okE e then 0 else 151)) ∧ rK = [] ∧ rt = 0) := by
  refine Z.con_ofF tabOk 40 Try.f52 _ Try.func52 (by kernel_rfl) rfl rfl rfl rfl ?_
  repeat' ((conv => whnf); first
    | with_reducible first | refine spB_t ?_
    | ((with_reducible apply spB_cong); (focus (simp only [beq_self_eq_true, bne_self_eq_false, Bool.true_bne, Bool.false_bne, Bool.bne_true, Bool.bne_false, Bool.true_beq, Bool.false_beq, Bool.not_true, Bool.not_false, Bool.not_not, Int.reduceBEq, Int.reduceBNe, Int.reduceLE, Int.reduceLT, Int.reduceEq, decide_true, decide_false]; rfl)))
    | with_reducible first | refine spB_no (by decide) ?_ | refine spB_not ?_
    | (with_reducible refine spB_dec ?_ ?_ <;> intro _ <;> (try (exfalso; first | contradiction | omega | (rename_i hz; with_reducible exact absurd rfl hz))))
    | (with_reducible refine spB_beq ?_ ?_ <;> intro _ <;> (try (exfalso; first | contradiction | omega | (rename_i hz; with_reducible exact absurd rfl hz))))
    | (with_reducible refine spB_mk ?_ ?_ <;> intro _ <;> (try (exfalso; first | contradiction | omega | (rename_i hz; with_reducible exact absurd rfl hz))))
    | with_reducible first | refine Z.callZ_in tabOk 21 Try.f63 _ Try.func63 (by kernel_rfl) rfl rfl rfl ?_
    | ((with_reducible apply ex_and); exact rfl))
  all_goals (try (conv => whnf))
  all_goals first
    | ((first | (with_reducible apply Z.retF1)); (focus (exact rfl)); (repeat' (first | exact trivial | (with_reducible apply Z.frz_one) | (with_reducible apply Z.fq_int) | apply And.intro)); (all_goals (try exact (fun _ => none))); all_goals (first | (rw [show okE e = true by (unfold okE; (try simp only [Bool.and_eq_true, Bool.and_eq_false_iff, Bool.and_true, beq_iff_eq, beq_eq_false_iff_ne, bne_iff_ne, Bool.not_eq_true, Bool.not_eq_false, ne_eq, Bool.false_eq_true, or_false] at *); first | exact decide_eq_true (by omega) | exact decide_eq_false (by omega))]; rfl) | (rw [show okE e = false by (unfold okE; (try simp only [Bool.and_eq_true, Bool.and_eq_false_iff, Bool.and_true, beq_iff_eq, beq_eq_false_iff_ne, bne_iff_ne, Bool.not_eq_true, Bool.not_eq_false, ne_eq, Bool.false_eq_true, or_false] at *); first | exact decide_eq_true (by omega) | exact decide_eq_false (by omega))]; rfl)))

theorem row_con (l : List El) (hl : l.length ≤ 9223372036854775807) (hu : ∀ e ∈ l, 0 ≤ e.num) : Con Try.prog 48 [.one (.ro false 5 (l.map eE))] (fun rx rK rt => rx = .val (.bool (okEs l)) ∧ rK = [] ∧ rt = 0) := by
  refine Z.con_ofF tabOk 28 Try.f48 _ Try.func48 (by kernel_rfl) rfl rfl rfl rfl ?_
  repeat' ((conv => whnf); first
    | with_reducible first | refine spB_t ?_)
  all_goals (try (conv => whnf))
  all_goals try (show Nat.ble _ _ = true; rfl)
  refine Z.loopK tabOk (fun zq : Nat => [(7, .val (.int .i64 (zq : Int)))]) (fun zq : Nat => ([] : Z.Kr)) (fun zq => zq ≤ l.length ∧ okEs l = okEs (l.drop zq)) (fun zq => l.length - zq) 0 0 [(0, _), (5, _), (6, _)] ⟨rfl, rfl, rfl, trivial⟩ [] trivial ?_ ?_ rfl rfl ⟨Nat.zero_le _, rfl⟩ ?_
  · repeat' (first | exact trivial | apply And.intro | exact ⟨_, rfl, Z.Imp.refl _⟩)
  · repeat' (first | exact trivial)
  rintro i HINV
  dsimp only at HINV ⊢
  obtain ⟨HI, HO⟩ := HINV
  by_cases hi : i < l.length
  · obtain ⟨x, hx⟩ := getElem?_some' (xs := l) (i := i) hi
    have ce := checkE_con x (hu x (List.mem_of_getElem? hx))
    have hat := okEs_at hx
    cases hok : okE x
    all_goals rw [hok] at ce hat
    all_goals simp only [cond_true, cond_false] at ce
    all_goals (
      repeat' ((conv => whnf); first
        | with_reducible first | refine spB_t ?_
        | ((with_reducible apply spB_cong); (focus (simp only [beq_self_eq_true, bne_self_eq_false, Bool.true_bne, Bool.false_bne, Bool.bne_true, Bool.bne_false, Bool.true_beq, Bool.false_beq, Bool.not_true, Bool.not_false, Bool.not_not, Int.reduceBEq, Int.reduceBNe, Int.reduceLE, Int.reduceLT, Int.reduceEq, decide_true, decide_false]; rfl)))
        | with_reducible first | refine spB_no (by decide) ?_
        | (with_reducible refine spB_dec ?_ ?_ <;> intro _ <;> (try (exfalso; first | contradiction | omega | (rename_i hz; refine hz ?_; simp; done) | (rename_i hz; simp at hz; done) | (simp only [LN] at *; omega))))
        | (with_reducible refine spB_beq ?_ ?_ <;> intro _ <;> (try (exfalso; first | contradiction | omega | (rename_i hz; refine hz ?_; simp; done) | (rename_i hz; simp at hz; done) | (simp only [LN] at *; omega))))
        | with_reducible first | refine Z.rowN_known hx ?_
        | ((with_reducible apply ixN_litp); (focus (exact rfl)); (focus ((try simp only [LN] at *) <;> omega)))
        | with_reducible refine wr_i64 (by first | omega | (simp only [LN] at *; omega)) ?_
        | ((first | (with_reducible refine Z.callZ_mk ?_ (ce) ?_)); (focus ((repeat' (first | exact trivial | exact rfl | apply And.intro)); done))))
      all_goals (try (conv => whnf)))
    all_goals try (show Nat.ble _ _ = true; rfl)
    all_goals first
      | ((refine Z.rndK ((i + 1)) (fun s => []) rfl rfl rfl rfl ?_ ?_ ?_ ?_); (focus (repeat' (first | exact trivial | exact rfl | apply And.intro))); (focus (repeat' (first | exact trivial))); (focus (exact ⟨by (try dsimp only); omega, by (try dsimp only); rw [HO, hat, decide_eq_true (fun h9 : x.kd = 3 => by (try simp only [LN] at *) <;> omega), Bool.true_and, Bool.true_and]⟩)); ((try dsimp only); omega))
      | ((first | (with_reducible apply Z.retF1)); (focus (exact rfl)); (repeat' (first | exact trivial | (with_reducible apply Z.frz_one) | (with_reducible apply Z.fq_bool) | apply And.intro)); (all_goals (try exact (fun _ => none))); all_goals (first | (rw [HO, hat]; rfl) | (rw [HO, hat, decide_eq_false (fun h9 => absurd (h9 (by assumption)) (by (try simp only [LN] at *) <;> omega))]; rfl)))
  have hil : i = l.length := by omega
  repeat' ((conv => whnf); first
    | (with_reducible refine spB_dec ?_ ?_ <;> intro _ <;> (try (exfalso; first | contradiction | omega | (rename_i hz; refine hz ?_; simp; done) | (rename_i hz; simp at hz; done) | (simp only [LN] at *; omega)))))
  all_goals (try (conv => whnf))
  all_goals try (show Nat.ble _ _ = true; rfl)
  all_goals first
    | ((first | (with_reducible apply Z.retF1)); (focus (exact rfl)); (repeat' (first | exact trivial | (with_reducible apply Z.frz_one) | (with_reducible apply Z.fq_bool) | apply And.intro)); (all_goals (try exact (fun _ => none))); all_goals (rw [HO, hil, List.drop_length]; rfl))

theorem ends_con (l : List El) (hl : l.length ≤ 9223372036854775807) : Con Try.prog 49 [.one (.ro false 5 (l.map eE))] (fun rx rK rt => rx = .val (.bool (endsL l)) ∧ rK = [] ∧ rt = 0) := by
  refine Z.con_ofF tabOk 16 Try.f49 _ Try.func49 (by kernel_rfl) rfl rfl rfl rfl ?_
  rcases Nat.eq_zero_or_pos l.length with h0 | h0
  · have he : l = [] := List.length_eq_zero_iff.1 h0
    subst he
    repeat' ((conv => whnf); first
      | with_reducible first | refine spB_no (by decide) ?_)
    all_goals (try (conv => whnf))
    all_goals try (show Nat.ble _ _ = true; rfl)
    all_goals first
      | ((first | (with_reducible apply Z.retF1)); (focus (exact rfl)); (repeat' (first | exact trivial | (with_reducible apply Z.frz_one) | (with_reducible apply Z.fq_bool) | exact rfl | apply And.intro)); (all_goals (try exact (fun _ => none))); all_goals (first | (unfold endsL; simp_all; done)))
  obtain ⟨x, hx⟩ := getElem?_some' (xs := l) (i := l.length - 1) (by omega)
  repeat' ((conv => whnf); first
    | with_reducible first | refine spB_t ?_
    | (with_reducible refine spB_dec ?_ ?_ <;> intro _ <;> (try (exfalso; first | contradiction | omega | (rename_i hz; refine hz ?_; simp; done) | (rename_i hz; simp at hz; done) | (simp only [LN] at *; omega))))
    | ((with_reducible refine ixN_mk (l.length - 1) ?_ ?_ ?_); (focus (first | ((try simp only [LN] at *) <;> omega))); (focus ((try simp only [LN] at *) <;> omega)))
    | with_reducible first | refine Z.rowN_known hx ?_
    | with_reducible refine wr_i64 (by first | omega | (simp only [LN] at *; omega)) ?_)
  all_goals (try (conv => whnf))
  all_goals try (show Nat.ble _ _ = true; rfl)
  all_goals first
    | ((first | (with_reducible apply Z.retF1)); (focus (exact rfl)); (repeat' (first | exact trivial | (with_reducible apply Z.frz_one) | (with_reducible apply Z.fq_bool) | apply And.intro)); (all_goals (try exact (fun _ => none))); all_goals (first | (rw [endsL_at hx]; rfl)))

theorem checkR_con (n nx : Int) (bf : List El) (rm : Int) (hq : bf.length ≤ 9223372036854775807) (hu : ∀ e ∈ bf, 0 ≤ e.num) (hx0 : 0 ≤ nx) : Con Try.prog 28 [.agg [.v (.int .u32 n), .v (.int .u64 nx), .ro false 5 (bf.map eE), .v (.int .i64 rm)]] (fun rx rK rt => rx = .val (.int .i64 (bif okR n nx bf rm then 0 else 240)) ∧ rK = [] ∧ rt = 0) := by
  refine Z.con_ofF tabOk 51 Try.f28 _ Try.func28 (by kernel_rfl) rfl rfl rfl rfl ?_
  have cr := row_con bf hq hu
  have e1 : okR n nx bf rm = (decide ((1 ≤ n ∧ n ≤ 2147483647) ∧ (1 ≤ nx ∧ nx ≤ 4611686018427387905) ∧ (1 ≤ rm ∧ rm ≤ 8) ∧ (bf.length : Int) ≤ rm ∧ (bf.length : Int) < nx) && okEs bf) := rfl
  generalize okR n nx bf rm = K at *
  by_cases hP : ((1 ≤ n ∧ n ≤ 2147483647) ∧ (1 ≤ nx ∧ nx ≤ 4611686018427387905) ∧ (1 ≤ rm ∧ rm ≤ 8) ∧ (bf.length : Int) ≤ rm ∧ (bf.length : Int) < nx)
  all_goals first | rw [decide_eq_true hP] at e1 | rw [decide_eq_false hP] at e1
  all_goals cases h1 : okEs bf
  all_goals rw [h1] at e1 cr
  all_goals simp only [Bool.true_and, Bool.and_true, Bool.false_and, Bool.and_false] at e1
  all_goals subst e1
  all_goals (
    repeat' ((conv => whnf); first
      | with_reducible first | refine spB_t ?_
      | ((with_reducible apply spB_cong); (focus (simp only [beq_self_eq_true, bne_self_eq_false, Bool.true_bne, Bool.false_bne, Bool.bne_true, Bool.bne_false, Bool.true_beq, Bool.false_beq, Bool.not_true, Bool.not_false, Bool.not_not, Int.reduceBEq, Int.reduceBNe, Int.reduceLE, Int.reduceLT, Int.reduceEq, decide_true, decide_false]; rfl)))
      | with_reducible first | refine spB_no (by decide) ?_
      | (with_reducible refine spB_dec ?_ ?_ <;> intro _ <;> (try (exfalso; first | contradiction | omega | (rename_i hz; refine hz ?_; simp; done) | (rename_i hz; simp at hz; done) | (simp only [LN] at *; omega))))
      | with_reducible refine wr_u64 (by omega) ?_
      | with_reducible first | refine Z.callZ_in tabOk 9 Try.f46 _ Try.func46 (by kernel_rfl) rfl rfl rfl ?_
      | ((first | (with_reducible refine Z.callZ_mk ?_ (cr) ?_)); (focus ((repeat' (first | exact trivial | exact rfl | apply And.intro)); done)))
      | ((with_reducible apply ex_and); exact rfl))
    all_goals (try (conv => whnf)))
  all_goals try (show Nat.ble _ _ = true; rfl)
  all_goals first
    | ((first | (with_reducible apply Z.retF1)); (focus (exact rfl)); (repeat' (first | exact trivial | (with_reducible apply Z.frz_one) | (with_reducible apply Z.fq_int) | exact rfl | apply And.intro)); (all_goals (try exact (fun _ => none))); all_goals (rfl))

end Go.Proofs.Ytoiadndmbppobaa
namespace Go.Proofs.Ytoiadndmbppobaa
open Go Go.RowKit Wx
set_option linter.unusedVariables false
set_option linter.unusedSimpArgs false
set_option maxHeartbeats 4000000
theorem app_own {q : List El} {x : El} {n : Nat} {R S : List (List Ce)} (hR : R = q.map cE) (hn : n = q.length) (hS : S = [cE x]) : List.take n R ++ S = (q ++ [x]).map cE := by
  rw [hR, List.take_of_length_le (by simp [hn]), hS, List.map_append]; rfl
theorem dat_no {p : Pk} {n s : Int} (h : (p.kd == 1 && (p.se == n && (p.sq == s && (p.lim == 0 && (true && (true && (true && (true && (true && true))))))))) = true) : p = ⟨1, n, s, 0, p.e⟩ := by
  obtain ⟨a, b, c, d, e⟩ := p
  simp only [Bool.and_eq_true, beq_iff_eq, Bool.true_and, Bool.and_true] at h
  obtain ⟨h1, h2, h3, h4⟩ := h
  subst h1 h2 h3 h4; rfl
theorem el_eq {x y : El} (h : (x.kd == y.kd && (x.src == y.src && (x.key == y.key && (x.val == y.val && (x.num == y.num && true))))) = true) : x = y := by
  cases x; cases y; simp_all
theorem dat_yes {p : Pk} {n s : Int} (h : p = ⟨1, n, s, 0, p.e⟩) : ∃ e, p = ⟨1, n, s, 0, e⟩ := ⟨_, h⟩
theorem copied_con (l : List El) (hl : l.length ≤ 1099511627776) : Con Try.prog 56 [.one (.ro false 5 (l.map eE))] (fun rx rK rt => rx = .c (.osl 0 0 l.length (some l.length)) ∧ rK = [(0, some ⟨l.map cE, 5, 33, false⟩)] ∧ rt = 1) := by
  refine Z.con_ofZ tabOk 11 Try.f56 _ Try.func56 (by kernel_rfl) rfl rfl rfl rfl ?_
  repeat' ((conv => whnf); first
    | ((with_reducible refine cpyN.mk ?_ ?_ ?_ ?_); (focus (first | (simp; done))); (focus (first | exact one_map2 (fun _ => rfl))); (focus ((try simp only [LN] at *) <;> omega)))
    | ((with_reducible refine Z.mkN_nat ?_ ?_ ?_ ?_); (focus ((try simp only [LN] at *) <;> omega)); (focus ((try simp only [LN] at *) <;> omega)); (focus ((try simp only [LN] at *) <;> omega))))
  all_goals (try (conv => whnf))
  all_goals try (show Nat.ble _ _ = true; rfl)
  all_goals first
    | (refine ret1b 0 (.c (.osl 0 0 l.length (some l.length))) (l.map cE) 5 33 false _ rfl ?_ rfl (Z.lay_copy (by simp) (by simp) (fun _ => rfl)) (ren_map fun _ => rfl) rfl (own_map fun _ => rfl) ⟨rfl, rfl, rfl⟩; (rw [show l.length = (l.map eE).length by simp]; rfl))

end Go.Proofs.Ytoiadndmbppobaa
namespace Go.Proofs.Ytoiadndmbppobaa
open Go Go.RowKit Wx
set_option linter.unusedVariables false
set_option linter.unusedSimpArgs false
set_option maxHeartbeats 4000000
theorem take_con (n nx : Int) (bf : List El) (rm : Int) (hq : bf.length ≤ 9223372036854775807) (hu : ∀ e ∈ bf, 0 ≤ e.num) (hx0 : 0 ≤ nx) : Con Try.prog 27 [.agg [.v (.int .u32 n), .v (.int .u64 nx), .ro false 5 (bf.map eE), .v (.int .i64 rm)]] (fun rx rK rt => rx = .tup [.agg [.v (.int .u32 (takeR n nx bf rm).1.n), .v (.int .u64 (takeR n nx bf rm).1.nx), .ro true 5 ((takeR n nx bf rm).1.bf.map eE), .v (.int .i64 (takeR n nx bf rm).1.rm)], .agg [.v (.int .i64 (takeR n nx bf rm).2.1.kd), .v (.int .i64 (takeR n nx bf rm).2.1.src), .v (.int .i64 (takeR n nx bf rm).2.1.key), .v (.int .i64 (takeR n nx bf rm).2.1.val), .v (.int .u64 (takeR n nx bf rm).2.1.num)], .one (.v (.int .i64 (takeR n nx bf rm).2.2))] ∧ rK = [] ∧ rt = 0) := by
  refine Z.con_ofF tabOk 17 Try.f27 _ Try.func27 (by kernel_rfl) rfl rfl rfl rfl ?_
  have ck := checkR_con n nx bf rm hq hu hx0
  unfold takeR
  cases hk : okR n nx bf rm
  all_goals rw [hk] at ck
  all_goals simp only [cond_true, cond_false] at ck ⊢
  · skip
    repeat' ((conv => whnf); first
      | with_reducible first | refine spB_t ?_
      | ((with_reducible apply spB_cong); (focus (simp only [beq_self_eq_true, bne_self_eq_false, Bool.true_bne, Bool.false_bne, Bool.bne_true, Bool.bne_false, Bool.true_beq, Bool.false_beq, Bool.not_true, Bool.not_false, Bool.not_not, Int.reduceBEq, Int.reduceBNe, Int.reduceLE, Int.reduceLT, Int.reduceEq, decide_true, decide_false]; rfl)))
      | with_reducible first | refine Z.callZ_in tabOk 25 Try.f58 _ Try.func58 (by kernel_rfl) rfl rfl rfl ?_
      | ((first | (with_reducible refine Z.callZ_mk ?_ (ck) ?_)); (focus ((repeat' (first | exact trivial | exact rfl | apply And.intro)); done)))
      | ((with_reducible apply ex_and); exact rfl)
      | with_reducible first | refine Z.drawZ_rule tabOk mixOk ?_ | refine Z.apZ_mk (by kernel_rfl) ?_)
    all_goals (try (conv => whnf))
    all_goals try (show Nat.ble _ _ = true; rfl)
    all_goals first
      | ((first | (with_reducible apply Z.retF2)); (focus (exact rfl)); (repeat' (first | exact trivial | (with_reducible apply Z.frz_agg) | (with_reducible apply Z.fq_int) | (exact Z.frz_nil) | exact rfl | apply And.intro)); (all_goals (try exact (fun _ => none))); all_goals (first | (simp; done)))
  have hs := okR_all hk
  have cc := copied_con bf (by omega)
  cases bf with
  | nil =>
    dsimp only
    repeat' ((conv => whnf); first
      | with_reducible first | refine spB_t ?_
      | ((with_reducible apply spB_cong); (focus (simp only [beq_self_eq_true, bne_self_eq_false, Bool.true_bne, Bool.false_bne, Bool.bne_true, Bool.bne_false, Bool.true_beq, Bool.false_beq, Bool.not_true, Bool.not_false, Bool.not_not, Int.reduceBEq, Int.reduceBNe, Int.reduceLE, Int.reduceLT, Int.reduceEq, decide_true, decide_false]; rfl)))
      | with_reducible first | refine spB_yes (by decide) ?_ | refine spB_no (by decide) ?_
      | with_reducible first | refine Z.callZ_in tabOk 25 Try.f58 _ Try.func58 (by kernel_rfl) rfl rfl rfl ?_ | refine Z.callZ_in tabOk 24 Try.f60 _ Try.func60 (by kernel_rfl) rfl rfl rfl ?_
      | ((first | (with_reducible refine Z.callZ_mk ?_ (ck) ?_) | (with_reducible refine Z.callZ_mk ?_ (cc) ?_)); (focus ((repeat' (first | exact trivial | exact rfl | apply And.intro)); done)))
      | ((with_reducible apply ex_and); exact rfl)
      | with_reducible first | refine Z.drawZ_rule tabOk mixOk ?_ | refine Z.apZ_mk (by kernel_rfl) ?_)
    all_goals (try (conv => whnf))
    all_goals try (show Nat.ble _ _ = true; rfl)
    all_goals first
      | ((first | (with_reducible apply Z.retF2)); (focus (exact rfl)); (repeat' (first | exact trivial | (with_reducible apply Z.frz_one) | (with_reducible apply Z.frz_agg) | (with_reducible apply Z.fq_int) | (exact Z.frz_nil) | exact rfl | apply And.intro)); (all_goals (try exact (fun _ => none))); all_goals (first | (simp; done)))
  | cons x r =>
    dsimp only
    cases r with
    | nil =>
      repeat' ((conv => whnf); first
        | ((with_reducible apply spB_cong); (focus (simp only [beq_self_eq_true, bne_self_eq_false, Bool.true_bne, Bool.false_bne, Bool.bne_true, Bool.bne_false, Bool.true_beq, Bool.false_beq, Bool.not_true, Bool.not_false, Bool.not_not, Int.reduceBEq, Int.reduceBNe, Int.reduceLE, Int.reduceLT, Int.reduceEq, decide_true, decide_false]; rfl)))
        | with_reducible first | refine spB_no (by decide) ?_
        | (with_reducible refine spB_beq ?_ ?_ <;> intro _ <;> (try (exfalso; first | contradiction | omega | (rename_i hz; refine hz ?_; simp; done) | (rename_i hz; simp at hz; done) | (simp only [LN] at *; omega))))
        | ((with_reducible refine Z.slN_lo 1 ?_ ?_ ?_); (focus rfl); (focus ((try simp only [LN] at *) <;> omega)))
        | ((with_reducible refine rowN_mk (cE x) ?_ ?_); (focus rfl))
        | ((with_reducible apply ixN_lit); (focus (exact rfl)); (focus (exact rfl)))
        | ((with_reducible refine slE_b ?_ ?_); (focus ((try simp only [LN] at *) <;> omega)))
        | with_reducible first | refine Z.callZ_in tabOk 25 Try.f58 _ Try.func58 (by kernel_rfl) rfl rfl rfl ?_ | refine Z.callZ_in tabOk 24 Try.f60 _ Try.func60 (by kernel_rfl) rfl rfl rfl ?_
        | ((first | (with_reducible refine Z.callZ_mk ?_ (ck) ?_) | (with_reducible refine Z.callZ_mk ?_ (cc) ?_)); (focus ((repeat' (first | exact trivial | exact rfl | apply And.intro)); done)))
        | ((with_reducible apply ex_and); exact rfl)
        | with_reducible first | refine Z.drawZ_rule tabOk mixOk ?_ | refine Z.apZ_mk (by kernel_rfl) ?_)
      all_goals (try (conv => whnf))
      all_goals try (show Nat.ble _ _ = true; rfl)
      all_goals try (exfalso; rename_i hz; cases hz; done)
      all_goals try (exfalso; (try simp only [LN] at *) <;> omega)
      all_goals first
        | ((first | (with_reducible apply Z.retF2)); (focus (exact rfl)); (repeat' (first | exact trivial | (with_reducible apply Z.frz_one) | (with_reducible apply Z.frz_agg) | (with_reducible apply Z.fq_int) | exact rfl | apply And.intro)); (all_goals (try exact (fun _ => none))); all_goals (first | (simp; done)))
    | cons y r =>
      repeat' ((conv => whnf); first
        | ((with_reducible apply spB_cong); (focus (simp only [beq_self_eq_true, bne_self_eq_false, Bool.true_bne, Bool.false_bne, Bool.bne_true, Bool.bne_false, Bool.true_beq, Bool.false_beq, Bool.not_true, Bool.not_false, Bool.not_not, Int.reduceBEq, Int.reduceBNe, Int.reduceLE, Int.reduceLT, Int.reduceEq, decide_true, decide_false]; rfl)))
        | with_reducible first | refine spB_no (by decide) ?_
        | (with_reducible refine spB_beq ?_ ?_ <;> intro _ <;> (try (exfalso; first | contradiction | omega | (rename_i hz; refine hz ?_; simp; done) | (rename_i hz; simp at hz; done) | (simp only [LN] at *; omega))))
        | ((with_reducible refine Z.slN_lo 1 ?_ ?_ ?_); (focus rfl); (focus ((try simp only [LN] at *) <;> omega)))
        | ((with_reducible refine rowN_mk (cE x) ?_ ?_); (focus rfl))
        | ((with_reducible apply ixN_lit); (focus (exact rfl)); (focus (exact rfl)))
        | ((with_reducible refine slE_a ?_ ?_); (focus ((try simp only [LN] at *) <;> omega)))
        | with_reducible first | refine Z.callZ_in tabOk 25 Try.f58 _ Try.func58 (by kernel_rfl) rfl rfl rfl ?_ | refine Z.callZ_in tabOk 24 Try.f60 _ Try.func60 (by kernel_rfl) rfl rfl rfl ?_
        | ((first | (with_reducible refine Z.callZ_mk ?_ (ck) ?_) | (with_reducible refine Z.callZ_mk ?_ (cc) ?_)); (focus ((repeat' (first | exact trivial | exact rfl | apply And.intro)); done)))
        | ((with_reducible apply ex_and); exact rfl)
        | with_reducible first | refine Z.drawZ_rule tabOk mixOk ?_ | refine Z.apZ_mk (by kernel_rfl) ?_)
      all_goals (try (conv => whnf))
      all_goals try (show Nat.ble _ _ = true; rfl)
      all_goals try (exfalso; rename_i hz; cases hz; done)
      all_goals try (exfalso; (try simp only [LN] at *) <;> omega)
      all_goals first
        | ((first | (with_reducible apply Z.retF2)); (focus (exact rfl)); (repeat' (first | exact trivial | (refine Z.fq_oslg (l := x :: y :: r) (f := cE) (ty := 33) (bx := false) ?_ ?_ (fun _ => rfl) ?_; (focus (exact congrArg (fun r => some (Blk.mk r 5 33 false)) (ren_map fun _ => rfl))); (focus ((try simp only [LN] at *) <;> omega)); (focus (simp; done))) | (with_reducible apply Z.frz_one) | (with_reducible apply Z.frz_agg) | (with_reducible apply Z.fq_int) | exact rfl | apply And.intro)); (all_goals (try exact (fun _ => none))); all_goals (first | (simp; done)))

end Go.Proofs.Ytoiadndmbppobaa
namespace Go.Proofs.Ytoiadndmbppobaa
open Go Go.RowKit Wx
set_option linter.unusedVariables false
set_option linter.unusedSimpArgs false
set_option maxHeartbeats 4000000
theorem ack_con (n nx : Int) (bf : List El) (rm : Int) (hq : bf.length ≤ 9223372036854775807) (hu : ∀ e ∈ bf, 0 ≤ e.num) (hx0 : 0 ≤ nx) : Con Try.prog 26 [.agg [.v (.int .u32 n), .v (.int .u64 nx), .ro false 5 (bf.map eE), .v (.int .i64 rm)]] (fun rx rK rt => rx = .tup [.agg [.v (.int .i64 (ackR n nx bf rm).1.kd), .v (.int .u32 (ackR n nx bf rm).1.se), .v (.int .u64 (ackR n nx bf rm).1.sq), .v (.int .u64 (ackR n nx bf rm).1.lim), .v (.int .i64 (ackR n nx bf rm).1.e.kd), .v (.int .i64 (ackR n nx bf rm).1.e.src), .v (.int .i64 (ackR n nx bf rm).1.e.key), .v (.int .i64 (ackR n nx bf rm).1.e.val), .v (.int .u64 (ackR n nx bf rm).1.e.num)], .one (.v (.int .i64 (ackR n nx bf rm).2))] ∧ rK = [] ∧ rt = 0) := by
  refine Z.con_ofF tabOk 30 Try.f26 _ Try.func26 (by kernel_rfl) rfl rfl rfl rfl ?_
  have ck := checkR_con n nx bf rm hq hu hx0
  unfold ackR
  cases hk : okR n nx bf rm
  all_goals rw [hk] at ck
  all_goals simp only [cond_true, cond_false] at ck ⊢
  · skip
    repeat' ((conv => whnf); first
      | with_reducible first | refine spB_t ?_
      | ((with_reducible apply spB_cong); (focus (simp only [beq_self_eq_true, bne_self_eq_false, Bool.true_bne, Bool.false_bne, Bool.bne_true, Bool.bne_false, Bool.true_beq, Bool.false_beq, Bool.not_true, Bool.not_false, Bool.not_not, Int.reduceBEq, Int.reduceBNe, Int.reduceLE, Int.reduceLT, Int.reduceEq, decide_true, decide_false]; rfl)))
      | ((first | (with_reducible refine Z.callZ_mk ?_ (ck) ?_)); (focus ((repeat' (first | exact trivial | exact rfl | apply And.intro)); done))))
    all_goals (try (conv => whnf))
    all_goals try (show Nat.ble _ _ = true; rfl)
    all_goals first
      | ((first | (with_reducible apply Z.retF2)); (focus (exact rfl)); (repeat' (first | exact trivial | (with_reducible apply Z.frz_agg) | (with_reducible apply Z.fq_int) | exact rfl | apply And.intro)); (all_goals (try exact (fun _ => none))); all_goals (first | (simp; done)))
  have hs := okR_all hk
  have hlm : (List.map eE bf).length = bf.length := by simp
  repeat' ((conv => whnf); first
    | ((with_reducible apply spB_cong); (focus (simp only [beq_self_eq_true, bne_self_eq_false, Bool.true_bne, Bool.false_bne, Bool.bne_true, Bool.bne_false, Bool.true_beq, Bool.false_beq, Bool.not_true, Bool.not_false, Bool.not_not, Int.reduceBEq, Int.reduceBNe, Int.reduceLE, Int.reduceLT, Int.reduceEq, decide_true, decide_false]; rfl)))
    | with_reducible first | refine spB_no (by decide) ?_
    | with_reducible refine wr_i64 (by first | omega | (simp only [LN] at *; omega)) ?_
    | with_reducible refine wr_u64 (by omega) ?_
    | ((first | (with_reducible refine Z.callZ_mk ?_ (ck) ?_)); (focus ((repeat' (first | exact trivial | exact rfl | apply And.intro)); done))))
  all_goals (try (conv => whnf))
  all_goals try (show Nat.ble _ _ = true; rfl)
  all_goals first
    | ((first | (with_reducible apply Z.retF2)); (focus (exact rfl)); (repeat' (first | exact trivial | (with_reducible apply Z.frz_one) | (with_reducible apply Z.frz_agg) | (with_reducible apply Z.fq_int) | exact rfl | apply And.intro)); (all_goals (try exact (fun _ => none))); all_goals (first | (simp; done)))

end Go.Proofs.Ytoiadndmbppobaa
namespace Go.Proofs.Ytoiadndmbppobaa
open Go Go.RowKit Wx
set_option linter.unusedVariables false
set_option linter.unusedSimpArgs false
set_option maxHeartbeats 4000000
theorem hear_con (n nx : Int) (bf : List El) (rm : Int) (p : Pk) (hq : bf.length ≤ 9223372036854775807) (hu : ∀ e ∈ bf, 0 ≤ e.num) (hx0 : 0 ≤ nx) (hp1 : 0 ≤ p.sq) (hp2 : 0 ≤ p.e.num) : Con Try.prog 25 [.agg [.v (.int .u32 n), .v (.int .u64 nx), .ro false 5 (bf.map eE), .v (.int .i64 rm)], .agg [.v (.int .i64 p.kd), .v (.int .u32 p.se), .v (.int .u64 p.sq), .v (.int .u64 p.lim), .v (.int .i64 p.e.kd), .v (.int .i64 p.e.src), .v (.int .i64 p.e.key), .v (.int .i64 p.e.val), .v (.int .u64 p.e.num)]] (fun rx rK rt => rx = .tup [.agg [.v (.int .u32 (hearR n nx bf rm p).1.n), .v (.int .u64 (hearR n nx bf rm p).1.nx), .ro true 5 ((hearR n nx bf rm p).1.bf.map eE), .v (.int .i64 (hearR n nx bf rm p).1.rm)], .one (.v (.int .i64 (hearR n nx bf rm p).2))] ∧ rK = [] ∧ rt = 0) := by
  refine Z.con_ofF tabOk 11 Try.f25 _ Try.func25 (by kernel_rfl) rfl rfl rfl rfl ?_
  have ck := checkR_con n nx bf rm hq hu hx0
  have ce2 := ends_con bf hq
  have ce := checkE_con p.e hp2
  unfold hearR
  cases hk : okR n nx bf rm
  all_goals rw [hk] at ck
  all_goals simp only [cond_true, cond_false] at ck ⊢
  · skip
    repeat' ((conv => whnf); first
      | with_reducible first | refine spB_t ?_
      | ((with_reducible apply spB_cong); (focus (simp only [beq_self_eq_true, bne_self_eq_false, Bool.true_bne, Bool.false_bne, Bool.bne_true, Bool.bne_false, Bool.true_beq, Bool.false_beq, Bool.not_true, Bool.not_false, Bool.not_not, Int.reduceBEq, Int.reduceBNe, Int.reduceLE, Int.reduceLT, Int.reduceEq, decide_true, decide_false]; rfl)))
      | with_reducible first | refine Z.callZ_in tabOk 25 Try.f58 _ Try.func58 (by kernel_rfl) rfl rfl rfl ?_
      | ((first | (with_reducible refine Z.callZ_mk ?_ (ck) ?_)); (focus ((repeat' (first | exact trivial | exact rfl | apply And.intro)); done)))
      | ((with_reducible apply ex_and); exact rfl))
    all_goals (try (conv => whnf))
    all_goals try (show Nat.ble _ _ = true; rfl)
    all_goals first
      | ((first | (with_reducible apply Z.retF2)); (focus (exact rfl)); (repeat' (first | exact trivial | (with_reducible apply Z.frz_agg) | (with_reducible apply Z.fq_int) | (exact Z.frz_nil) | exact rfl | apply And.intro)); (all_goals (try exact (fun _ => none))); all_goals (first | (simp; done)))
  have hs := okR_all hk
  have cc := copied_con bf (by omega)
  by_cases ha : p = ⟨1, n, nx, 0, p.e⟩
  · obtain ⟨e, hpe⟩ := dat_yes ha
    clear ha
    subst hpe
    dsimp only at hp1 hp2 ce ⊢
    by_cases hf : dataOf n nx bf rm ⟨1, n, nx, 0, e⟩
    · rw [if_pos hf]
      obtain ⟨_, hf1, hf2, hf3, hf4⟩ := hf
      dsimp only at hf1 hf2 hf3 hf4 ⊢
      rw [hf2] at ce
      rw [hf4] at ce2
      simp only [cond_true] at ce
      repeat' ((conv => whnf); first
        | with_reducible first | refine spB_t ?_
        | ((with_reducible apply spB_cong); (focus (simp only [beq_self_eq_true, bne_self_eq_false, Bool.true_bne, Bool.false_bne, Bool.bne_true, Bool.bne_false, Bool.true_beq, Bool.false_beq, Bool.not_true, Bool.not_false, Bool.not_not, Int.reduceBEq, Int.reduceBNe, Int.reduceLE, Int.reduceLT, Int.reduceEq, decide_true, decide_false]; rfl)))
        | with_reducible first | refine spB_no (by decide) ?_
        | (with_reducible refine spB_dec ?_ ?_ <;> intro _ <;> (try (exfalso; first | contradiction | omega | (rename_i hz; refine hz ?_; simp; done) | (rename_i hz; simp at hz; done) | (simp only [LN] at *; omega))))
        | ((with_reducible refine apdE_k ?_); (with_reducible refine apkN.mk ⟨_, rfl, ?_⟩ ?_); (focus (simp; done)); (with_reducible refine apdN.mk ?_ ?_ ?_ ?_ ?_ ?_); (focus rfl); (focus (exact one_all (by rfl))); (focus (show _ ≤ (List.map _ _).length; simp; done)); (focus ((try simp only [LN] at *) <;> omega)); (focus ((try simp only [LN] at *) <;> omega)))
        | with_reducible refine wr_u64 (by omega) ?_
        | with_reducible first | refine Z.callZ_in tabOk 25 Try.f58 _ Try.func58 (by kernel_rfl) rfl rfl rfl ?_ | refine Z.callZ_in tabOk 68 Try.f59 _ Try.func59 (by kernel_rfl) rfl rfl rfl ?_
        | ((first | (with_reducible refine Z.conZ_mz ?_ (ce2) ?_) | (with_reducible refine Z.callZ_mk ?_ (ce) ?_) | (with_reducible refine Z.callZ_mk ?_ (ck) ?_) | (with_reducible refine Z.callZ_mk ?_ (cc) ?_)); (focus ((repeat' (first | exact trivial | exact rfl | exact low_oslr (fun _ => rfl) | apply And.intro)); done)))
        | ((with_reducible apply ex_and); exact rfl)
        | with_reducible first | refine Z.drawZ_rule tabOk mixOk ?_ | refine Z.apZ_mk (by kernel_rfl) ?_)
      all_goals (try (conv => whnf))
      all_goals try (show Nat.ble _ _ = true; rfl)
      all_goals try (exfalso; rename_i hz; cases hz; done)
      all_goals try (exfalso; (try simp only [LN] at *) <;> omega)
      all_goals first
        | ((first | (with_reducible apply Z.retF2)); (focus (exact rfl)); (repeat' (first | exact trivial | (refine Z.fq_osl (l := bf ++ [e]) (f := cE) (ty := 33) (bx := false) ?_ ?_ (fun _ => rfl) ?_; (focus (exact congrArg (fun r => some (Blk.mk r 5 33 false)) (app_own (ren_map fun _ => rfl) (by simp) rfl))); (focus (((try simp only [LN] at *) <;> omega))); (focus (exact rfl))) | (with_reducible apply Z.frz_one) | (with_reducible apply Z.frz_agg) | (with_reducible apply Z.fq_int) | exact rfl | apply And.intro)); (all_goals (try exact (fun _ => none))); all_goals (first | (simp; done)))
    · rw [if_neg hf]
      cases hok : okE e <;> cases hen : endsL bf
      all_goals rw [hok] at ce
      all_goals rw [hen] at ce2
      all_goals simp only [cond_true, cond_false] at ce
      all_goals (
        repeat' ((conv => whnf); first
          | with_reducible first | refine spB_t ?_
          | ((with_reducible apply spB_cong); (focus (simp only [beq_self_eq_true, bne_self_eq_false, Bool.true_bne, Bool.false_bne, Bool.bne_true, Bool.bne_false, Bool.true_beq, Bool.false_beq, Bool.not_true, Bool.not_false, Bool.not_not, Int.reduceBEq, Int.reduceBNe, Int.reduceLE, Int.reduceLT, Int.reduceEq, decide_true, decide_false]; rfl)))
          | with_reducible first | refine spB_no (by decide) ?_
          | (with_reducible refine spB_dec ?_ ?_ <;> intro _ <;> (try (exfalso; first | contradiction | omega | (rename_i hz; refine hz ?_; simp; done) | (rename_i hz; simp at hz; done) | (simp only [LN] at *; omega))))
          | ((with_reducible refine apdE_k ?_); (with_reducible refine apkN.mk ⟨_, rfl, ?_⟩ ?_); (focus (simp; done)); (with_reducible refine apdN.mk ?_ ?_ ?_ ?_ ?_ ?_); (focus rfl); (focus (exact one_all (by rfl))); (focus (show _ ≤ (List.map _ _).length; simp; done)); (focus ((try simp only [LN] at *) <;> omega)); (focus ((try simp only [LN] at *) <;> omega)))
          | with_reducible refine wr_u64 (by omega) ?_
          | with_reducible first | refine Z.callZ_in tabOk 25 Try.f58 _ Try.func58 (by kernel_rfl) rfl rfl rfl ?_ | refine Z.callZ_in tabOk 68 Try.f59 _ Try.func59 (by kernel_rfl) rfl rfl rfl ?_
          | ((first | (with_reducible refine Z.conZ_mz ?_ (ce2) ?_) | (with_reducible refine Z.callZ_mk ?_ (ce) ?_) | (with_reducible refine Z.callZ_mk ?_ (ck) ?_) | (with_reducible refine Z.callZ_mk ?_ (cc) ?_)); (focus ((repeat' (first | exact trivial | exact rfl | exact low_oslr (fun _ => rfl) | apply And.intro)); done)))
          | ((with_reducible apply ex_and); exact rfl)
          | with_reducible first | refine Z.drawZ_rule tabOk mixOk ?_ | refine Z.apZ_mk (by kernel_rfl) ?_)
        all_goals (try (conv => whnf)))
      all_goals try (show Nat.ble _ _ = true; rfl)
      all_goals first
        | ((first | (with_reducible apply Z.retF2)); (focus (exact rfl)); (repeat' (first | exact trivial | (refine Z.fq_osl (l := bf) (f := cE) (ty := 33) (bx := false) ?_ ?_ (fun _ => rfl) ?_; (focus (exact congrArg (fun r => some (Blk.mk r 5 33 false)) (ren_map fun _ => rfl))); (focus (((try simp only [LN] at *) <;> omega))); (focus (exact rfl))) | (with_reducible apply Z.frz_one) | (with_reducible apply Z.frz_agg) | (with_reducible apply Z.fq_int) | exact rfl | apply And.intro)); (all_goals (try exact (fun _ => none))); all_goals (first | (simp; done)))
        | (exfalso; refine hf ⟨rfl, ?_, hok, ?_, hen⟩; (focus ((try dsimp only); (try simp only [LN] at *) <;> omega)); ((try dsimp only); (try simp only [LN] at *) <;> omega))
  · have hf : ¬ dataOf n nx bf rm p := fun h => ha h.1
    rw [if_neg hf]
    repeat' ((conv => whnf); first
      | with_reducible first | refine spB_t ?_
      | ((with_reducible apply spB_cong); (focus (simp only [beq_self_eq_true, bne_self_eq_false, Bool.true_bne, Bool.false_bne, Bool.bne_true, Bool.bne_false, Bool.true_beq, Bool.false_beq, Bool.not_true, Bool.not_false, Bool.not_not, Int.reduceBEq, Int.reduceBNe, Int.reduceLE, Int.reduceLT, Int.reduceEq, decide_true, decide_false]; rfl)))
      | with_reducible first | refine spB_no (by decide) ?_ | refine spB_not ?_
      | (with_reducible refine spB_dec ?_ ?_ <;> intro _ <;> (try (exfalso; first | contradiction | omega | (rename_i hz; refine hz ?_; simp; done) | (rename_i hz; simp at hz; done) | (simp only [LN] at *; omega))))
      | (with_reducible refine spB_bne ?_ ?_ <;> intro _ <;> (try (exfalso; first | contradiction | omega | (rename_i hz; refine hz ?_; simp; done) | (rename_i hz; simp at hz; done) | (simp only [LN] at *; omega))))
      | (with_reducible refine spB_mk ?_ ?_ <;> intro _ <;> (try (exfalso; first | contradiction | omega | (rename_i hz; refine hz ?_; simp; done) | (rename_i hz; simp at hz; done) | (simp only [LN] at *; omega))))
      | ((with_reducible refine apdE_k ?_); (with_reducible refine apkN.mk ⟨_, rfl, ?_⟩ ?_); (focus ((try simp only [LN] at *) <;> omega)))
      | with_reducible first | refine Z.callZ_in tabOk 25 Try.f58 _ Try.func58 (by kernel_rfl) rfl rfl rfl ?_ | refine Z.callZ_in tabOk 68 Try.f59 _ Try.func59 (by kernel_rfl) rfl rfl rfl ?_
      | ((first | (with_reducible refine Z.conZ_mz ?_ (ce2) ?_) | (with_reducible refine Z.callZ_mk ?_ (ce) ?_) | (with_reducible refine Z.callZ_mk ?_ (ck) ?_) | (with_reducible refine Z.callZ_mk ?_ (cc) ?_)); (focus ((repeat' (first | exact trivial | exact rfl | exact low_oslr (fun _ => rfl) | apply And.intro)); done)))
      | ((with_reducible apply ex_and); exact rfl)
      | with_reducible first | refine Z.drawZ_rule tabOk mixOk ?_ | refine Z.apZ_mk (by kernel_rfl) ?_)
    all_goals (try (conv => whnf))
    all_goals try (show Nat.ble _ _ = true; rfl)
    all_goals first
      | ((first | (with_reducible apply Z.retF2)); (focus (exact rfl)); (repeat' (first | exact trivial | (refine Z.fq_osl (l := bf) (f := cE) (ty := 33) (bx := false) ?_ ?_ (fun _ => rfl) ?_; (focus (exact congrArg (fun r => some (Blk.mk r 5 33 false)) (ren_map fun _ => rfl))); (focus (((try simp only [LN] at *) <;> omega))); (focus (exact rfl))) | (with_reducible apply Z.frz_one) | (with_reducible apply Z.frz_agg) | (with_reducible apply Z.fq_int) | exact rfl | apply And.intro)); (all_goals (try exact (fun _ => none))); all_goals (first | (simp; done)))
      | (exfalso; exact ha (dat_no (by assumption)))

end Go.Proofs.Ytoiadndmbppobaa
namespace Go.Proofs.Ytoiadndmbppobaa
open Go Go.RowKit Wx
set_option linter.unusedVariables false
set_option linter.unusedSimpArgs false
set_option maxHeartbeats 4000000
end Go.Proofs.Ytoiadndmbppobaa
namespace Go.Proofs.Ytoiadndmbppobaa
open Go Go.RowKit Wx
set_option linter.unusedVariables false
set_option linter.unusedSimpArgs false
set_option maxHeartbeats 4000000
/-! ### What holds of a link, step by step -/
theorem okEs_drop : ∀ {l : List El} (k : Nat), okEs l = true → okEs (l.drop k) = true
  | l, 0, h => by simpa using h
  | [], k + 1, _ => rfl
  | e :: r, k + 1, h => by
    rw [okEs, Bool.and_eq_true] at h
    exact okEs_drop k h.2
theorem okEs_take : ∀ {l : List El} (k : Nat), okEs l = true → okEs (l.take k) = true
  | l, 0, h => by simp [okEs]
  | [], k + 1, _ => by simp [okEs]
  | e :: r, k + 1, h => by
    rw [okEs, Bool.and_eq_true, Bool.and_eq_true, decide_eq_true_eq] at h
    rw [List.take_succ_cons, okEs, Bool.and_eq_true, Bool.and_eq_true, decide_eq_true_eq]
    exact ⟨⟨h.1.1, fun h3 => by rw [h.1.2 h3, List.take_nil]⟩, okEs_take k h.2⟩
theorem endsL_drop {l : List El} {k : Nat} (h : endsL (l.drop k) = true) : endsL l = true := by
  unfold endsL at h
  cases hx : (l.drop k)[(l.drop k).length - 1]? with
  | none => rw [hx] at h; cases h
  | some e =>
    rw [hx] at h
    have hl := (List.getElem?_eq_some_iff.1 hx).1
    rw [List.length_drop] at hl
    rw [List.getElem?_drop, List.length_drop, show k + (l.length - k - 1) = l.length - 1 by omega] at hx
    rw [endsL_at hx]; exact h
theorem okEs_mem : ∀ {l : List El} {k : Nat} {e : El}, okEs l = true → l[k]? = some e → okE e = true
  | [], k, e, _, h => by simp at h
  | x :: r, 0, e, h, hk => by
    rw [okEs, Bool.and_eq_true, Bool.and_eq_true] at h
    simp at hk; subst hk; exact h.1.1
  | x :: r, k + 1, e, h, hk => by
    rw [okEs, Bool.and_eq_true] at h
    exact okEs_mem h.2 (by simpa using hk)
abbrev bfL (put : List El) (N T : Nat) : List El := (put.take N).drop T
theorem bfL_len {put : List El} {N T : Nat} (h : N ≤ put.length) : (bfL put N T).length = N - T := by simp [bfL, Nat.min_eq_left h]
/-- May a packet be on its way? -/
def okP (put : List El) (rm : Int) (N T : Nat) (p : Pk) : Prop := p.se = 7 ∧ ((p.kd = 1 ∧ p.lim = 0 ∧ ∃ k : Nat, p.sq = (k : Int) + 1 ∧ put[k]? = some p.e) ∨ (p.kd = 2 ∧ (0 ≤ p.sq ∧ p.sq ≤ (N : Int) + 1) ∧ (0 ≤ p.lim ∧ p.lim ≤ (T : Int) + rm) ∧ p.e = zE))
structure LInv (rm : Int) (i B N T : Nat) (l : Int) (put : List El) (w : List Pk) : Prop where
  hS : okS 7 ((B : Int) + 1) (put.drop B) l (endsL put) = true
  hR : okR 7 ((N : Int) + 1) (bfL put N T) rm = true
  hP : okEs put = true
  hTN : T ≤ N
  hBN : B ≤ N
  hNP : N ≤ put.length
  hl0 : 0 ≤ l
  hl : l ≤ (T : Int) + rm
  hw : ∀ p ∈ w, okP put rm N T p
  hwl : w.length ≤ 8 * i
  hpl : put.length ≤ i
theorem LInv.more {rm : Int} {i B N T : Nat} {l : Int} {put : List El} {w : List Pk} (h : LInv rm i B N T l put w) : LInv rm (i + 1) B N T l put w :=
  { h with hwl := Nat.le_trans h.hwl (by omega), hpl := Nat.le_trans h.hpl (by omega) }
theorem okP.more {put put' : List El} {rm : Int} {N N' T T' : Nat} {p : Pk} (h : okP put rm N T p) (hp : ∀ (k : Nat) e, put[k]? = some e → put'[k]? = some e) (hN : N ≤ N') (hT : T ≤ T') : okP put' rm N' T' p := by
  obtain ⟨h1, h2⟩ := h
  refine ⟨h1, ?_⟩
  rcases h2 with ⟨a, b, k, c, d⟩ | ⟨a, b, c, d⟩
  · exact .inl ⟨a, b, k, c, hp k _ d⟩
  · exact .inr ⟨a, by omega, by omega, d⟩
section
variable {rm : Int} {i B N T : Nat} {l : Int} {put : List El} {w : List Pk} (h : LInv rm i B N T l put w)
include h
theorem LInv.sub {w' : List Pk} (hw : ∀ p ∈ w', p ∈ w) (hl : w'.length ≤ w.length) : LInv rm i B N T l put w' :=
  { h with hw := fun p hp => h.hw p (hw p hp), hwl := Nat.le_trans hl h.hwl }
theorem LInv.ack_ok : okP put rm N T ⟨2, 7, (N : Int) + 1, min ((T : Int) + rm) 4611686018427387904, zE⟩ := ⟨rfl, .inr ⟨rfl, ⟨by show 0 ≤ (N : Int) + 1; omega, Int.le_refl _⟩, ⟨by have := (okR_all h.hR).1; show 0 ≤ min _ _; omega, by show min _ _ ≤ _; omega⟩, rfl⟩⟩
theorem LInv.ack : LInv rm (i + 1) B N T l put (w ++ [⟨2, 7, (N : Int) + 1, min ((T : Int) + rm) 4611686018427387904, zE⟩]) :=
  { h with
    hw := fun p hp => by
      rcases List.mem_append.1 hp with hp | hp
      · exact h.hw p hp
      · rw [List.mem_singleton.1 hp]; exact h.ack_ok
    hwl := by have := h.hwl; simp; omega
    hpl := by have := h.hpl; omega }
/-- An ack comes. -/
theorem LInv.back {p : Pk} (hp : okP put rm N T p ∨ p.se ≠ 7) (hk : p.kd = 2) (h0 : 0 ≤ p.lim) : ∃ (B' : Nat) (l' : Int), ackedR 7 ((B : Int) + 1) (put.drop B) l (endsL put) p = (⟨7, (B' : Int) + 1, put.drop B', l', endsL put⟩, 0) ∧ LInv rm i B' N T l' put w ∧ (p = ⟨2, 7, (N : Int) + 1, min ((T : Int) + rm) 4611686018427387904, zE⟩ → (N : Int) + 1 ≤ 4611686018427387904 → B' = N ∧ min ((T : Int) + rm) 4611686018427387904 ≤ l') := by
  have hs := okS_all h.hS
  have hBN := h.hBN
  have hNP := h.hNP
  rw [List.length_drop] at hs
  unfold ackedR
  rw [h.hS, cond_true]
  split
  · rename_i ha
    obtain ⟨h1, h2, h3, h4, h5⟩ := ha
    rw [List.length_drop] at h3
    have hse : p.se = 7 := by rw [h1]
    rcases hp with hp | hp
    · obtain ⟨_, ⟨h6, _⟩ | ⟨_, h6, h7, _⟩⟩ := hp
      · omega
      obtain ⟨k, hk2⟩ := Int.eq_ofNat_of_zero_le (show 0 ≤ p.sq - 1 by omega)
      have e1 : (p.sq - ((B : Int) + 1)).toNat = k - B := by omega
      refine ⟨k, max l p.lim, ?_, ?_, ?_⟩
      · rw [e1, List.drop_drop, show B + (k - B) = k by omega, show p.sq = (k : Int) + 1 by omega]
      · exact { h with
          hS := by
            unfold okS
            rw [okEs_drop k h.hP, decide_eq_true (by rw [List.length_drop]; omega)]
            cases he : endsL (put.drop k)
            · simp
            · rw [endsL_drop he]; rfl
          hBN := by omega
          hl0 := by have := h.hl0; omega
          hl := by have := h.hl; omega }
      · intro hpe hmx
        have e2 : p.sq = (N : Int) + 1 := by rw [hpe]
        have e3 : p.lim = min ((T : Int) + rm) 4611686018427387904 := by rw [hpe]
        exact ⟨by omega, by omega⟩
    · exact absurd hse hp
  · rename_i ha
    refine ⟨B, l, rfl, h, fun hpe hmx => absurd ?_ ha⟩
    rw [hpe]
    refine ⟨rfl, by show _ ≤ (N : Int) + 1; omega, ?_, hmx, by show min _ _ ≤ _; omega⟩
    rw [List.length_drop]; show (N : Int) + 1 ≤ _; omega
theorem LInv.none (hT : T = N) : takeR 7 ((N : Int) + 1) (bfL put N T) rm = (zR, zE, 4) := by
  unfold takeR
  rw [h.hR, cond_true, show bfL put N T = [] from List.eq_nil_of_length_eq_zero (by rw [bfL_len h.hNP]; omega)]
theorem LInv.take {e : El} (hT : T < N) (he : put[T]? = some e) : takeR 7 ((N : Int) + 1) (bfL put N T) rm = (⟨7, (N : Int) + 1, bfL put N (T + 1), rm⟩, e, 0) ∧ LInv rm i B N (T + 1) l put w := by
  have hr := (okR_all h.hR).1
  have e1 : bfL put N T = e :: bfL put N (T + 1) := by
    unfold bfL
    exact drop_cons (by rw [List.getElem?_take_of_lt hT]; exact he)
  constructor
  · unfold takeR
    rw [h.hR, cond_true, e1]
  · exact { h with
      hR := by
        unfold okR
        rw [show okEs (bfL put N (T + 1)) = true from okEs_drop _ (okEs_take _ h.hP), decide_eq_true (by rw [bfL_len h.hNP] at hr ⊢; omega)]; rfl
      hTN := by omega
      hl := by have := h.hl; omega
      hw := fun p hp => (h.hw p hp).more (fun _ _ hk => hk) (Nat.le_refl _) (by omega) }
end
theorem okE_num {e : El} (h : okE e = true) : 0 ≤ e.num := by
  unfold okE at h
  have h := of_decide_eq_true h
  omega
theorem okP.num {put : List El} {rm : Int} {N T : Nat} {p : Pk} (h : okP put rm N T p) (hP : okEs put = true) : 0 ≤ p.sq ∧ 0 ≤ p.lim ∧ 0 ≤ p.e.num := by
  obtain ⟨_, ⟨_, a, k, b, c⟩ | ⟨_, a, b, c⟩⟩ := h
  · exact ⟨by omega, by omega, okE_num (okEs_mem hP c)⟩
  · exact ⟨a.1, b.1, by rw [c]; exact Int.le_refl _⟩
/-! ### The state of both ends -/
structure St where
  kd : Int
  n : Int
  keeps : Bool
  e : El
  p : Pk
end Go.Proofs.Ytoiadndmbppobaa
namespace Go.Proofs.Ytoiadndmbppobaa
open Go Go.RowKit Wx
set_option linter.unusedVariables false
set_option linter.unusedSimpArgs false
set_option maxHeartbeats 4000000
end Go.Proofs.Ytoiadndmbppobaa
namespace Go.Proofs.Ytoiadndmbppobaa
open Go Go.RowKit Wx
set_option linter.unusedVariables false
set_option linter.unusedSimpArgs false
set_option maxHeartbeats 4000000
theorem wakes_con : Con Try.prog 10 [] (fun x K t => x = .val (.bool true) ∧ K = [] ∧ t = 0) := Y.con_run ftabOk tabOk mixOk 40 12 (by kernel_rfl) (by kernel_rfl)
end Go.Proofs.Ytoiadndmbppobaa
namespace Go.Proofs.Ytoiadndmbppobaa
open Go Go.RowKit Wx
set_option linter.unusedVariables false
set_option linter.unusedSimpArgs false
set_option maxHeartbeats 4000000
theorem rightE_con (e : El) (hu : 0 ≤ e.num) : Con Try.prog 53 [.agg [.v (.int .i64 e.kd), .v (.int .i64 e.src), .v (.int .i64 e.key), .v (.int .i64 e.val), .v (.int .u64 e.num)]] (fun rx rK rt => rx = .val (.bool (okE e)) ∧ rK = [] ∧ rt = 0) := by
  refine Z.con_ofF tabOk 41 Try.f53 _ Try.func53 (by kernel_rfl) rfl rfl rfl rfl ?_
  repeat' ((conv => whnf); first
    | with_reducible first | refine spB_t ?_
    | with_reducible first | refine spB_no (by decide) ?_ | refine spB_not ?_
    | (with_reducible refine spB_dec ?_ ?_ <;> intro _ <;> (try (exfalso; first | contradiction | omega | (rename_i hz; with_reducible exact absurd rfl hz))))
    | (with_reducible refine spB_beq ?_ ?_ <;> intro _ <;> (try (exfalso; first | contradiction | omega | (rename_i hz; with_reducible exact absurd rfl hz))))
    | (with_reducible refine spB_mk ?_ ?_ <;> intro _ <;> (try (exfalso; first | contradiction | omega | (rename_i hz; with_reducible exact absurd rfl hz))))
    | with_reducible first | refine Z.callZ_in tabOk 21 Try.f64 _ Try.func64 (by kernel_rfl) rfl rfl rfl ?_
    | ((with_reducible apply ex_and); exact rfl))
  all_goals (try (conv => whnf))
  all_goals first
    | ((first | (with_reducible apply Z.retF1)); (focus (exact rfl)); (repeat' (first | exact trivial | (with_reducible apply Z.frz_one) | (with_reducible apply Z.fq_bool) | apply And.intro)); (all_goals (try exact (fun _ => none))); all_goals (first | (rw [show okE e = true by (unfold okE; (try simp only [Bool.and_eq_true, Bool.and_eq_false_iff, Bool.and_true, beq_iff_eq, beq_eq_false_iff_ne, bne_iff_ne, Bool.not_eq_true, Bool.not_eq_false, ne_eq, Bool.false_eq_true, or_false] at *); first | exact decide_eq_true (by omega) | exact decide_eq_false (by omega))]) | (rw [show okE e = false by (unfold okE; (try simp only [Bool.and_eq_true, Bool.and_eq_false_iff, Bool.and_true, beq_iff_eq, beq_eq_false_iff_ne, bne_iff_ne, Bool.not_eq_true, Bool.not_eq_false, ne_eq, Bool.false_eq_true, or_false] at *); first | exact decide_eq_true (by omega) | exact decide_eq_false (by omega))]) | (by_cases hz : e.num = 0; (focus (rw [show (e.num == 0) = true by simpa using hz, show okE e = true by (unfold okE; (try simp only [Bool.and_eq_true, Bool.and_eq_false_iff, Bool.and_true, beq_iff_eq, beq_eq_false_iff_ne, bne_iff_ne, Bool.not_eq_true, Bool.not_eq_false, ne_eq, Bool.false_eq_true, or_false] at *); first | exact decide_eq_true (by omega) | exact decide_eq_false (by omega))])); (rw [show (e.num == 0) = false by simpa using hz, show okE e = false by (unfold okE; (try simp only [Bool.and_eq_true, Bool.and_eq_false_iff, Bool.and_true, beq_iff_eq, beq_eq_false_iff_ne, bne_iff_ne, Bool.not_eq_true, Bool.not_eq_false, ne_eq, Bool.false_eq_true, or_false] at *); first | exact decide_eq_true (by omega) | exact decide_eq_false (by omega))]))))

theorem rrow_con (l : List El) (hl : l.length ≤ 9223372036854775807) (hu : ∀ e ∈ l, 0 ≤ e.num) : Con Try.prog 44 [.one (.ro false 5 (l.map eE))] (fun rx rK rt => rx = .val (.bool (okEs l)) ∧ rK = [] ∧ rt = 0) := by
  refine Z.con_ofF tabOk 28 Try.f44 _ Try.func44 (by kernel_rfl) rfl rfl rfl rfl ?_
  repeat' ((conv => whnf); first
    | with_reducible first | refine spB_t ?_)
  all_goals (try (conv => whnf))
  all_goals try (show Nat.ble _ _ = true; rfl)
  refine Z.loopK tabOk (fun zq : Nat => [(7, .val (.int .i64 (zq : Int)))]) (fun zq : Nat => ([] : Z.Kr)) (fun zq => zq ≤ l.length ∧ okEs l = okEs (l.drop zq)) (fun zq => l.length - zq) 0 0 [(0, _), (5, _), (6, _)] ⟨rfl, rfl, rfl, trivial⟩ [] trivial ?_ ?_ rfl rfl ⟨Nat.zero_le _, rfl⟩ ?_
  · repeat' (first | exact trivial | apply And.intro | exact ⟨_, rfl, Z.Imp.refl _⟩)
  · repeat' (first | exact trivial)
  rintro i HINV
  dsimp only at HINV ⊢
  obtain ⟨HI, HO⟩ := HINV
  by_cases hi : i < l.length
  · obtain ⟨x, hx⟩ := getElem?_some' (xs := l) (i := i) hi
    have ce := rightE_con x (hu x (List.mem_of_getElem? hx))
    have hat := okEs_at hx
    cases hok : okE x
    all_goals rw [hok] at ce hat
    all_goals (
      repeat' ((conv => whnf); first
        | with_reducible first | refine spB_t ?_
        | ((with_reducible apply spB_cong); (focus (simp only [beq_self_eq_true, bne_self_eq_false, Bool.true_bne, Bool.false_bne, Bool.bne_true, Bool.bne_false, Bool.true_beq, Bool.false_beq, Bool.not_true, Bool.not_false, Bool.not_not, Int.reduceBEq, Int.reduceBNe, Int.reduceLE, Int.reduceLT, Int.reduceEq, decide_true, decide_false]; rfl)))
        | with_reducible first | refine spB_no (by decide) ?_
        | (with_reducible refine spB_dec ?_ ?_ <;> intro _ <;> (try (exfalso; first | contradiction | omega | (rename_i hz; refine hz ?_; simp; done) | (rename_i hz; simp at hz; done) | (simp only [LN] at *; omega))))
        | (with_reducible refine spB_beq ?_ ?_ <;> intro _ <;> (try (exfalso; first | contradiction | omega | (rename_i hz; refine hz ?_; simp; done) | (rename_i hz; simp at hz; done) | (simp only [LN] at *; omega))))
        | (with_reducible refine spB_bne ?_ ?_ <;> intro _ <;> (try (exfalso; first | contradiction | omega | (rename_i hz; refine hz ?_; simp; done) | (rename_i hz; simp at hz; done) | (simp only [LN] at *; omega))))
        | with_reducible first | refine Z.rowN_known hx ?_
        | ((with_reducible apply ixN_litp); (focus (exact rfl)); (focus ((try simp only [LN] at *) <;> omega)))
        | with_reducible refine wr_i64 (by first | omega | (simp only [LN] at *; omega)) ?_
        | ((first | (with_reducible refine Z.callZ_mk ?_ (ce) ?_)); (focus ((repeat' (first | exact trivial | exact rfl | apply And.intro)); done))))
      all_goals (try (conv => whnf)))
    all_goals try (show Nat.ble _ _ = true; rfl)
    all_goals first
      | ((refine Z.rndK ((i + 1)) (fun s => []) rfl rfl rfl rfl ?_ ?_ ?_ ?_); (focus (repeat' (first | exact trivial | exact rfl | apply And.intro))); (focus (repeat' (first | exact trivial))); (focus (exact ⟨by (try dsimp only); omega, by (try dsimp only); rw [HO, hat, decide_eq_true (fun h9 : x.kd = 3 => by (try simp only [LN] at *) <;> omega), Bool.true_and, Bool.true_and]⟩)); ((try dsimp only); omega))
      | ((first | (with_reducible apply Z.retF1)); (focus (exact rfl)); (repeat' (first | exact trivial | (with_reducible apply Z.frz_one) | (with_reducible apply Z.fq_bool) | apply And.intro)); (all_goals (try exact (fun _ => none))); all_goals (first | (rw [HO, hat]; rfl) | (rw [HO, hat, decide_eq_false (fun h9 => absurd (h9 (by assumption)) (by (try simp only [LN] at *) <;> omega))]; rfl)))
  have hil : i = l.length := by omega
  repeat' ((conv => whnf); first
    | (with_reducible refine spB_dec ?_ ?_ <;> intro _ <;> (try (exfalso; first | contradiction | omega | (rename_i hz; refine hz ?_; simp; done) | (rename_i hz; simp at hz; done) | (simp only [LN] at *; omega)))))
  all_goals (try (conv => whnf))
  all_goals try (show Nat.ble _ _ = true; rfl)
  all_goals first
    | ((first | (with_reducible apply Z.retF1)); (focus (exact rfl)); (repeat' (first | exact trivial | (with_reducible apply Z.frz_one) | (with_reducible apply Z.fq_bool) | apply And.intro)); (all_goals (try exact (fun _ => none))); all_goals (rw [HO, hil, List.drop_length]; rfl))

theorem rends_con (l : List El) (hl : l.length ≤ 9223372036854775807) : Con Try.prog 45 [.one (.ro false 5 (l.map eE))] (fun rx rK rt => rx = .val (.bool (endsL l)) ∧ rK = [] ∧ rt = 0) := by
  refine Z.con_ofF tabOk 16 Try.f45 _ Try.func45 (by kernel_rfl) rfl rfl rfl rfl ?_
  rcases Nat.eq_zero_or_pos l.length with h0 | h0
  · have he : l = [] := List.length_eq_zero_iff.1 h0
    subst he
    repeat' ((conv => whnf); first
      | with_reducible first | refine spB_no (by decide) ?_)
    all_goals (try (conv => whnf))
    all_goals try (show Nat.ble _ _ = true; rfl)
    all_goals first
      | ((first | (with_reducible apply Z.retF1)); (focus (exact rfl)); (repeat' (first | exact trivial | (with_reducible apply Z.frz_one) | (with_reducible apply Z.fq_bool) | exact rfl | apply And.intro)); (all_goals (try exact (fun _ => none))); all_goals (first | (unfold endsL; simp_all; done)))
  obtain ⟨x, hx⟩ := getElem?_some' (xs := l) (i := l.length - 1) (by omega)
  repeat' ((conv => whnf); first
    | with_reducible first | refine spB_t ?_
    | (with_reducible refine spB_dec ?_ ?_ <;> intro _ <;> (try (exfalso; first | contradiction | omega | (rename_i hz; refine hz ?_; simp; done) | (rename_i hz; simp at hz; done) | (simp only [LN] at *; omega))))
    | ((with_reducible refine ixN_mk (l.length - 1) ?_ ?_ ?_); (focus (first | ((try simp only [LN] at *) <;> omega))); (focus ((try simp only [LN] at *) <;> omega)))
    | with_reducible first | refine Z.rowN_known hx ?_
    | with_reducible refine wr_i64 (by first | omega | (simp only [LN] at *; omega)) ?_)
  all_goals (try (conv => whnf))
  all_goals try (show Nat.ble _ _ = true; rfl)
  all_goals first
    | ((first | (with_reducible apply Z.retF1)); (focus (exact rfl)); (repeat' (first | exact trivial | (with_reducible apply Z.frz_one) | (with_reducible apply Z.fq_bool) | apply And.intro)); (all_goals (try exact (fun _ => none))); all_goals (first | (rw [endsL_at hx]; rfl)))

theorem rightR_con (n nx : Int) (bf : List El) (rm : Int) (hq : bf.length ≤ 9223372036854775807) (hu : ∀ e ∈ bf, 0 ≤ e.num) (hx0 : 0 ≤ nx) : Con Try.prog 24 [.agg [.v (.int .u32 n), .v (.int .u64 nx), .ro false 5 (bf.map eE), .v (.int .i64 rm)]] (fun rx rK rt => rx = .val (.bool (okR n nx bf rm)) ∧ rK = [] ∧ rt = 0) := by
  refine Z.con_ofF tabOk 48 Try.f24 _ Try.func24 (by kernel_rfl) rfl rfl rfl rfl ?_
  have cr := rrow_con bf hq hu
  have hqm : (List.map eE bf).length = bf.length := by simp
  have e1 : okR n nx bf rm = (decide ((1 ≤ n ∧ n ≤ 2147483647) ∧ (1 ≤ nx ∧ nx ≤ 4611686018427387905) ∧ (1 ≤ rm ∧ rm ≤ 8) ∧ (bf.length : Int) ≤ rm ∧ (bf.length : Int) < nx) && okEs bf) := rfl
  generalize okR n nx bf rm = K at *
  by_cases hP : ((1 ≤ n ∧ n ≤ 2147483647) ∧ (1 ≤ nx ∧ nx ≤ 4611686018427387905) ∧ (1 ≤ rm ∧ rm ≤ 8) ∧ (bf.length : Int) ≤ rm ∧ (bf.length : Int) < nx)
  all_goals first | rw [decide_eq_true hP] at e1 | rw [decide_eq_false hP] at e1
  all_goals cases h1 : okEs bf
  all_goals rw [h1] at e1 cr
  all_goals simp only [Bool.true_and, Bool.and_true, Bool.false_and, Bool.and_false] at e1
  all_goals subst e1
  all_goals (
    repeat' ((conv => whnf); first
      | with_reducible first | refine spB_t ?_
      | with_reducible first | refine spB_no (by decide) ?_
      | (with_reducible refine spB_dec ?_ ?_ <;> intro _ <;> (try (exfalso; first | contradiction | omega | (rename_i hz; refine hz ?_; simp; done) | (rename_i hz; simp at hz; done) | (simp only [LN] at *; omega))))
      | with_reducible refine wr_u64 (by omega) ?_
      | with_reducible first | refine Z.callZ_in tabOk 9 Try.f43 _ Try.func43 (by kernel_rfl) rfl rfl rfl ?_
      | ((first | (with_reducible refine Z.callZ_mk ?_ (cr) ?_)); (focus ((repeat' (first | exact trivial | exact rfl | apply And.intro)); done)))
      | ((with_reducible apply ex_and); exact rfl))
    all_goals (try (conv => whnf)))
  all_goals try (show Nat.ble _ _ = true; rfl)
  all_goals first
    | ((first | (with_reducible apply Z.retF1)); (focus (exact rfl)); (repeat' (first | exact trivial | (with_reducible apply Z.frz_one) | (with_reducible apply Z.fq_bool) | exact rfl | apply And.intro)); (all_goals (try exact (fun _ => none))); all_goals (rfl))

end Go.Proofs.Ytoiadndmbppobaa
namespace Go.Proofs.Ytoiadndmbppobaa
open Go Go.RowKit Wx
set_option linter.unusedVariables false
set_option linter.unusedSimpArgs false
set_option maxHeartbeats 4000000
abbrev sh (q : List El) : List El := q.take (min q.length 9)
theorem sh_len (q : List El) : (sh q).length ≤ 9 := by simp only [sh, List.length_take]; omega
theorem sh_id {q : List El} (h : q.length ≤ 9) : sh q = q := by unfold sh; rw [List.take_of_length_le (by omega)]
theorem elems_con (l : List El) (hl : l.length ≤ 1099511627776) : Con Try.prog 42 [.one (.ro false 5 (l.map eE))] (fun rx rK rt => rx = .c (.ro true 5 (l.map eE)) ∧ rK = [] ∧ rt = 0) := by
  refine Z.con_ofF tabOk 6 Try.f42 _ Try.func42 (by kernel_rfl) rfl rfl rfl rfl ?_
  repeat' ((conv => whnf); first
    | with_reducible first | refine apdE_n ?_
    | ((with_reducible refine apdN.mk ?_ ?_ ?_ ?_ ?_ ?_); (focus (first | (simp; done))); (focus (first | exact one_map2 (fun _ => rfl))); (focus ((try simp only [LN] at *) <;> omega)); (focus ((try simp only [LN] at *) <;> omega)); (focus ((try simp only [LN] at *) <;> omega))))
  all_goals (try (conv => whnf))
  all_goals try (show Nat.ble _ _ = true; rfl)
  all_goals first
    | ((first | (with_reducible apply Z.retF1)); (focus (exact rfl)); (repeat' (first | exact trivial | (refine Z.fq_osl (l := l) (f := cE) (ty := 33) (bx := false) ?_ ?_ (fun _ => rfl) ?_; (focus (exact congrArg (fun r => some (Blk.mk r 5 33 false)) (map_ce fun _ => rfl))); (focus (((try simp only [LN] at *) <;> omega))); (focus (exact rfl))) | (with_reducible apply Z.frz_one) | apply And.intro)); (all_goals (try exact (fun _ => none))); all_goals (first | (simp; done)))

theorem receiver_con (n nx : Int) (bf : List El) (rm : Int) (hq : bf.length ≤ 9223372036854775807) : Con Try.prog 23 [.agg [.v (.int .u32 n), .v (.int .u64 nx), .ro false 5 (bf.map eE), .v (.int .i64 rm)]] (fun rx rK rt => rx = .pl (.agg [.v (.int .u32 n), .v (.int .u64 nx), .ro true 5 ((sh bf).map eE), .v (.int .i64 rm)]) ∧ rK = [] ∧ rt = 0) := by
  refine Z.con_ofF tabOk 13 Try.f23 _ Try.func23 (by kernel_rfl) rfl rfl rfl rfl ?_
  have cel := elems_con (sh bf) (by have := sh_len bf; omega)
  have hsh : (sh bf).map eE = (((bf.map eE).drop 0).take (min bf.length 9 - 0)) := by rw [List.drop_zero, Nat.sub_zero, List.map_take]
  rw [hsh] at cel ⊢
  repeat' ((conv => whnf); first
    | ((with_reducible refine slN_hi (min bf.length 9) ?_ ?_ ?_); (focus ((try simp only [LN] at *) <;> omega)); (focus ((try simp only [LN] at *) <;> omega)))
    | ((first | (with_reducible refine Z.callZ_mk ?_ (cel) ?_)); (focus ((repeat' (first | exact trivial | exact rfl | apply And.intro)); done))))
  all_goals (try (conv => whnf))
  all_goals try (show Nat.ble _ _ = true; rfl)
  all_goals first
    | ((first | (with_reducible apply Z.retF1)); (focus (exact rfl)); (repeat' (first | exact trivial | (with_reducible apply Z.frz_agg) | (with_reducible apply Z.fq_int) | exact rfl | apply And.intro)); (all_goals (try exact (fun _ => none))); all_goals (first | (simp; done)))

theorem same05_con (a b : List El) (hla : a.length ≤ 9223372036854775807)  : Con Try.prog 57 [.one (.ro false 5 (a.map eE)), .one (.ro false 5 (b.map eE))] (fun rx rK rt => rx = .val (.bool (decide (a = b))) ∧ rK = [] ∧ rt = 0) := by
  refine Z.con_ofF tabOk 26 Try.f57 _ Try.func57 (by kernel_rfl) rfl rfl rfl rfl ?_
  repeat' ((conv => whnf); first
    | (with_reducible refine spB_bne ?_ ?_ <;> intro _ <;> (try (exfalso; first | contradiction | omega | (rename_i hz; with_reducible exact absurd rfl hz)))))
  all_goals (try (conv => whnf))
  all_goals try ((first | (with_reducible apply Z.retF1)); (focus (exact rfl)); (repeat' (first | exact trivial | (with_reducible apply Z.frz_one) | (with_reducible apply Z.fq_bool) | apply And.intro)); (all_goals (try exact (fun _ => none))); all_goals (exact bool_f (ne_len (by simp only [LN] at *; omega))))
  refine Z.loopK tabOk (fun zq : Nat => [(5, .val (.int .i64 (zq : Int)))]) (fun zq : Nat => ([] : Z.Kr)) (fun zq => zq ≤ a.length ∧ a.length = b.length ∧ a.take zq = b.take zq) (fun zq => a.length - zq) 0 0 [(0, _), (1, _)] ⟨rfl, rfl, trivial⟩ [] trivial ?_ ?_ rfl rfl ⟨Nat.zero_le _, by simp only [LN] at *; omega, rfl⟩ ?_
  · repeat' (first | exact trivial | apply And.intro | exact ⟨_, rfl, Z.Imp.refl _⟩)
  · repeat' (first | exact trivial)
  rintro i HINV
  dsimp only at HINV ⊢
  obtain ⟨HI, HL, HT⟩ := HINV
  repeat' ((conv => whnf); first
    | with_reducible first | refine spB_not ?_
    | (with_reducible refine spB_dec ?_ ?_ <;> intro _ <;> (try (exfalso; first | contradiction | omega | (rename_i hz; with_reducible exact absurd rfl hz))))
    | (with_reducible refine spB_mk ?_ ?_ <;> intro _ <;> (try (exfalso; first | contradiction | omega | (rename_i hz; with_reducible exact absurd rfl hz))))
    | ((with_reducible apply ixN_litp); (focus (exact rfl)); (focus ((try simp only [LN] at *) <;> omega)))
    | with_reducible refine wr_i64 (by first | omega | (simp only [LN] at *; omega)) ?_
    | ((with_reducible refine rowN_map ?_ ?_); (focus ((try simp only [LN] at *) <;> omega)); intro x hx)
    | with_reducible first | refine Z.drawZ_rule tabOk mixOk ?_ | refine Z.apZ_mk (by kernel_rfl) ?_)
  all_goals (try (conv => whnf))
  all_goals first
    | ((refine Z.rndK (i + 1) (fun s => []) rfl rfl rfl rfl ?_ ?_ ?_ ?_); (focus (repeat' (first | exact trivial | exact rfl | apply And.intro))); (focus (repeat' (first | exact trivial))); (focus (refine ⟨by simp only [LN] at *; omega, HL, eq_step HT (by assumption) (by assumption) ?_⟩; (first | exact el_eq (by assumption)))); (try simp only [LN] at *); (try dsimp only); omega)
    | ((first | (with_reducible apply Z.retF1)); (focus (exact rfl)); (repeat' (first | exact trivial | (with_reducible apply Z.frz_one) | (with_reducible apply Z.fq_bool) | apply And.intro)); (all_goals (try exact (fun _ => none))); all_goals (first | exact bool_t (eq_end HL HT (by simp only [LN] at *; omega)) | (refine bool_f (ne_at (by assumption) (by assumption) ?_); intro e; subst e; first | contradiction | (simp_all; done))))

theorem sameR_con (n b : Int) (p : List El) (l : Int) (n2 b2 : Int) (q : List El) (l2 : Int) (hp : p.length ≤ 9223372036854775807) : Con Try.prog 29 [.agg [.v (.int .u32 n), .v (.int .u64 b), .ro false 5 (p.map eE), .v (.int .i64 l)], .agg [.v (.int .u32 n2), .v (.int .u64 b2), .ro false 5 (q.map eE), .v (.int .i64 l2)]] (fun rx rK rt => rx = .val (.bool (decide (n = n2 ∧ b = b2 ∧ l = l2 ∧ p = q))) ∧ rK = [] ∧ rt = 0) := by
  refine Z.con_ofF tabOk 31 Try.f29 _ Try.func29 (by kernel_rfl) rfl rfl rfl rfl ?_
  have cs := same05_con p q hp
  generalize hD : decide (p = q) = D at *
  have e1 : decide (n = n2 ∧ b = b2 ∧ l = l2 ∧ p = q) = (decide (n = n2 ∧ b = b2 ∧ l = l2) && D) := by rw [← hD]; exact Bool.eq_iff_iff.2 (by simp only [Bool.and_eq_true, decide_eq_true_eq]; constructor <;> (intro h; simp_all; done))
  rw [e1]
  clear e1 hD
  cases D
  all_goals (
    repeat' ((conv => whnf); first
      | with_reducible first | refine spB_t ?_
      | with_reducible first | refine spB_no (by decide) ?_
      | (with_reducible refine spB_beq ?_ ?_ <;> intro _ <;> (try (exfalso; first | contradiction | omega | (rename_i hz; refine hz ?_; simp; done) | (rename_i hz; simp at hz; done) | (simp only [LN] at *; omega))))
      | ((first | (with_reducible refine Z.callZ_mk ?_ (cs) ?_)); (focus ((repeat' (first | exact trivial | exact rfl | apply And.intro)); done))))
    all_goals (try (conv => whnf)))
  all_goals try (show Nat.ble _ _ = true; rfl)
  all_goals first
    | ((first | (with_reducible apply Z.retF1)); (focus (exact rfl)); (repeat' (first | exact trivial | (with_reducible apply Z.frz_one) | (with_reducible apply Z.fq_bool) | (apply Z.fq_bool) | apply And.intro)); (all_goals (try exact (fun _ => none))); all_goals (first | (simp; done) | (simp_all; done)))

end Go.Proofs.Ytoiadndmbppobaa
namespace Go.Proofs.Ytoiadndmbppobaa
open Go Go.RowKit Wx
set_option linter.unusedVariables false
set_option linter.unusedSimpArgs false
set_option maxHeartbeats 4000000
theorem elemsO_con (l : List El) (hl : l.length ≤ 1099511627776) : Con Try.prog 42 [.one (.ro false 5 (l.map eE))] (fun rx rK rt => rx = .c (.osl 0 0 l.length none) ∧ rK = [(0, some ⟨l.map cE, 5, 33, false⟩)] ∧ rt = 1) := by
  refine Z.con_ofZ tabOk 6 Try.f42 _ Try.func42 (by kernel_rfl) rfl rfl rfl rfl ?_
  repeat' ((conv => whnf); first
    | with_reducible first | refine apdE_n ?_
    | ((with_reducible refine apdN.mk ?_ ?_ ?_ ?_ ?_ ?_); (focus (first | (simp; done))); (focus (first | exact one_map2 (fun _ => rfl))); (focus ((try simp only [LN] at *) <;> omega)); (focus ((try simp only [LN] at *) <;> omega)); (focus ((try simp only [LN] at *) <;> omega))))
  all_goals (try (conv => whnf))
  all_goals try (show Nat.ble _ _ = true; rfl)
  all_goals first
    | (refine ret1b 1 (.c (.osl 0 0 l.length none)) (l.map cE) 5 33 false _ rfl ?_ (by rfl) (by first | exact map_ce fun _ => rfl | (rw [List.take_zero, List.nil_append]; exact map_ce fun _ => rfl)) (ren_map fun _ => rfl) rfl (own_map fun _ => rfl) ⟨rfl, rfl, rfl⟩; (rw [show l.length = 0 + (l.map eE).length by simp]; rfl))

end Go.Proofs.Ytoiadndmbppobaa
namespace Go.Proofs.Ytoiadndmbppobaa
open Go Go.RowKit Wx
set_option linter.unusedVariables false
set_option linter.unusedSimpArgs false
set_option maxHeartbeats 4000000
theorem hear_own (n nx : Int) (bf : List El) (rm : Int) (e : El) (hq : bf.length ≤ 9223372036854775807) (hu : ∀ e ∈ bf, 0 ≤ e.num) (hx0 : 0 ≤ nx) (hk : okR n nx bf rm = true) (he : 0 ≤ e.num) (hoe : okE e = true) (hen : endsL bf = false) (hf1 : nx ≤ 4611686018427387904) (hf2 : (bf.length : Int) < rm) : Con Try.prog 25 [.agg [.v (.int .u32 n), .v (.int .u64 nx), .ro false 5 (bf.map eE), .v (.int .i64 rm)], .agg [.v (.int .i64 1), .v (.int .u32 n), .v (.int .u64 nx), .v (.int .u64 0), .v (.int .i64 e.kd), .v (.int .i64 e.src), .v (.int .i64 e.key), .v (.int .i64 e.val), .v (.int .u64 e.num)]] (fun rx rK rt => rx = .tup [.agg [.v (.int .u32 n), .v (.int .u64 (nx + 1)), .osl 0 0 (bf.length + 1) none, .v (.int .i64 rm)], .one (.v (.int .i64 0))] ∧ rK = [(0, some ⟨(bf ++ [e]).map cE, 5, 33, false⟩)] ∧ rt = 1) := by
  refine Z.con_ofZ tabOk 11 Try.f25 _ Try.func25 (by kernel_rfl) rfl rfl rfl rfl ?_
  have ck := checkR_con n nx bf rm hq hu hx0
  rw [hk] at ck
  simp only [cond_true] at ck
  have hs := okR_all hk
  have cc := copied_con bf (by omega)
  have ce2 := ends_con bf hq
  have ce := checkE_con e he
  rw [hoe] at ce
  rw [hen] at ce2
  simp only [cond_true] at ce
  repeat' ((conv => whnf); first
    | with_reducible first | refine spB_t ?_
    | ((with_reducible apply spB_cong); (focus (simp only [beq_self_eq_true, bne_self_eq_false, Bool.true_bne, Bool.false_bne, Bool.bne_true, Bool.bne_false, Bool.true_beq, Bool.false_beq, Bool.not_true, Bool.not_false, Bool.not_not, Int.reduceBEq, Int.reduceBNe, Int.reduceLE, Int.reduceLT, Int.reduceEq, decide_true, decide_false]; rfl)))
    | with_reducible first | refine spB_no (by decide) ?_
    | (with_reducible refine spB_dec ?_ ?_ <;> intro _ <;> (try (exfalso; first | contradiction | omega | (rename_i hz; refine hz ?_; simp; done) | (rename_i hz; simp at hz; done) | (simp only [LN] at *; omega))))
    | ((with_reducible refine apdE_k ?_); (with_reducible refine apkN.mk ⟨_, rfl, ?_⟩ ?_); (focus (simp; done)); (with_reducible refine apdN.mk ?_ ?_ ?_ ?_ ?_ ?_); (focus rfl); (focus (exact one_all (by rfl))); (focus (show _ ≤ (List.map _ _).length; simp; done)); (focus ((try simp only [LN] at *) <;> omega)); (focus ((try simp only [LN] at *) <;> omega)))
    | with_reducible refine wr_u64 (by omega) ?_
    | with_reducible first | refine Z.callZ_in tabOk 25 Try.f58 _ Try.func58 (by kernel_rfl) rfl rfl rfl ?_ | refine Z.callZ_in tabOk 68 Try.f59 _ Try.func59 (by kernel_rfl) rfl rfl rfl ?_
    | ((first | (with_reducible refine Z.conZ_mz ?_ (ce2) ?_) | (with_reducible refine Z.callZ_mk ?_ (ce) ?_) | (with_reducible refine Z.callZ_mk ?_ (ck) ?_) | (with_reducible refine Z.callZ_mk ?_ (cc) ?_)); (focus ((repeat' (first | exact trivial | exact rfl | exact low_oslr (fun _ => rfl) | apply And.intro)); done)))
    | ((with_reducible apply ex_and); exact rfl)
    | with_reducible first | refine Z.drawZ_rule tabOk mixOk ?_ | refine Z.apZ_mk (by kernel_rfl) ?_)
  all_goals (try (conv => whnf))
  all_goals try (show Nat.ble _ _ = true; rfl)
  all_goals try (exfalso; rename_i hz; cases hz; done)
  all_goals try (exfalso; (try simp only [LN] at *) <;> omega)
  all_goals first
    | (refine ret1b 8 (.tup [.agg [.v (.int .u32 n), .v (.int .u64 (nx + 1)), .osl 0 0 (bf.length + 1) none, .v (.int .i64 rm)], .one (.v (.int .i64 0))]) ((bf ++ [e]).map cE) 5 33 false _ rfl ?_ (by rfl) (app_own (ren_map fun _ => rfl) (by simp) rfl) (ren_map fun _ => rfl) rfl (own_map fun _ => rfl) ⟨rfl, rfl, rfl⟩; first | rfl | (simp; done))

theorem hear_same (n nx : Int) (bf : List El) (rm : Int) (p : Pk) (hq : bf.length ≤ 9223372036854775807) (hu : ∀ e ∈ bf, 0 ≤ e.num) (hx0 : 0 ≤ nx) (hk : okR n nx bf rm = true) (hp1 : 0 ≤ p.sq) (hp2 : 0 ≤ p.e.num) (hf : ¬ dataOf n nx bf rm p) : Con Try.prog 25 [.agg [.v (.int .u32 n), .v (.int .u64 nx), .ro false 5 (bf.map eE), .v (.int .i64 rm)], .agg [.v (.int .i64 p.kd), .v (.int .u32 p.se), .v (.int .u64 p.sq), .v (.int .u64 p.lim), .v (.int .i64 p.e.kd), .v (.int .i64 p.e.src), .v (.int .i64 p.e.key), .v (.int .i64 p.e.val), .v (.int .u64 p.e.num)]] (fun rx rK rt => rx = .tup [.agg [.v (.int .u32 n), .v (.int .u64 nx), .osl 0 0 bf.length (some bf.length), .v (.int .i64 rm)], .one (.v (.int .i64 0))] ∧ rK = [(0, some ⟨(bf).map cE, 5, 33, false⟩)] ∧ rt = 1) := by
  refine Z.con_ofZ tabOk 11 Try.f25 _ Try.func25 (by kernel_rfl) rfl rfl rfl rfl ?_
  have ck := checkR_con n nx bf rm hq hu hx0
  rw [hk] at ck
  simp only [cond_true] at ck
  have hs := okR_all hk
  have cc := copied_con bf (by omega)
  have ce2 := ends_con bf hq
  have ce := checkE_con p.e hp2
  by_cases ha : p = ⟨1, n, nx, 0, p.e⟩
  · obtain ⟨e, hpe⟩ := dat_yes ha
    clear ha
    subst hpe
    dsimp only at hp1 hp2 ce
    cases hok : okE e <;> cases hen : endsL bf
    all_goals rw [hok] at ce
    all_goals rw [hen] at ce2
    all_goals simp only [cond_true, cond_false] at ce
    all_goals (
      repeat' ((conv => whnf); first
        | with_reducible first | refine spB_t ?_
        | ((with_reducible apply spB_cong); (focus (simp only [beq_self_eq_true, bne_self_eq_false, Bool.true_bne, Bool.false_bne, Bool.bne_true, Bool.bne_false, Bool.true_beq, Bool.false_beq, Bool.not_true, Bool.not_false, Bool.not_not, Int.reduceBEq, Int.reduceBNe, Int.reduceLE, Int.reduceLT, Int.reduceEq, decide_true, decide_false]; rfl)))
        | with_reducible first | refine spB_no (by decide) ?_
        | (with_reducible refine spB_dec ?_ ?_ <;> intro _ <;> (try (exfalso; first | contradiction | omega | (rename_i hz; refine hz ?_; simp; done) | (rename_i hz; simp at hz; done) | (simp only [LN] at *; omega))))
        | ((with_reducible refine apdE_k ?_); (with_reducible refine apkN.mk ⟨_, rfl, ?_⟩ ?_); (focus (simp; done)); (with_reducible refine apdN.mk ?_ ?_ ?_ ?_ ?_ ?_); (focus rfl); (focus (exact one_all (by rfl))); (focus (show _ ≤ (List.map _ _).length; simp; done)); (focus ((try simp only [LN] at *) <;> omega)); (focus ((try simp only [LN] at *) <;> omega)))
        | with_reducible refine wr_u64 (by omega) ?_
        | with_reducible first | refine Z.callZ_in tabOk 25 Try.f58 _ Try.func58 (by kernel_rfl) rfl rfl rfl ?_ | refine Z.callZ_in tabOk 68 Try.f59 _ Try.func59 (by kernel_rfl) rfl rfl rfl ?_
        | ((first | (with_reducible refine Z.conZ_mz ?_ (ce2) ?_) | (with_reducible refine Z.callZ_mk ?_ (ce) ?_) | (with_reducible refine Z.callZ_mk ?_ (ck) ?_) | (with_reducible refine Z.callZ_mk ?_ (cc) ?_)); (focus ((repeat' (first | exact trivial | exact rfl | exact low_oslr (fun _ => rfl) | apply And.intro)); done)))
        | ((with_reducible apply ex_and); exact rfl)
        | with_reducible first | refine Z.drawZ_rule tabOk mixOk ?_ | refine Z.apZ_mk (by kernel_rfl) ?_)
      all_goals (try (conv => whnf)))
    all_goals try (show Nat.ble _ _ = true; rfl)
    all_goals first
      | (refine ret1b 5 (.tup [.agg [.v (.int .u32 n), .v (.int .u64 nx), .osl 0 0 bf.length (some bf.length), .v (.int .i64 rm)], .one (.v (.int .i64 0))]) (bf.map cE) 5 33 false _ rfl ?_ (by rfl) (ren_map fun _ => rfl) (ren_map fun _ => rfl) rfl (own_map fun _ => rfl) ⟨rfl, rfl, rfl⟩; first | rfl | (simp; done))
      | (exfalso; refine hf ⟨rfl, ?_, hok, ?_, hen⟩; (focus ((try dsimp only); (try simp only [LN] at *) <;> omega)); ((try dsimp only); (try simp only [LN] at *) <;> omega))
  repeat' ((conv => whnf); first
    | with_reducible first | refine spB_t ?_
    | ((with_reducible apply spB_cong); (focus (simp only [beq_self_eq_true, bne_self_eq_false, Bool.true_bne, Bool.false_bne, Bool.bne_true, Bool.bne_false, Bool.true_beq, Bool.false_beq, Bool.not_true, Bool.not_false, Bool.not_not, Int.reduceBEq, Int.reduceBNe, Int.reduceLE, Int.reduceLT, Int.reduceEq, decide_true, decide_false]; rfl)))
    | with_reducible first | refine spB_no (by decide) ?_ | refine spB_not ?_
    | (with_reducible refine spB_dec ?_ ?_ <;> intro _ <;> (try (exfalso; first | contradiction | omega | (rename_i hz; refine hz ?_; simp; done) | (rename_i hz; simp at hz; done) | (simp only [LN] at *; omega) | (exact ha (dat_no (by assumption))))))
    | (with_reducible refine spB_bne ?_ ?_ <;> intro _ <;> (try (exfalso; first | contradiction | omega | (rename_i hz; refine hz ?_; simp; done) | (rename_i hz; simp at hz; done) | (simp only [LN] at *; omega) | (exact ha (dat_no (by assumption))))))
    | (with_reducible refine spB_mk ?_ ?_ <;> intro _ <;> (try (exfalso; first | contradiction | omega | (rename_i hz; refine hz ?_; simp; done) | (rename_i hz; simp at hz; done) | (simp only [LN] at *; omega) | (exact ha (dat_no (by assumption))))))
    | ((with_reducible refine apdE_k ?_); (with_reducible refine apkN.mk ⟨_, rfl, ?_⟩ ?_); (focus ((try simp only [LN] at *) <;> omega)))
    | with_reducible first | refine Z.callZ_in tabOk 25 Try.f58 _ Try.func58 (by kernel_rfl) rfl rfl rfl ?_ | refine Z.callZ_in tabOk 68 Try.f59 _ Try.func59 (by kernel_rfl) rfl rfl rfl ?_
    | ((first | (with_reducible refine Z.conZ_mz ?_ (ce2) ?_) | (with_reducible refine Z.callZ_mk ?_ (ce) ?_) | (with_reducible refine Z.callZ_mk ?_ (ck) ?_) | (with_reducible refine Z.callZ_mk ?_ (cc) ?_)); (focus ((repeat' (first | exact trivial | exact rfl | exact low_oslr (fun _ => rfl) | apply And.intro)); done)))
    | ((with_reducible apply ex_and); exact rfl)
    | with_reducible first | refine Z.drawZ_rule tabOk mixOk ?_ | refine Z.apZ_mk (by kernel_rfl) ?_)
  all_goals (try (conv => whnf))
  all_goals try (show Nat.ble _ _ = true; rfl)
  all_goals first
    | (refine ret1b 5 (.tup [.agg [.v (.int .u32 n), .v (.int .u64 nx), .osl 0 0 bf.length (some bf.length), .v (.int .i64 rm)], .one (.v (.int .i64 0))]) (bf.map cE) 5 33 false _ rfl ?_ (by rfl) (ren_map fun _ => rfl) (ren_map fun _ => rfl) rfl (own_map fun _ => rfl) ⟨rfl, rfl, rfl⟩; first | rfl | (simp; done))
    | (exfalso; exact ha (dat_no (by assumption)))

theorem take_own (n nx : Int) (x y : El) (r : List El) (rm : Int) (hq : (x :: y :: r).length ≤ 9223372036854775807) (hu : ∀ e ∈ (x :: y :: r), 0 ≤ e.num) (hx0 : 0 ≤ nx) (hk : okR n nx (x :: y :: r) rm = true) : Con Try.prog 27 [.agg [.v (.int .u32 n), .v (.int .u64 nx), .ro false 5 ((x :: y :: r).map eE), .v (.int .i64 rm)]] (fun rx rK rt => rx = .tup [.agg [.v (.int .u32 n), .v (.int .u64 nx), .osl 0 1 (r.length + 1) (some (r.length + 1)), .v (.int .i64 rm)], .agg [.v (.int .i64 x.kd), .v (.int .i64 x.src), .v (.int .i64 x.key), .v (.int .i64 x.val), .v (.int .u64 x.num)], .one (.v (.int .i64 0))] ∧ rK = [(0, some ⟨(x :: y :: r).map cE, 5, 33, false⟩)] ∧ rt = 1) := by
  refine Z.con_ofZ tabOk 17 Try.f27 _ Try.func27 (by kernel_rfl) rfl rfl rfl rfl ?_
  have ck := checkR_con n nx (x :: y :: r) rm hq hu hx0
  rw [hk] at ck
  simp only [cond_true] at ck
  have hs := okR_all hk
  have cc := copied_con (x :: y :: r) (by omega)
  repeat' ((conv => whnf); first
    | ((with_reducible apply spB_cong); (focus (simp only [beq_self_eq_true, bne_self_eq_false, Bool.true_bne, Bool.false_bne, Bool.bne_true, Bool.bne_false, Bool.true_beq, Bool.false_beq, Bool.not_true, Bool.not_false, Bool.not_not, Int.reduceBEq, Int.reduceBNe, Int.reduceLE, Int.reduceLT, Int.reduceEq, decide_true, decide_false]; rfl)))
    | with_reducible first | refine spB_no (by decide) ?_
    | (with_reducible refine spB_beq ?_ ?_ <;> intro _ <;> (try (exfalso; first | contradiction | omega | (rename_i hz; refine hz ?_; simp; done) | (rename_i hz; simp at hz; done) | (simp only [LN] at *; omega))))
    | ((with_reducible refine Z.slN_lo 1 ?_ ?_ ?_); (focus rfl); (focus ((try simp only [LN] at *) <;> omega)))
    | ((with_reducible refine rowN_mk (cE x) ?_ ?_); (focus rfl))
    | ((with_reducible apply ixN_lit); (focus (exact rfl)); (focus (exact rfl)))
    | ((with_reducible refine slE_a ?_ ?_); (focus ((try simp only [LN] at *) <;> omega)))
    | with_reducible first | refine Z.callZ_in tabOk 25 Try.f58 _ Try.func58 (by kernel_rfl) rfl rfl rfl ?_ | refine Z.callZ_in tabOk 24 Try.f60 _ Try.func60 (by kernel_rfl) rfl rfl rfl ?_
    | ((first | (with_reducible refine Z.callZ_mk ?_ (ck) ?_) | (with_reducible refine Z.callZ_mk ?_ (cc) ?_)); (focus ((repeat' (first | exact trivial | exact rfl | apply And.intro)); done)))
    | ((with_reducible apply ex_and); exact rfl)
    | with_reducible first | refine Z.drawZ_rule tabOk mixOk ?_ | refine Z.apZ_mk (by kernel_rfl) ?_)
  all_goals (try (conv => whnf))
  all_goals try (show Nat.ble _ _ = true; rfl)
  all_goals try (exfalso; rename_i hz; cases hz; done)
  all_goals try (exfalso; (try simp only [LN] at *) <;> omega)
  all_goals first
    | (refine ret1b 6 (.tup [.agg [.v (.int .u32 n), .v (.int .u64 nx), .osl 0 1 (r.length + 1) (some (r.length + 1)), .v (.int .i64 rm)], .agg [.v (.int .i64 x.kd), .v (.int .i64 x.src), .v (.int .i64 x.key), .v (.int .i64 x.val), .v (.int .u64 x.num)], .one (.v (.int .i64 0))]) ((x :: y :: r).map cE) 5 33 false _ rfl ?_ (by rfl) (ren_map fun _ => rfl) (ren_map fun _ => rfl) rfl (own_map fun _ => rfl) ⟨rfl, rfl, rfl⟩; first | rfl | (simp; done))

theorem rhear_yes (n nx : Int) (bf : List El) (rm : Int) (e : El) (hq : bf.length ≤ 9223372036854775807) (hu : ∀ e ∈ bf, 0 ≤ e.num) (hx0 : 0 ≤ nx) (hk : okR n nx bf rm = true) (he : 0 ≤ e.num) (hoe : okE e = true) (hen : endsL bf = false) (hf1 : nx ≤ 4611686018427387904) (hf2 : (bf.length : Int) < rm) : Con Try.prog 30 [.agg [.v (.int .u32 n), .v (.int .u64 nx), .ro false 5 (bf.map eE), .v (.int .i64 rm)], .agg [.v (.int .i64 1), .v (.int .u32 n), .v (.int .u64 nx), .v (.int .u64 0), .v (.int .i64 e.kd), .v (.int .i64 e.src), .v (.int .i64 e.key), .v (.int .i64 e.val), .v (.int .u64 e.num)]] (fun rx rK rt => rx = .pl (.agg [.v (.int .u32 n), .v (.int .u64 (nx + 1)), .ro true 5 ((bf ++ [e]).map eE), .v (.int .i64 rm)]) ∧ rK = [] ∧ rt = 0) := by
  refine Z.con_ofF tabOk 67 Try.f30 _ Try.func30 (by kernel_rfl) rfl rfl rfl rfl ?_
  have hs := okR_all hk
  have ce := rightE_con e he
  have cel := elemsO_con bf (by omega)
  have ce2 := rends_con bf hq
  rw [hoe] at ce
  rw [hen] at ce2
  repeat' ((conv => whnf); first
    | with_reducible first | refine spB_t ?_
    | ((with_reducible apply spB_cong); (focus (simp only [beq_self_eq_true, bne_self_eq_false, Bool.true_bne, Bool.false_bne, Bool.bne_true, Bool.bne_false, Bool.true_beq, Bool.false_beq, Bool.not_true, Bool.not_false, Bool.not_not, Int.reduceBEq, Int.reduceBNe, Int.reduceLE, Int.reduceLT, Int.reduceEq, decide_true, decide_false]; rfl)))
    | with_reducible first | refine spB_no (by decide) ?_
    | (with_reducible refine spB_dec ?_ ?_ <;> intro _ <;> (try (exfalso; first | contradiction | omega | (rename_i hz; refine hz ?_; simp; done) | (rename_i hz; simp at hz; done) | (simp only [LN] at *; omega))))
    | ((with_reducible refine apdN.mk ?_ ?_ ?_ ?_ ?_ ?_); (focus rfl); (focus (exact one_all (by rfl))); (focus (show _ ≤ (List.map _ _).length; simp; done)); (focus ((try simp only [LN] at *) <;> omega)); (focus ((try simp only [LN] at *) <;> omega)))
    | with_reducible first | refine apdE_n ?_
    | with_reducible refine wr_u64 (by omega) ?_
    | ((first | (with_reducible refine Z.conZ_mz ?_ (cel) ?_) | (with_reducible refine Z.callZ_mk ?_ (ce2) ?_) | (with_reducible refine Z.callZ_mk ?_ (ce) ?_)); (focus ((repeat' (first | exact trivial | exact rfl | apply And.intro)); done)))
    | with_reducible first | refine Z.drawZ_rule tabOk mixOk ?_ | refine Z.apZ_mk (by kernel_rfl) ?_)
  all_goals (try (conv => whnf))
  all_goals try (show Nat.ble _ _ = true; rfl)
  all_goals try (exfalso; rename_i hz; cases hz; done)
  all_goals try (exfalso; (try simp only [LN] at *) <;> omega)
  all_goals first
    | ((first | (with_reducible apply Z.retF1)); (focus (exact rfl)); (repeat' (first | exact trivial | (refine Z.fq_osl (l := bf ++ [e]) (f := cE) (ty := 33) (bx := false) ?_ ?_ (fun _ => rfl) ?_; (focus (exact congrArg (fun r => some (Blk.mk r 5 33 false)) (app_own (ren_map fun _ => rfl) (by simp) rfl))); (focus (((try simp only [LN] at *) <;> omega))); (focus (exact rfl))) | (with_reducible apply Z.frz_agg) | (with_reducible apply Z.fq_int) | exact rfl | apply And.intro)); (all_goals (try exact (fun _ => none))); all_goals (first | (simp; done)))

theorem rack_con (n nx : Int) (bf : List El) (rm : Int) (hq : bf.length ≤ 9223372036854775807) (hu : ∀ e ∈ bf, 0 ≤ e.num) (hx0 : 0 ≤ nx) (hk : okR n nx bf rm = true) : Con Try.prog 31 [.agg [.v (.int .u32 n), .v (.int .u64 nx), .ro false 5 (bf.map eE), .v (.int .i64 rm)]] (fun rx rK rt => rx = .pl (.agg [.v (.int .i64 (⟨2, n, nx, min (nx - 1 + (rm - (bf.length : Int))) 4611686018427387904, zE⟩ : Pk).kd), .v (.int .u32 (⟨2, n, nx, min (nx - 1 + (rm - (bf.length : Int))) 4611686018427387904, zE⟩ : Pk).se), .v (.int .u64 (⟨2, n, nx, min (nx - 1 + (rm - (bf.length : Int))) 4611686018427387904, zE⟩ : Pk).sq), .v (.int .u64 (⟨2, n, nx, min (nx - 1 + (rm - (bf.length : Int))) 4611686018427387904, zE⟩ : Pk).lim), .v (.int .i64 (⟨2, n, nx, min (nx - 1 + (rm - (bf.length : Int))) 4611686018427387904, zE⟩ : Pk).e.kd), .v (.int .i64 (⟨2, n, nx, min (nx - 1 + (rm - (bf.length : Int))) 4611686018427387904, zE⟩ : Pk).e.src), .v (.int .i64 (⟨2, n, nx, min (nx - 1 + (rm - (bf.length : Int))) 4611686018427387904, zE⟩ : Pk).e.key), .v (.int .i64 (⟨2, n, nx, min (nx - 1 + (rm - (bf.length : Int))) 4611686018427387904, zE⟩ : Pk).e.val), .v (.int .u64 (⟨2, n, nx, min (nx - 1 + (rm - (bf.length : Int))) 4611686018427387904, zE⟩ : Pk).e.num)]) ∧ rK = [] ∧ rt = 0) := by
  refine Z.con_ofF tabOk 20 Try.f31 _ Try.func31 (by kernel_rfl) rfl rfl rfl rfl ?_
  have hs := okR_all hk
  have hlm : (List.map eE bf).length = bf.length := by simp
  repeat' ((conv => whnf); first
    | with_reducible refine wr_i64 (by first | omega | (simp only [LN] at *; omega)) ?_
    | with_reducible refine wr_u64 (by omega) ?_)
  all_goals (try (conv => whnf))
  all_goals try (show Nat.ble _ _ = true; rfl)
  all_goals try (exfalso; rename_i hz; cases hz; done)
  all_goals try (exfalso; (try simp only [LN] at *) <;> omega)
  all_goals first
    | ((first | (with_reducible apply Z.retF1)); (focus (exact rfl)); (repeat' (first | exact trivial | (with_reducible apply Z.frz_agg) | (with_reducible apply Z.fq_int) | exact rfl | apply And.intro)); (all_goals (try exact (fun _ => none))); all_goals (first | (simp; done)))

end Go.Proofs.Ytoiadndmbppobaa
namespace Go.Proofs.Ytoiadndmbppobaa
open Go Go.RowKit Wx
set_option linter.unusedVariables false
set_option linter.unusedSimpArgs false
set_option maxHeartbeats 4000000
end Go.Proofs.Ytoiadndmbppobaa
namespace Go.Proofs.Ytoiadndmbppobaa
open Go Go.RowKit Wx
set_option linter.unusedVariables false
set_option linter.unusedSimpArgs false
set_option maxHeartbeats 4000000
end Go.Proofs.Ytoiadndmbppobaa
namespace Go.Proofs.Ytoiadndmbppobaa
open Go Go.RowKit Wx
set_option linter.unusedVariables false
set_option linter.unusedSimpArgs false
set_option maxHeartbeats 4000000
def spo (q : List El) (j : Nat) : List El := List.replicate j zE ++ q.drop j
theorem spo_len {q : List El} {j : Nat} (h : j ≤ q.length) : (spo q j).length = q.length := by simp [spo]; omega
theorem spo_set {q : List El} {j : Nat} (h : j < q.length) : ((spo q j).map cE).set (0 + j) (cE zE) = (spo q (j + 1)).map cE := by
  obtain ⟨x, hx⟩ := getElem?_some' (xs := q) (i := j) h
  rw [Nat.zero_add, ← List.map_set]
  congr 1
  unfold spo
  rw [drop_cons hx, List.set_append_right _ _ (by simp), List.length_replicate, Nat.sub_self, List.set_cons_zero, List.replicate_succ']
  simp
end Go.Proofs.Ytoiadndmbppobaa
namespace Go.Proofs.Ytoiadndmbppobaa
open Go Go.RowKit Wx
set_option linter.unusedVariables false
set_option linter.unusedSimpArgs false
set_option maxHeartbeats 4000000
theorem dat_no2 {p : Pk} {n s : Int} (h1 : p.kd = 1) (h2 : p.se = n) (h3 : p.lim = 0) (h4 : p.sq = s) : p = ⟨1, n, s, 0, p.e⟩ := by
  obtain ⟨a, b, c, d, e⟩ := p
  simp only at h1 h2 h3 h4
  subst h1 h2 h3 h4; rfl
theorem spo_at1 {x : El} {L : List El} {j : Nat} {z : El} (h : L[j]? = some z) : ((x :: L).map cE)[0 + 1 + j]? = some (cE z) := by
  rw [List.getElem?_map, show 0 + 1 + j = j + 1 by omega, List.getElem?_cons_succ, h]; rfl
theorem spo_set1 {x : El} {q : List El} {j : Nat} (h : j < q.length) : ((x :: spo q j).map cE).set (0 + 1 + j) (cE zE) = (x :: spo q (j + 1)).map cE := by
  rw [show 0 + 1 + j = (0 + j) + 1 by omega, List.map_cons, List.set_cons_succ, spo_set h]; rfl
theorem tl_num {l : List El} (h : ∀ e ∈ l, 0 ≤ e.num) : ∀ e ∈ l.drop 1, 0 ≤ e.num := fun e he => h e (List.mem_of_mem_drop he)
theorem take_nil {n nx rm : Int} (hk : okR n nx [] rm = true) : takeR n nx [] rm = (zR, zE, 4) := by unfold takeR; rw [hk]; rfl
theorem take_one {n nx rm : Int} {x : El} (hk : okR n nx [x] rm = true) : takeR n nx [x] rm = (⟨n, nx, [], rm⟩, x, 0) := by unfold takeR; rw [hk]; rfl
end Go.Proofs.Ytoiadndmbppobaa
namespace Go.Proofs.Ytoiadndmbppobaa
open Go Go.RowKit Wx
set_option linter.unusedVariables false
set_option linter.unusedSimpArgs false
set_option maxHeartbeats 4000000
/-- The bodies of a code's loops. -/
def lbs : Code → List Code
  | .loop b => b :: lbs b
  | .seq a b => lbs a ++ lbs b
  | .cond _ a b => lbs a ++ lbs b
  | .block _ b => lbs b
  | .rangeFunc _ _ a b => lbs a ++ lbs b
  | .scope b => lbs b
  | _ => []
def lbody (f : Func) : Code := ((f.body.map lbs).getD []).headD .skip
def loopPost (R : Z.S → Prop) (Q : Exit → Z.S → Prop) : Exit → Z.S → Prop := fun e s' => match e with
  | .normal => R s'
  | e => Q e s'
abbrev hG := Nat × Int × Int × List El × Int
abbrev hCH (zq : hG) : Fr := [(25, .val (.int .i64 (zq.1 : Int)))]
abbrev hCK (zq : hG) : Z.Kr := [(1, some (Z.Ob.b ⟨[[.v (.int .u32 zq.2.1), .v (.int .u64 zq.2.2.1), .ro true 5 (zq.2.2.2.1.map eE), .v (.int .i64 zq.2.2.2.2)]], 4, 55, true⟩))]
abbrev hFk (ls : List Pk) : Fr := [(5, .pl (.one (.own 1 0 0))), (23, .pl (.one (.ro false 9 (ls.map eP)))), (24, .val (.int .i64 ((ls.map eP).length : Int)))]
abbrev hInv (n : Nat) (zq : hG) : Prop := zq.1 ≤ n ∧ zq.2.2.2.1.length ≤ 9 ∧ (∀ e ∈ zq.2.2.2.1, 0 ≤ e.num) ∧ 0 ≤ zq.2.2.1
/-- What a round of the loop over all packets comes to. -/
abbrev hRnd (ls : List Pk) (p : hG) (s' : Z.S) : Prop := Z.rndZ 0 (fun zq => (⟨hCH zq ++ hFk ls, hCK zq ++ [], 2⟩ : Z.S)) (hInv ls.length) (fun zq => ls.length - zq.1) p s'
end Go.Proofs.Ytoiadndmbppobaa
namespace Go.Proofs.Ytoiadndmbppobaa
open Go Go.RowKit Wx
set_option linter.unusedVariables false
set_option linter.unusedSimpArgs false
set_option maxHeartbeats 40000000
theorem hears_d0 (ls : List Pk) (hls : ls.length ≤ 9223372036854775807) (i : Nat) (n1 x1 : Int)  (r1 : Int) (HI : i ≤ ls.length) (hq9 : ([] : List El).length ≤ 9) (hu1 : ∀ e ∈ ([] : List El), 0 ≤ e.num) (hx1 : 0 ≤ x1) (hi : i < ls.length) (pk : Pk) (hx : ls[i]? = some pk) (hux : 0 ≤ pk.sq ∧ 0 ≤ pk.lim ∧ 0 ≤ pk.e.num) (hib : ¬ i = 30) (hk : okR n1 x1 ([] : List El) r1 = true) (hd : dataOf n1 x1 ([] : List El) r1 pk) {Q : Exit → Z.S → Prop} : Z.codeZ Try.prog tab 181 0 none (lbody Try.f4) ⟨hCH (i, n1, x1, ([] : List El), r1) ++ hFk ls, hCK (i, n1, x1, ([] : List El), r1) ++ [], 2⟩ (loopPost (hRnd ls (i, n1, x1, ([] : List El), r1)) Q) := by
  dsimp only [hCH, hFk, hCK, hRnd]
  have csn := receiver_con n1 x1 ([] : List El) r1 (by omega)
  rw [sh_id hq9] at csn
  have crs := rightR_con n1 x1 ([] : List El) r1 (by omega) hu1 hx1
  have ccs := checkR_con n1 x1 ([] : List El) r1 (by omega) hu1 hx1
  have css := sameR_con n1 x1 ([] : List El) r1 n1 x1 ([] : List El) r1 (by omega)
  simp only [and_self, decide_true] at css
  have hqm1 : (List.map eE ([] : List El)).length = ([] : List El).length := by simp
  have cak := ack_con n1 x1 ([] : List El) r1 (by omega) hu1 hx1
  rw [hk] at crs ccs
  simp only [cond_true, cond_false] at ccs
  have hs := okR_all hk
  rw [show ackR n1 x1 ([] : List El) r1 = (⟨2, n1, x1, min (x1 - 1 + (r1 - (([] : List El).length : Int))) 4611686018427387904, zE⟩, 0) by unfold ackR; rw [hk]; rfl] at cak
  have cra := rack_con n1 x1 ([] : List El) r1 (by omega) hu1 hx1 hk
  dsimp only [zE] at cak cra
  generalize min (x1 - 1 + (r1 - (([] : List El).length : Int))) 4611686018427387904 = lm at *
  obtain ⟨hd1, hd2, hd3, hd4, hd5⟩ := hd
  obtain ⟨e, hpe⟩ := dat_yes hd1
  clear hd1
  subst hpe
  dsimp only at hux hd3
  have che := hear_own n1 x1 ([] : List El) r1 e (by omega) hu1 hx1 hk hux.2.2 hd3 hd5 hd2 hd4
  have crh := rhear_yes n1 x1 ([] : List El) r1 e (by omega) hu1 hx1 hk hux.2.2 hd3 hd5 hd2 hd4
  have csw := sameR_con n1 (x1 + 1) (([] : List El) ++ [e]) r1 n1 (x1 + 1) (([] : List El) ++ [e]) r1 (by (try simp only [List.length_append, List.length_cons, List.length_nil] at *) <;> omega)
  simp only [and_self, decide_true] at csw
  have csn3 := receiver_con n1 (x1 + 1) (([] : List El) ++ [e]) r1 (by (try simp only [List.length_append, List.length_cons, List.length_nil] at *) <;> omega)
  rw [sh_id (by (try simp only [List.length_append, List.length_cons, List.length_nil] at *) <;> omega)] at csn3
  have hqe : (([] : List El) ++ [e]).length = ([] : List El).length + 1 := by simp
  have hne : ∀ x ∈ ([] : List El) ++ [e], 0 ≤ x.num := fun x hx => by rcases List.mem_append.1 hx with h9 | h9; exact hu1 x h9; rw [List.mem_singleton.1 h9]; exact hux.2.2
  have cta := take_con n1 x1 [] r1 (by omega) hu1 hx1
  rw [take_nil hk] at cta
  dsimp only [zR, zE] at cta
  rw [← hqe] at che
  repeat' ((conv => whnf); first
    | ((with_reducible apply spB_cong); (focus (simp only [beq_self_eq_true, bne_self_eq_false, Bool.true_bne, Bool.false_bne, Bool.bne_true, Bool.bne_false, Bool.true_beq, Bool.false_beq, Bool.not_true, Bool.not_false, Bool.not_not, Int.reduceBEq, Int.reduceBNe, Int.reduceLE, Int.reduceLT, Int.reduceEq, decide_true, decide_false]; rfl)))
    | with_reducible first | refine spB_yes (by decide) ?_ | refine spB_no (by decide) ?_
    | (with_reducible refine spB_dec ?_ ?_ <;> intro _ <;> (try (exfalso; first | contradiction | omega | (rename_i hz; refine hz ?_; simp; done) | (rename_i hz; simp at hz; done) | (simp only [LN] at *; omega))))
    | (with_reducible refine spB_beq ?_ ?_ <;> intro _ <;> (try (exfalso; first | contradiction | omega | (rename_i hz; refine hz ?_; simp; done) | (rename_i hz; simp at hz; done) | (simp only [LN] at *; omega))))
    | with_reducible first | refine Z.rowN_known hx ?_
    | ((with_reducible apply ixN_litp); (focus (exact rfl)); (focus ((try simp only [LN] at *) <;> omega)))
    | with_reducible first | refine Z.callZ_in tabOk 13 Try.f22 _ Try.func22 (by kernel_rfl) rfl rfl rfl ?_
    | ((first | (with_reducible refine Z.callZ_mk ?_ (crs) ?_) | (with_reducible refine Z.callZ_mk ?_ (che) ?_) | (with_reducible refine Z.callZ_mk ?_ (cak) ?_) | (with_reducible refine Z.callZ_mk ?_ (cta) ?_) | (with_reducible refine Z.callZ_mk ?_ (ccs) ?_) | (with_reducible refine Z.callZ_mk ?_ (crh) ?_) | (with_reducible refine Z.conZ_mz ?_ (cra) ?_)); (focus ((repeat' (first | exact trivial | exact rfl | apply And.intro)); done)))
    | ((first | (with_reducible refine Z.callZ_mk ?_ (csn) ?_)); (focus ((repeat' (first | exact trivial | exact rfl | apply And.intro)); done)))
    | ((first | (with_reducible refine Z.callZ_mk ?_ (csn3) ?_)); (focus ((repeat' (first | exact trivial | exact rfl | apply And.intro)); done)))
    | ((first | (with_reducible refine Z.conZ_mz ?_ (css) ?_) | (with_reducible refine Z.callZ_mk ?_ (css) ?_)); (focus ((repeat' (first | exact trivial | exact rfl | apply And.intro)); done)))
    | ((first | (with_reducible refine Z.conZ_mz ?_ (csw) ?_)); (focus ((repeat' (first | exact trivial | exact rfl | exact low_oslr (fun _ => rfl) | apply And.intro)); done)))
    | with_reducible first | refine Z.drawZ_rule tabOk mixOk ?_ | refine Z.apZ_mk (by kernel_rfl) ?_)
  all_goals (try (conv => whnf))
  all_goals try (show Nat.ble _ _ = true; rfl)
  all_goals try (exfalso; rename_i hz; cases hz; done)
  all_goals try (exfalso; (try simp only [LN] at *) <;> omega)
  all_goals (
    refine Z.loopK tabOk (fun zq : Nat => [(5, .val (.int .i64 (zq : Int)))]) (fun zq : Nat => ([(4, some (Z.Ob.b ⟨(spo (([] : List El) ++ [e]) zq).map cE, 5, 33, false⟩))] : Z.Kr)) (fun zq => zq ≤ (([] : List El) ++ [e]).length) (fun zq => (([] : List El) ++ [e]).length - zq) 0 10 [(0, _), (4, _)] ⟨rfl, rfl, trivial⟩ [(1, _), (3, _), (7, _), (9, _)] ⟨rfl, rfl, rfl, rfl, trivial⟩ ?_ ?_ rfl rfl (Nat.zero_le _) ?_
    · repeat' (first | exact trivial | apply And.intro | exact ⟨_, rfl, Z.Imp.refl _⟩)
    · repeat' (first | exact trivial | exact (fun b hb => ⟨b, hb, Z.ImpO.refl b⟩) | apply And.intro)
    rintro j HINV
    dsimp only at HINV ⊢
    have hspl : (spo (([] : List El) ++ [e]) j).length = (([] : List El) ++ [e]).length := spo_len HINV
    by_cases hj : j < (([] : List El) ++ [e]).length
    · obtain ⟨z9, hz9⟩ := getElem?_some' (xs := spo (([] : List El) ++ [e]) j) (i := j) (by omega)
      repeat' ((conv => whnf); first
        | (with_reducible refine spB_dec ?_ ?_ <;> intro _ <;> (try (exfalso; first | contradiction | omega | (rename_i hz; refine hz ?_; simp; done) | (rename_i hz; simp at hz; done) | (simp only [LN] at *; omega))))
        | ((with_reducible refine ixN_mk (j) ?_ ?_ ?_); (focus (first | rfl)); (focus ((try simp only [LN] at *) <;> omega)))
        | ((with_reducible refine rowN_mk (cE z9) ?_ ?_); (focus (show (List.map cE _)[0 + j]? = some (cE z9); rw [Nat.zero_add, List.getElem?_map, hz9]; rfl)))
        | with_reducible refine wr_i64 (by first | omega | (simp only [LN] at *; omega)) ?_)
      all_goals (try (conv => whnf))
      all_goals try (show Nat.ble _ _ = true; rfl)
      all_goals try (exfalso; rename_i hz; cases hz; done)
      all_goals try (exfalso; (try simp only [LN] at *) <;> omega)
      all_goals first
        | ((refine Z.rnd_rw 4 ((spo (([] : List El) ++ [e]) (j + 1)).map cE) rfl rfl ?_ ?_); (focus (exact spo_set hj)); ((refine Z.rndK ((j + 1)) (fun s => [0, 1, 2, 3, 4, 5, 6, 7, 8, 9]) rfl rfl rfl rfl ?_ ?_ ?_ ?_); (focus (repeat' (first | exact trivial | exact rfl | apply And.intro))); (focus (repeat' (first | exact trivial | (intro b hb; cases hb; rfl) | exact Z.blk_sub rfl rfl (ren_map fun _ => rfl) | apply And.intro))); (focus (((try dsimp only); omega))); ((try dsimp only); omega)))
    repeat' ((conv => whnf); first
      | with_reducible first | refine spB_t ?_
      | ((with_reducible apply spB_cong); (focus (simp only [beq_self_eq_true, bne_self_eq_false, Bool.true_bne, Bool.false_bne, Bool.bne_true, Bool.bne_false, Bool.true_beq, Bool.false_beq, Bool.not_true, Bool.not_false, Bool.not_not, Int.reduceBEq, Int.reduceBNe, Int.reduceLE, Int.reduceLT, Int.reduceEq, decide_true, decide_false]; rfl)))
      | with_reducible first | refine spB_no (by decide) ?_
      | (with_reducible refine spB_dec ?_ ?_ <;> intro _ <;> (try (exfalso; first | contradiction | omega | (rename_i hz; refine hz ?_; simp; done) | (rename_i hz; simp at hz; done) | (simp only [LN] at *; omega))))
      | (with_reducible refine spB_beq ?_ ?_ <;> intro _ <;> (try (exfalso; first | contradiction | omega | (rename_i hz; refine hz ?_; simp; done) | (rename_i hz; simp at hz; done) | (simp only [LN] at *; omega))))
      | with_reducible first | refine Z.loopZ_unroll tabOk 1 ?_
      | ((with_reducible refine Z.slN_lo 1 ?_ ?_ ?_); (focus rfl); (focus (simp only [List.length_map, List.length_append, List.length_cons, List.length_nil]; omega)))
      | with_reducible refine wr_i64 (by first | omega | (simp only [LN] at *; omega)) ?_
      | with_reducible refine vN_mod (by omega) ?_
      | with_reducible refine nzN_mk (by omega) ?_
      | with_reducible first | refine Z.callZ_in tabOk 13 Try.f22 _ Try.func22 (by kernel_rfl) rfl rfl rfl ?_
      | ((first | (with_reducible refine Z.callZ_mk ?_ (css) ?_)); (focus ((repeat' (first | exact trivial | exact rfl | apply And.intro)); done)))
      | ((with_reducible apply ex_and); exact rfl))
    all_goals (try (conv => whnf))
    all_goals try (show Nat.ble _ _ = true; rfl)
    all_goals try (exfalso; rename_i hz; cases hz; done)
    all_goals try (exfalso; (try simp only [LN] at *) <;> omega)
    all_goals first
      | ((refine Z.rndK ((i + 1, n1, (x1 + 1), (([] : List El) ++ [e]), r1)) (fun s => [0, 1]) rfl rfl rfl rfl ?_ ?_ ?_ ?_); (focus (repeat' (first | exact trivial | exact rfl | apply And.intro))); (focus (repeat' (first | exact trivial | (intro b hb; cases hb; rfl) | apply And.intro))); (focus (exact ⟨by (try dsimp only); omega, by (try dsimp only); (try simp only [List.length_append, List.length_cons, List.length_nil] at *); omega, hne, by (try dsimp only); omega⟩)); ((try dsimp only); omega))
      | ((refine Z.rnd_bi 1 [[_, _, .ro true 5 ((((([] : List El) ++ [e])).drop 1).map eE), _]] rfl rfl ⟨⟨Z.Imp.refl _, Z.Imp.refl _, Z.Imp.of_eq (congrArg (Ce.ro true 5) (by first | (rw [List.take_of_length_le (by simp), List.map_drop]) | simp)), Z.Imp.refl _, trivial⟩, trivial⟩ ?_); ((refine Z.rndK ((i + 1, n1, (x1 + 1), ((([] : List El) ++ [e])).drop 1, r1)) (fun s => [0, 1]) rfl rfl rfl rfl ?_ ?_ ?_ ?_); (focus (repeat' (first | exact trivial | exact rfl | apply And.intro))); (focus (repeat' (first | exact trivial | (intro b hb; cases hb; rfl) | apply And.intro))); (focus (exact ⟨by (try dsimp only); omega, by (try dsimp only); rw [List.length_drop]; (try simp only [List.length_append, List.length_cons, List.length_nil] at *); omega, tl_num hne, by (try dsimp only); omega⟩)); ((try dsimp only); omega))))
end Go.Proofs.Ytoiadndmbppobaa
namespace Go.Proofs.Ytoiadndmbppobaa
open Go Go.RowKit Wx
set_option linter.unusedVariables false
set_option linter.unusedSimpArgs false
set_option maxHeartbeats 40000000
theorem hears_d1 (ls : List Pk) (hls : ls.length ≤ 9223372036854775807) (i : Nat) (n1 x1 : Int) (y0 : El) (r1 : Int) (HI : i ≤ ls.length) (hq9 : [y0].length ≤ 9) (hu1 : ∀ e ∈ [y0], 0 ≤ e.num) (hx1 : 0 ≤ x1) (hi : i < ls.length) (pk : Pk) (hx : ls[i]? = some pk) (hux : 0 ≤ pk.sq ∧ 0 ≤ pk.lim ∧ 0 ≤ pk.e.num) (hib : ¬ i = 30) (hk : okR n1 x1 [y0] r1 = true) (hd : dataOf n1 x1 [y0] r1 pk) {Q : Exit → Z.S → Prop} : Z.codeZ Try.prog tab 181 0 none (lbody Try.f4) ⟨hCH (i, n1, x1, [y0], r1) ++ hFk ls, hCK (i, n1, x1, [y0], r1) ++ [], 2⟩ (loopPost (hRnd ls (i, n1, x1, [y0], r1)) Q) := by
  dsimp only [hCH, hFk, hCK, hRnd]
  have csn := receiver_con n1 x1 [y0] r1 (by omega)
  rw [sh_id hq9] at csn
  have crs := rightR_con n1 x1 [y0] r1 (by omega) hu1 hx1
  have ccs := checkR_con n1 x1 [y0] r1 (by omega) hu1 hx1
  have css := sameR_con n1 x1 [y0] r1 n1 x1 [y0] r1 (by omega)
  simp only [and_self, decide_true] at css
  have hqm1 : (List.map eE [y0]).length = [y0].length := by simp
  have cak := ack_con n1 x1 [y0] r1 (by omega) hu1 hx1
  rw [hk] at crs ccs
  simp only [cond_true, cond_false] at ccs
  have hs := okR_all hk
  rw [show ackR n1 x1 [y0] r1 = (⟨2, n1, x1, min (x1 - 1 + (r1 - ([y0].length : Int))) 4611686018427387904, zE⟩, 0) by unfold ackR; rw [hk]; rfl] at cak
  have cra := rack_con n1 x1 [y0] r1 (by omega) hu1 hx1 hk
  dsimp only [zE] at cak cra
  generalize min (x1 - 1 + (r1 - ([y0].length : Int))) 4611686018427387904 = lm at *
  obtain ⟨hd1, hd2, hd3, hd4, hd5⟩ := hd
  obtain ⟨e, hpe⟩ := dat_yes hd1
  clear hd1
  subst hpe
  dsimp only at hux hd3
  have che := hear_own n1 x1 [y0] r1 e (by omega) hu1 hx1 hk hux.2.2 hd3 hd5 hd2 hd4
  have crh := rhear_yes n1 x1 [y0] r1 e (by omega) hu1 hx1 hk hux.2.2 hd3 hd5 hd2 hd4
  have csw := sameR_con n1 (x1 + 1) ([y0] ++ [e]) r1 n1 (x1 + 1) ([y0] ++ [e]) r1 (by (try simp only [List.length_append, List.length_cons, List.length_nil] at *) <;> omega)
  simp only [and_self, decide_true] at csw
  have csn3 := receiver_con n1 (x1 + 1) ([y0] ++ [e]) r1 (by (try simp only [List.length_append, List.length_cons, List.length_nil] at *) <;> omega)
  rw [sh_id (by (try simp only [List.length_append, List.length_cons, List.length_nil] at *) <;> omega)] at csn3
  have hqe : ([y0] ++ [e]).length = [y0].length + 1 := by simp
  have hne : ∀ x ∈ [y0] ++ [e], 0 ≤ x.num := fun x hx => by rcases List.mem_append.1 hx with h9 | h9; exact hu1 x h9; rw [List.mem_singleton.1 h9]; exact hux.2.2
  have cta := take_con n1 x1 [y0] r1 (by omega) hu1 hx1
  rw [take_one hk] at cta
  dsimp only at cta
  rw [← hqe] at che
  repeat' ((conv => whnf); first
    | ((with_reducible apply spB_cong); (focus (simp only [beq_self_eq_true, bne_self_eq_false, Bool.true_bne, Bool.false_bne, Bool.bne_true, Bool.bne_false, Bool.true_beq, Bool.false_beq, Bool.not_true, Bool.not_false, Bool.not_not, Int.reduceBEq, Int.reduceBNe, Int.reduceLE, Int.reduceLT, Int.reduceEq, decide_true, decide_false]; rfl)))
    | with_reducible first | refine spB_no (by decide) ?_
    | (with_reducible refine spB_dec ?_ ?_ <;> intro _ <;> (try (exfalso; first | contradiction | omega | (rename_i hz; refine hz ?_; simp; done) | (rename_i hz; simp at hz; done) | (simp only [LN] at *; omega))))
    | (with_reducible refine spB_beq ?_ ?_ <;> intro _ <;> (try (exfalso; first | contradiction | omega | (rename_i hz; refine hz ?_; simp; done) | (rename_i hz; simp at hz; done) | (simp only [LN] at *; omega))))
    | (with_reducible refine spB_bne ?_ ?_ <;> intro _ <;> (try (exfalso; first | contradiction | omega | (rename_i hz; refine hz ?_; simp; done) | (rename_i hz; simp at hz; done) | (simp only [LN] at *; omega))))
    | with_reducible first | refine Z.rowN_known hx ?_
    | ((with_reducible apply ixN_lit); (focus (exact rfl)); (focus (exact rfl)))
    | ((with_reducible apply ixN_litp); (focus (exact rfl)); (focus ((try simp only [LN] at *) <;> omega)))
    | ((with_reducible refine Z.rowN_known (x := y0) rfl ?_))
    | with_reducible refine wr_i64 (by first | omega | (simp only [LN] at *; omega)) ?_
    | with_reducible first | refine Z.callZ_in tabOk 13 Try.f22 _ Try.func22 (by kernel_rfl) rfl rfl rfl ?_
    | ((first | (with_reducible refine Z.callZ_mk ?_ (crs) ?_) | (with_reducible refine Z.callZ_mk ?_ (che) ?_) | (with_reducible refine Z.callZ_mk ?_ (cak) ?_) | (with_reducible refine Z.callZ_mk ?_ (cta) ?_) | (with_reducible refine Z.callZ_mk ?_ (ccs) ?_) | (with_reducible refine Z.callZ_mk ?_ (crh) ?_) | (with_reducible refine Z.conZ_mz ?_ (cra) ?_)); (focus ((repeat' (first | exact trivial | exact rfl | apply And.intro)); done)))
    | ((first | (with_reducible refine Z.callZ_mk ?_ (csn) ?_)); (focus ((repeat' (first | exact trivial | exact rfl | apply And.intro)); done)))
    | ((first | (with_reducible refine Z.callZ_mk ?_ (csn3) ?_)); (focus ((repeat' (first | exact trivial | exact rfl | apply And.intro)); done)))
    | ((first | (with_reducible refine Z.conZ_mz ?_ (css) ?_) | (with_reducible refine Z.callZ_mk ?_ (css) ?_)); (focus ((repeat' (first | exact trivial | exact rfl | apply And.intro)); done)))
    | ((first | (with_reducible refine Z.conZ_mz ?_ (csw) ?_)); (focus ((repeat' (first | exact trivial | exact rfl | exact low_oslr (fun _ => rfl) | apply And.intro)); done)))
    | with_reducible first | refine Z.drawZ_rule tabOk mixOk ?_ | refine Z.apZ_mk (by kernel_rfl) ?_)
  all_goals (try (conv => whnf))
  all_goals try (show Nat.ble _ _ = true; rfl)
  all_goals try (exfalso; rename_i hz; cases hz; done)
  all_goals try (exfalso; (try simp only [LN] at *) <;> omega)
  all_goals (
    refine Z.loopK tabOk (fun zq : Nat => [(5, .val (.int .i64 (zq : Int)))]) (fun zq : Nat => ([(4, some (Z.Ob.b ⟨(spo ([y0] ++ [e]) zq).map cE, 5, 33, false⟩))] : Z.Kr)) (fun zq => zq ≤ ([y0] ++ [e]).length) (fun zq => ([y0] ++ [e]).length - zq) 0 10 [(0, _), (4, _)] ⟨rfl, rfl, trivial⟩ [(1, _), (3, _), (7, _), (9, _)] ⟨rfl, rfl, rfl, rfl, trivial⟩ ?_ ?_ rfl rfl (Nat.zero_le _) ?_
    · repeat' (first | exact trivial | apply And.intro | exact ⟨_, rfl, Z.Imp.refl _⟩)
    · repeat' (first | exact trivial | exact (fun b hb => ⟨b, hb, Z.ImpO.refl b⟩) | apply And.intro)
    rintro j HINV
    dsimp only at HINV ⊢
    have hspl : (spo ([y0] ++ [e]) j).length = ([y0] ++ [e]).length := spo_len HINV
    by_cases hj : j < ([y0] ++ [e]).length
    · obtain ⟨z9, hz9⟩ := getElem?_some' (xs := spo ([y0] ++ [e]) j) (i := j) (by omega)
      repeat' ((conv => whnf); first
        | (with_reducible refine spB_dec ?_ ?_ <;> intro _ <;> (try (exfalso; first | contradiction | omega | (rename_i hz; refine hz ?_; simp; done) | (rename_i hz; simp at hz; done) | (simp only [LN] at *; omega))))
        | ((with_reducible refine ixN_mk (j) ?_ ?_ ?_); (focus (first | rfl)); (focus ((try simp only [LN] at *) <;> omega)))
        | ((with_reducible refine rowN_mk (cE z9) ?_ ?_); (focus (show (List.map cE _)[0 + j]? = some (cE z9); rw [Nat.zero_add, List.getElem?_map, hz9]; rfl)))
        | with_reducible refine wr_i64 (by first | omega | (simp only [LN] at *; omega)) ?_)
      all_goals (try (conv => whnf))
      all_goals try (show Nat.ble _ _ = true; rfl)
      all_goals try (exfalso; rename_i hz; cases hz; done)
      all_goals try (exfalso; (try simp only [LN] at *) <;> omega)
      all_goals first
        | ((refine Z.rnd_rw 4 ((spo ([y0] ++ [e]) (j + 1)).map cE) rfl rfl ?_ ?_); (focus (exact spo_set hj)); ((refine Z.rndK ((j + 1)) (fun s => [0, 1, 2, 3, 4, 5, 6, 7, 8, 9]) rfl rfl rfl rfl ?_ ?_ ?_ ?_); (focus (repeat' (first | exact trivial | exact rfl | apply And.intro))); (focus (repeat' (first | exact trivial | (intro b hb; cases hb; rfl) | exact Z.blk_sub rfl rfl (ren_map fun _ => rfl) | apply And.intro))); (focus (((try dsimp only); omega))); ((try dsimp only); omega)))
    repeat' ((conv => whnf); first
      | with_reducible first | refine spB_t ?_
      | ((with_reducible apply spB_cong); (focus (simp only [beq_self_eq_true, bne_self_eq_false, Bool.true_bne, Bool.false_bne, Bool.bne_true, Bool.bne_false, Bool.true_beq, Bool.false_beq, Bool.not_true, Bool.not_false, Bool.not_not, Int.reduceBEq, Int.reduceBNe, Int.reduceLE, Int.reduceLT, Int.reduceEq, decide_true, decide_false]; rfl)))
      | with_reducible first | refine spB_no (by decide) ?_
      | (with_reducible refine spB_dec ?_ ?_ <;> intro _ <;> (try (exfalso; first | contradiction | omega | (rename_i hz; refine hz ?_; simp; done) | (rename_i hz; simp at hz; done) | (simp only [LN] at *; omega))))
      | (with_reducible refine spB_beq ?_ ?_ <;> intro _ <;> (try (exfalso; first | contradiction | omega | (rename_i hz; refine hz ?_; simp; done) | (rename_i hz; simp at hz; done) | (simp only [LN] at *; omega))))
      | with_reducible first | refine Z.loopZ_unroll tabOk 1 ?_
      | ((with_reducible refine Z.slN_lo 1 ?_ ?_ ?_); (focus rfl); (focus (simp only [List.length_map, List.length_append, List.length_cons, List.length_nil]; omega)))
      | with_reducible refine wr_i64 (by first | omega | (simp only [LN] at *; omega)) ?_
      | with_reducible refine vN_mod (by omega) ?_
      | with_reducible refine nzN_mk (by omega) ?_
      | with_reducible first | refine Z.callZ_in tabOk 13 Try.f22 _ Try.func22 (by kernel_rfl) rfl rfl rfl ?_
      | ((first | (with_reducible refine Z.callZ_mk ?_ (css) ?_)); (focus ((repeat' (first | exact trivial | exact rfl | apply And.intro)); done)))
      | ((with_reducible apply ex_and); exact rfl))
    all_goals (try (conv => whnf))
    all_goals try (show Nat.ble _ _ = true; rfl)
    all_goals try (exfalso; rename_i hz; cases hz; done)
    all_goals try (exfalso; (try simp only [LN] at *) <;> omega)
    all_goals first
      | ((refine Z.rndK ((i + 1, n1, (x1 + 1), ([y0] ++ [e]), r1)) (fun s => [0, 1]) rfl rfl rfl rfl ?_ ?_ ?_ ?_); (focus (repeat' (first | exact trivial | exact rfl | apply And.intro))); (focus (repeat' (first | exact trivial | (intro b hb; cases hb; rfl) | apply And.intro))); (focus (exact ⟨by (try dsimp only); omega, by (try dsimp only); (try simp only [List.length_append, List.length_cons, List.length_nil] at *); omega, hne, by (try dsimp only); omega⟩)); ((try dsimp only); omega))
      | ((refine Z.rnd_bi 1 [[_, _, .ro true 5 (((([y0] ++ [e])).drop 1).map eE), _]] rfl rfl ⟨⟨Z.Imp.refl _, Z.Imp.refl _, Z.Imp.of_eq (congrArg (Ce.ro true 5) (by first | (rw [List.take_of_length_le (by simp), List.map_drop]) | simp)), Z.Imp.refl _, trivial⟩, trivial⟩ ?_); ((refine Z.rndK ((i + 1, n1, (x1 + 1), (([y0] ++ [e])).drop 1, r1)) (fun s => [0, 1]) rfl rfl rfl rfl ?_ ?_ ?_ ?_); (focus (repeat' (first | exact trivial | exact rfl | apply And.intro))); (focus (repeat' (first | exact trivial | (intro b hb; cases hb; rfl) | apply And.intro))); (focus (exact ⟨by (try dsimp only); omega, by (try dsimp only); rw [List.length_drop]; (try simp only [List.length_append, List.length_cons, List.length_nil] at *); omega, tl_num hne, by (try dsimp only); omega⟩)); ((try dsimp only); omega))))
end Go.Proofs.Ytoiadndmbppobaa
namespace Go.Proofs.Ytoiadndmbppobaa
open Go Go.RowKit Wx
set_option linter.unusedVariables false
set_option linter.unusedSimpArgs false
set_option maxHeartbeats 40000000
theorem hears_d2 (ls : List Pk) (hls : ls.length ≤ 9223372036854775807) (i : Nat) (n1 x1 : Int) (y0 y1 : El) (ys : List El) (r1 : Int) (HI : i ≤ ls.length) (hq9 : (y0 :: y1 :: ys).length ≤ 9) (hu1 : ∀ e ∈ (y0 :: y1 :: ys), 0 ≤ e.num) (hx1 : 0 ≤ x1) (hi : i < ls.length) (pk : Pk) (hx : ls[i]? = some pk) (hux : 0 ≤ pk.sq ∧ 0 ≤ pk.lim ∧ 0 ≤ pk.e.num) (hib : ¬ i = 30) (hk : okR n1 x1 (y0 :: y1 :: ys) r1 = true) (hd : dataOf n1 x1 (y0 :: y1 :: ys) r1 pk) {Q : Exit → Z.S → Prop} : Z.codeZ Try.prog tab 181 0 none (lbody Try.f4) ⟨hCH (i, n1, x1, (y0 :: y1 :: ys), r1) ++ hFk ls, hCK (i, n1, x1, (y0 :: y1 :: ys), r1) ++ [], 2⟩ (loopPost (hRnd ls (i, n1, x1, (y0 :: y1 :: ys), r1)) Q) := by
  dsimp only [hCH, hFk, hCK, hRnd]
  have csn := receiver_con n1 x1 (y0 :: y1 :: ys) r1 (by omega)
  rw [sh_id hq9] at csn
  have crs := rightR_con n1 x1 (y0 :: y1 :: ys) r1 (by omega) hu1 hx1
  have ccs := checkR_con n1 x1 (y0 :: y1 :: ys) r1 (by omega) hu1 hx1
  have css := sameR_con n1 x1 (y0 :: y1 :: ys) r1 n1 x1 (y0 :: y1 :: ys) r1 (by omega)
  simp only [and_self, decide_true] at css
  have hqm1 : (List.map eE (y0 :: y1 :: ys)).length = (y0 :: y1 :: ys).length := by simp
  have cak := ack_con n1 x1 (y0 :: y1 :: ys) r1 (by omega) hu1 hx1
  rw [hk] at crs ccs
  simp only [cond_true, cond_false] at ccs
  have hs := okR_all hk
  rw [show ackR n1 x1 (y0 :: y1 :: ys) r1 = (⟨2, n1, x1, min (x1 - 1 + (r1 - ((y0 :: y1 :: ys).length : Int))) 4611686018427387904, zE⟩, 0) by unfold ackR; rw [hk]; rfl] at cak
  have cra := rack_con n1 x1 (y0 :: y1 :: ys) r1 (by omega) hu1 hx1 hk
  dsimp only [zE] at cak cra
  generalize min (x1 - 1 + (r1 - ((y0 :: y1 :: ys).length : Int))) 4611686018427387904 = lm at *
  obtain ⟨hd1, hd2, hd3, hd4, hd5⟩ := hd
  obtain ⟨e, hpe⟩ := dat_yes hd1
  clear hd1
  subst hpe
  dsimp only at hux hd3
  have che := hear_own n1 x1 (y0 :: y1 :: ys) r1 e (by omega) hu1 hx1 hk hux.2.2 hd3 hd5 hd2 hd4
  have crh := rhear_yes n1 x1 (y0 :: y1 :: ys) r1 e (by omega) hu1 hx1 hk hux.2.2 hd3 hd5 hd2 hd4
  have csw := sameR_con n1 (x1 + 1) ((y0 :: y1 :: ys) ++ [e]) r1 n1 (x1 + 1) ((y0 :: y1 :: ys) ++ [e]) r1 (by (try simp only [List.length_append, List.length_cons, List.length_nil] at *) <;> omega)
  simp only [and_self, decide_true] at csw
  have csn3 := receiver_con n1 (x1 + 1) ((y0 :: y1 :: ys) ++ [e]) r1 (by (try simp only [List.length_append, List.length_cons, List.length_nil] at *) <;> omega)
  rw [sh_id (by (try simp only [List.length_append, List.length_cons, List.length_nil] at *) <;> omega)] at csn3
  have hqe : ((y0 :: y1 :: ys) ++ [e]).length = (y0 :: y1 :: ys).length + 1 := by simp
  have hne : ∀ x ∈ (y0 :: y1 :: ys) ++ [e], 0 ≤ x.num := fun x hx => by rcases List.mem_append.1 hx with h9 | h9; exact hu1 x h9; rw [List.mem_singleton.1 h9]; exact hux.2.2
  have cta := take_own n1 x1 y0 y1 ys r1 (by omega) hu1 hx1 hk
  rw [← hqe] at che
  repeat' ((conv => whnf); first
    | ((with_reducible apply spB_cong); (focus (simp only [beq_self_eq_true, bne_self_eq_false, Bool.true_bne, Bool.false_bne, Bool.bne_true, Bool.bne_false, Bool.true_beq, Bool.false_beq, Bool.not_true, Bool.not_false, Bool.not_not, Int.reduceBEq, Int.reduceBNe, Int.reduceLE, Int.reduceLT, Int.reduceEq, decide_true, decide_false]; rfl)))
    | with_reducible first | refine spB_no (by decide) ?_
    | (with_reducible refine spB_dec ?_ ?_ <;> intro _ <;> (try (exfalso; first | contradiction | omega | (rename_i hz; refine hz ?_; simp; done) | (rename_i hz; simp at hz; done) | (simp only [LN] at *; omega))))
    | (with_reducible refine spB_beq ?_ ?_ <;> intro _ <;> (try (exfalso; first | contradiction | omega | (rename_i hz; refine hz ?_; simp; done) | (rename_i hz; simp at hz; done) | (simp only [LN] at *; omega))))
    | (with_reducible refine spB_bne ?_ ?_ <;> intro _ <;> (try (exfalso; first | contradiction | omega | (rename_i hz; refine hz ?_; simp; done) | (rename_i hz; simp at hz; done) | (simp only [LN] at *; omega))))
    | with_reducible first | refine Z.rowN_known hx ?_
    | ((with_reducible apply ixN_lit); (focus (exact rfl)); (focus (exact rfl)))
    | ((with_reducible apply ixN_litp); (focus (exact rfl)); (focus ((try simp only [LN] at *) <;> omega)))
    | ((with_reducible refine Z.rowN_known (x := y0) rfl ?_))
    | with_reducible refine wr_i64 (by first | omega | (simp only [LN] at *; omega)) ?_
    | with_reducible first | refine Z.callZ_in tabOk 13 Try.f22 _ Try.func22 (by kernel_rfl) rfl rfl rfl ?_
    | ((first | (with_reducible refine Z.callZ_mk ?_ (crs) ?_) | (with_reducible refine Z.callZ_mk ?_ (che) ?_) | (with_reducible refine Z.callZ_mk ?_ (cak) ?_) | (with_reducible refine Z.callZ_mk ?_ (cta) ?_) | (with_reducible refine Z.callZ_mk ?_ (ccs) ?_) | (with_reducible refine Z.callZ_mk ?_ (crh) ?_) | (with_reducible refine Z.conZ_mz ?_ (cra) ?_)); (focus ((repeat' (first | exact trivial | exact rfl | apply And.intro)); done)))
    | ((first | (with_reducible refine Z.callZ_mk ?_ (csn) ?_)); (focus ((repeat' (first | exact trivial | exact rfl | apply And.intro)); done)))
    | ((first | (with_reducible refine Z.callZ_mk ?_ (csn3) ?_)); (focus ((repeat' (first | exact trivial | exact rfl | apply And.intro)); done)))
    | ((first | (with_reducible refine Z.conZ_mz ?_ (css) ?_) | (with_reducible refine Z.callZ_mk ?_ (css) ?_)); (focus ((repeat' (first | exact trivial | exact rfl | apply And.intro)); done)))
    | ((first | (with_reducible refine Z.conZ_mz ?_ (csw) ?_)); (focus ((repeat' (first | exact trivial | exact rfl | exact low_oslr (fun _ => rfl) | apply And.intro)); done)))
    | with_reducible first | refine Z.drawZ_rule tabOk mixOk ?_ | refine Z.apZ_mk (by kernel_rfl) ?_)
  all_goals (try (conv => whnf))
  all_goals try (show Nat.ble _ _ = true; rfl)
  all_goals try (exfalso; rename_i hz; cases hz; done)
  all_goals try (exfalso; (try simp only [LN] at *) <;> omega)
  all_goals (
    refine Z.loopK tabOk (fun zq : Nat => [(5, .val (.int .i64 (zq : Int)))]) (fun zq : Nat => ([(4, some (Z.Ob.b ⟨(spo ((y0 :: y1 :: ys) ++ [e]) zq).map cE, 5, 33, false⟩)), (7, some (Z.Ob.b ⟨(y0 :: y1 :: ys).map cE, 5, 33, false⟩))] : Z.Kr)) (fun zq => zq ≤ ((y0 :: y1 :: ys) ++ [e]).length) (fun zq => ((y0 :: y1 :: ys) ++ [e]).length - zq) 0 11 [(0, _), (4, _)] ⟨rfl, rfl, trivial⟩ [(1, _), (3, _), (8, _), (10, _)] ⟨rfl, rfl, rfl, rfl, trivial⟩ ?_ ?_ rfl rfl (Nat.zero_le _) ?_
    · repeat' (first | exact trivial | apply And.intro | exact ⟨_, rfl, Z.Imp.refl _⟩)
    · repeat' (first | exact trivial | (intro b hb; cases hb; refine ⟨_, rfl, ⟨rfl, rfl, rfl⟩, Z.imp_eq ?_⟩; first | rfl | exact ren_map fun _ => rfl; done) | apply And.intro)
    rintro j HINV
    dsimp only at HINV ⊢
    have hspl : (spo ((y0 :: y1 :: ys) ++ [e]) j).length = ((y0 :: y1 :: ys) ++ [e]).length := spo_len HINV
    by_cases hj : j < ((y0 :: y1 :: ys) ++ [e]).length
    · obtain ⟨z9, hz9⟩ := getElem?_some' (xs := spo ((y0 :: y1 :: ys) ++ [e]) j) (i := j) (by omega)
      repeat' ((conv => whnf); first
        | (with_reducible refine spB_dec ?_ ?_ <;> intro _ <;> (try (exfalso; first | contradiction | omega | (rename_i hz; refine hz ?_; simp; done) | (rename_i hz; simp at hz; done) | (simp only [LN] at *; omega))))
        | ((with_reducible refine ixN_mk (j) ?_ ?_ ?_); (focus (first | rfl)); (focus ((try simp only [LN] at *) <;> omega)))
        | ((with_reducible refine rowN_mk (cE z9) ?_ ?_); (focus (show (List.map cE _)[0 + j]? = some (cE z9); rw [Nat.zero_add, List.getElem?_map, hz9]; rfl)))
        | with_reducible refine wr_i64 (by first | omega | (simp only [LN] at *; omega)) ?_)
      all_goals (try (conv => whnf))
      all_goals try (show Nat.ble _ _ = true; rfl)
      all_goals try (exfalso; rename_i hz; cases hz; done)
      all_goals try (exfalso; (try simp only [LN] at *) <;> omega)
      all_goals first
        | ((refine Z.rnd_rw 4 ((spo ((y0 :: y1 :: ys) ++ [e]) (j + 1)).map cE) rfl rfl ?_ ?_); (focus (exact spo_set hj)); ((refine Z.rndK ((j + 1)) (fun s => [0, 1, 2, 3, 4, 5, 6, 7, 8, 9, 10]) rfl rfl rfl rfl ?_ ?_ ?_ ?_); (focus (repeat' (first | exact trivial | exact rfl | apply And.intro))); (focus (repeat' (first | exact trivial | (intro b hb; cases hb; rfl) | exact Z.blk_sub rfl rfl (ren_map fun _ => rfl) | apply And.intro))); (focus (((try dsimp only); omega))); ((try dsimp only); omega)))
    repeat' ((conv => whnf); first
      | (with_reducible refine spB_dec ?_ ?_ <;> intro _ <;> (try (exfalso; first | contradiction | omega | (rename_i hz; refine hz ?_; simp; done) | (rename_i hz; simp at hz; done) | (simp only [LN] at *; omega))))
      | with_reducible first | refine Z.callZ_in tabOk 13 Try.f22 _ Try.func22 (by kernel_rfl) rfl rfl rfl ?_
      | ((with_reducible apply ex_and); exact rfl))
    all_goals (try (conv => whnf))
    all_goals try (show Nat.ble _ _ = true; rfl)
    all_goals try (exfalso; rename_i hz; cases hz; done)
    all_goals try (exfalso; (try simp only [LN] at *) <;> omega)
    refine Z.loopK tabOk (fun zq : Nat => [(5, .val (.int .i64 (zq : Int)))]) (fun zq : Nat => ([(7, some (Z.Ob.b ⟨(y0 :: spo (y1 :: ys) zq).map cE, 5, 33, false⟩))] : Z.Kr)) (fun zq => zq ≤ (y1 :: ys).length) (fun zq => (y1 :: ys).length - zq) 0 11 [(0, _), (4, _)] ⟨rfl, rfl, trivial⟩ [(1, _), (3, _), (10, _)] ⟨rfl, rfl, rfl, trivial⟩ ?_ ?_ rfl rfl (Nat.zero_le _) ?_
    · repeat' (first | exact trivial | apply And.intro | exact ⟨_, rfl, Z.Imp.refl _⟩)
    · repeat' (first | exact trivial | exact (fun b hb => ⟨b, hb, Z.ImpO.refl b⟩) | apply And.intro)
    rintro j HINV
    dsimp only at HINV ⊢
    have hspl : (spo (y1 :: ys) j).length = (y1 :: ys).length := spo_len HINV
    by_cases hj : j < (y1 :: ys).length
    · obtain ⟨z9, hz9⟩ := getElem?_some' (xs := spo (y1 :: ys) j) (i := j) (by omega)
      repeat' ((conv => whnf); first
        | (with_reducible refine spB_dec ?_ ?_ <;> intro _ <;> (try (exfalso; first | contradiction | omega | (rename_i hz; refine hz ?_; simp; done) | (rename_i hz; simp at hz; done) | (simp only [LN] at *; omega))))
        | ((with_reducible refine ixN_mk (j) ?_ ?_ ?_); (focus (first | rfl)); (focus ((try simp only [LN] at *) <;> omega)))
        | ((with_reducible refine rowN_mk (cE z9) ?_ ?_); (focus (exact spo_at1 hz9)))
        | with_reducible refine wr_i64 (by first | omega | (simp only [LN] at *; omega)) ?_)
      all_goals (try (conv => whnf))
      all_goals try (show Nat.ble _ _ = true; rfl)
      all_goals try (exfalso; rename_i hz; cases hz; done)
      all_goals try (exfalso; (try simp only [LN] at *) <;> omega)
      all_goals first
        | ((refine Z.rnd_rw 7 ((y0 :: spo (y1 :: ys) (j + 1)).map cE) rfl rfl ?_ ?_); (focus (exact spo_set1 hj)); ((refine Z.rndK ((j + 1)) (fun s => [0, 1, 2, 3, 4, 5, 6, 7, 8, 9, 10]) rfl rfl rfl rfl ?_ ?_ ?_ ?_); (focus (repeat' (first | exact trivial | exact rfl | apply And.intro))); (focus (repeat' (first | exact trivial | (intro b hb; cases hb; rfl) | exact Z.blk_sub rfl rfl (ren_map fun _ => rfl) | apply And.intro))); (focus (((try dsimp only); omega))); ((try dsimp only); omega)))
    repeat' ((conv => whnf); first
      | with_reducible first | refine spB_t ?_
      | ((with_reducible apply spB_cong); (focus (simp only [beq_self_eq_true, bne_self_eq_false, Bool.true_bne, Bool.false_bne, Bool.bne_true, Bool.bne_false, Bool.true_beq, Bool.false_beq, Bool.not_true, Bool.not_false, Bool.not_not, Int.reduceBEq, Int.reduceBNe, Int.reduceLE, Int.reduceLT, Int.reduceEq, decide_true, decide_false]; rfl)))
      | with_reducible first | refine spB_no (by decide) ?_
      | (with_reducible refine spB_dec ?_ ?_ <;> intro _ <;> (try (exfalso; first | contradiction | omega | (rename_i hz; refine hz ?_; simp; done) | (rename_i hz; simp at hz; done) | (simp only [LN] at *; omega))))
      | (with_reducible refine spB_beq ?_ ?_ <;> intro _ <;> (try (exfalso; first | contradiction | omega | (rename_i hz; refine hz ?_; simp; done) | (rename_i hz; simp at hz; done) | (simp only [LN] at *; omega))))
      | ((with_reducible refine Z.slN_lo 1 ?_ ?_ ?_); (focus rfl); (focus (simp only [List.length_map, List.length_append, List.length_cons, List.length_nil]; omega)))
      | with_reducible refine wr_i64 (by first | omega | (simp only [LN] at *; omega)) ?_
      | with_reducible refine vN_mod (by omega) ?_
      | with_reducible refine nzN_mk (by omega) ?_
      | ((first | (with_reducible refine Z.callZ_mk ?_ (css) ?_)); (focus ((repeat' (first | exact trivial | exact rfl | apply And.intro)); done)))
      | ((with_reducible apply ex_and); exact rfl))
    all_goals (try (conv => whnf))
    all_goals try (show Nat.ble _ _ = true; rfl)
    all_goals try (exfalso; rename_i hz; cases hz; done)
    all_goals try (exfalso; (try simp only [LN] at *) <;> omega)
    all_goals first
      | ((refine Z.rndK ((i + 1, n1, (x1 + 1), ((y0 :: y1 :: ys) ++ [e]), r1)) (fun s => [0, 1]) rfl rfl rfl rfl ?_ ?_ ?_ ?_); (focus (repeat' (first | exact trivial | exact rfl | apply And.intro))); (focus (repeat' (first | exact trivial | (intro b hb; cases hb; rfl) | apply And.intro))); (focus (exact ⟨by (try dsimp only); omega, by (try dsimp only); (try simp only [List.length_append, List.length_cons, List.length_nil] at *); omega, hne, by (try dsimp only); omega⟩)); ((try dsimp only); omega))
      | ((refine Z.rnd_bi 1 [[_, _, .ro true 5 (((((y0 :: y1 :: ys) ++ [e])).drop 1).map eE), _]] rfl rfl ⟨⟨Z.Imp.refl _, Z.Imp.refl _, Z.Imp.of_eq (congrArg (Ce.ro true 5) (by first | (rw [List.take_of_length_le (by simp), List.map_drop]) | simp)), Z.Imp.refl _, trivial⟩, trivial⟩ ?_); ((refine Z.rndK ((i + 1, n1, (x1 + 1), (((y0 :: y1 :: ys) ++ [e])).drop 1, r1)) (fun s => [0, 1]) rfl rfl rfl rfl ?_ ?_ ?_ ?_); (focus (repeat' (first | exact trivial | exact rfl | apply And.intro))); (focus (repeat' (first | exact trivial | (intro b hb; cases hb; rfl) | apply And.intro))); (focus (exact ⟨by (try dsimp only); omega, by (try dsimp only); rw [List.length_drop]; (try simp only [List.length_append, List.length_cons, List.length_nil] at *); omega, tl_num hne, by (try dsimp only); omega⟩)); ((try dsimp only); omega))))
end Go.Proofs.Ytoiadndmbppobaa
namespace Go.Proofs.Ytoiadndmbppobaa
open Go Go.RowKit Wx
set_option linter.unusedVariables false
set_option linter.unusedSimpArgs false
set_option maxHeartbeats 40000000
theorem hears_s0 (ls : List Pk) (hls : ls.length ≤ 9223372036854775807) (i : Nat) (n1 x1 : Int)  (r1 : Int) (HI : i ≤ ls.length) (hq9 : ([] : List El).length ≤ 9) (hu1 : ∀ e ∈ ([] : List El), 0 ≤ e.num) (hx1 : 0 ≤ x1) (hi : i < ls.length) (pk : Pk) (hx : ls[i]? = some pk) (hux : 0 ≤ pk.sq ∧ 0 ≤ pk.lim ∧ 0 ≤ pk.e.num) (hib : ¬ i = 30) (hk : okR n1 x1 ([] : List El) r1 = true) (hd : ¬ dataOf n1 x1 ([] : List El) r1 pk) {Q : Exit → Z.S → Prop} : Z.codeZ Try.prog tab 181 0 none (lbody Try.f4) ⟨hCH (i, n1, x1, ([] : List El), r1) ++ hFk ls, hCK (i, n1, x1, ([] : List El), r1) ++ [], 2⟩ (loopPost (hRnd ls (i, n1, x1, ([] : List El), r1)) Q) := by
  dsimp only [hCH, hFk, hCK, hRnd]
  have csn := receiver_con n1 x1 ([] : List El) r1 (by omega)
  rw [sh_id hq9] at csn
  have crs := rightR_con n1 x1 ([] : List El) r1 (by omega) hu1 hx1
  have ccs := checkR_con n1 x1 ([] : List El) r1 (by omega) hu1 hx1
  have css := sameR_con n1 x1 ([] : List El) r1 n1 x1 ([] : List El) r1 (by omega)
  simp only [and_self, decide_true] at css
  have hqm1 : (List.map eE ([] : List El)).length = ([] : List El).length := by simp
  have cak := ack_con n1 x1 ([] : List El) r1 (by omega) hu1 hx1
  rw [hk] at crs ccs
  simp only [cond_true, cond_false] at ccs
  have hs := okR_all hk
  rw [show ackR n1 x1 ([] : List El) r1 = (⟨2, n1, x1, min (x1 - 1 + (r1 - (([] : List El).length : Int))) 4611686018427387904, zE⟩, 0) by unfold ackR; rw [hk]; rfl] at cak
  have cra := rack_con n1 x1 ([] : List El) r1 (by omega) hu1 hx1 hk
  dsimp only [zE] at cak cra
  generalize min (x1 - 1 + (r1 - (([] : List El).length : Int))) 4611686018427387904 = lm at *
  have che := hear_same n1 x1 ([] : List El) r1 pk (by omega) hu1 hx1 hk hux.1 hux.2.2 hd
  have csn3 := csn
  have csw := css
  have cre := rightE_con pk.e hux.2.2
  have cen := rends_con ([] : List El) (by omega)
  have hqe : ([] : List El).length = ([] : List El).length := rfl
  generalize hO9 : okE pk.e = O9 at cre
  generalize hE9 : endsL ([] : List El) = E9 at cen
  have cta := take_con n1 x1 [] r1 (by omega) hu1 hx1
  rw [take_nil hk] at cta
  dsimp only [zR, zE] at cta
  repeat' ((conv => whnf); first
    | with_reducible first | refine spB_t ?_
    | ((with_reducible apply spB_cong); (focus (simp only [beq_self_eq_true, bne_self_eq_false, Bool.true_bne, Bool.false_bne, Bool.bne_true, Bool.bne_false, Bool.true_beq, Bool.false_beq, Bool.not_true, Bool.not_false, Bool.not_not, Int.reduceBEq, Int.reduceBNe, Int.reduceLE, Int.reduceLT, Int.reduceEq, decide_true, decide_false]; rfl)))
    | with_reducible first | refine spB_yes (by decide) ?_ | refine spB_no (by decide) ?_ | refine spB_not ?_
    | (with_reducible refine spB_dec ?_ ?_ <;> intro _ <;> (try (exfalso; first | contradiction | omega | (rename_i hz; refine hz ?_; simp; done) | (rename_i hz; simp at hz; done) | (simp only [LN] at *; omega) | ((refine hd ⟨dat_no2 ?_ ?_ ?_ ?_, ?_, hO9.trans ?_, ?_, hE9.trans ?_⟩) <;> first | assumption | omega | (exact Bool.eq_false_iff.2 (by assumption)) | (simp only [LN] at *; omega)))))
    | (with_reducible refine spB_beq ?_ ?_ <;> intro _ <;> (try (exfalso; first | contradiction | omega | (rename_i hz; refine hz ?_; simp; done) | (rename_i hz; simp at hz; done) | (simp only [LN] at *; omega) | ((refine hd ⟨dat_no2 ?_ ?_ ?_ ?_, ?_, hO9.trans ?_, ?_, hE9.trans ?_⟩) <;> first | assumption | omega | (exact Bool.eq_false_iff.2 (by assumption)) | (simp only [LN] at *; omega)))))
    | (with_reducible refine spB_bne ?_ ?_ <;> intro _ <;> (try (exfalso; first | contradiction | omega | (rename_i hz; refine hz ?_; simp; done) | (rename_i hz; simp at hz; done) | (simp only [LN] at *; omega) | ((refine hd ⟨dat_no2 ?_ ?_ ?_ ?_, ?_, hO9.trans ?_, ?_, hE9.trans ?_⟩) <;> first | assumption | omega | (exact Bool.eq_false_iff.2 (by assumption)) | (simp only [LN] at *; omega)))))
    | (with_reducible refine spB_mk ?_ ?_ <;> intro _ <;> (try (exfalso; first | contradiction | omega | (rename_i hz; refine hz ?_; simp; done) | (rename_i hz; simp at hz; done) | (simp only [LN] at *; omega) | ((refine hd ⟨dat_no2 ?_ ?_ ?_ ?_, ?_, hO9.trans ?_, ?_, hE9.trans ?_⟩) <;> first | assumption | omega | (exact Bool.eq_false_iff.2 (by assumption)) | (simp only [LN] at *; omega)))))
    | with_reducible first | refine Z.rowN_known hx ?_
    | ((with_reducible apply ixN_litp); (focus (exact rfl)); (focus ((try simp only [LN] at *) <;> omega)))
    | ((with_reducible refine apdE_r ?_); (with_reducible refine aprN.mk ⟨_, rfl, ?_⟩ ?_ ?_ ?_ ?_); (focus ((try simp only [LN] at *) <;> omega)); (focus (first | rfl)); (focus (first | exact one_all (by rfl))); (focus ((try simp only [LN] at *) <;> omega)))
    | ((with_reducible refine apdE_k ?_); (with_reducible refine apkN.mk ⟨_, rfl, ?_⟩ ?_); (focus ((try simp only [LN] at *) <;> omega)))
    | ((with_reducible refine apdN.mk ?_ ?_ ?_ ?_ ?_ ?_); (focus (first | rfl)); (focus (first | exact one_all (by rfl))); (focus ((try simp only [LN] at *) <;> omega)); (focus ((try simp only [LN] at *) <;> omega)); (focus ((try simp only [LN] at *) <;> omega)))
    | with_reducible refine wr_u64 (by omega) ?_
    | with_reducible first | refine Z.callZ_in tabOk 13 Try.f22 _ Try.func22 (by kernel_rfl) rfl rfl rfl ?_ | refine Z.callZ_in tabOk 67 Try.f30 _ Try.func30 (by kernel_rfl) rfl rfl rfl ?_ | refine Z.callZ_in tabOk 6 Try.f42 _ Try.func42 (by kernel_rfl) rfl rfl rfl ?_
    | ((first | (with_reducible refine Z.callZ_mk ?_ (crs) ?_) | (with_reducible refine Z.callZ_mk ?_ (che) ?_) | (with_reducible refine Z.callZ_mk ?_ (cak) ?_) | (with_reducible refine Z.callZ_mk ?_ (cta) ?_) | (with_reducible refine Z.callZ_mk ?_ (ccs) ?_) | (with_reducible refine Z.conZ_mz ?_ (cra) ?_) | (with_reducible refine Z.callZ_mk ?_ (cen) ?_) | (with_reducible refine Z.callZ_mk ?_ (cre) ?_)); (focus ((repeat' (first | exact trivial | exact rfl | apply And.intro)); done)))
    | ((first | (with_reducible refine Z.callZ_mk ?_ (csn) ?_)); (focus ((repeat' (first | exact trivial | exact rfl | apply And.intro)); done)))
    | ((first | (with_reducible refine Z.conZ_mz ?_ (css) ?_) | (with_reducible refine Z.callZ_mk ?_ (css) ?_)); (focus ((repeat' (first | exact trivial | exact ⟨[], rfl, rfl, rfl⟩ | exact rfl | apply And.intro)); done)))
    | ((with_reducible apply ex_and); exact rfl)
    | with_reducible first | refine Z.drawZ_rule tabOk mixOk ?_ | refine Z.apZ_mk (by kernel_rfl) ?_
    | ((with_reducible refine Z.ConZ.red ?_); (try subst hlb); (apply Z.conZ_all); (focus (repeat (first | exact Z.FK.nil | (apply Z.FK.keep; exact rfl)))); (focus rfl); (focus rfl); (focus (repeat (first | exact trivial | (refine ⟨(fun o ho => (by first | (cases ho; rfl) | (cases ho; exact Z.inL_map fun _ => rfl) | (cases ho; exact Z.inL_mapr fun _ => rfl) | exact Z.inL_gB ho fun _ => rfl)), ?_⟩)))))
    | ((refine ⟨rfl, ?_, rfl⟩); (focus (repeat (first | exact Z.DK.nil | apply Z.DK.cons)))))
  all_goals (try (conv => whnf))
  all_goals try (show Nat.ble _ _ = true; rfl)
  all_goals try (exfalso; rename_i hz; cases hz; done)
  all_goals try (exfalso; (try simp only [LN] at *) <;> omega)
  all_goals try (exfalso; ((refine hd ⟨dat_no2 ?_ ?_ ?_ ?_, ?_, hO9.trans ?_, ?_, hE9.trans ?_⟩) <;> first | assumption | omega | (exact Bool.eq_false_iff.2 (by assumption)) | (simp only [LN] at *; omega)))
  all_goals (
    refine Z.loopK tabOk (fun zq : Nat => [(5, .val (.int .i64 (zq : Int)))]) (fun zq : Nat => ([(4, some (Z.Ob.b ⟨(spo ([] : List El) zq).map cE, 5, 33, false⟩))] : Z.Kr)) (fun zq => zq ≤ ([] : List El).length) (fun zq => ([] : List El).length - zq) 0 13 [(0, _), (4, _)] ⟨rfl, rfl, trivial⟩ [(1, _), (3, _), (7, _), (12, _)] ⟨rfl, rfl, rfl, rfl, trivial⟩ ?_ ?_ rfl rfl (Nat.zero_le _) ?_
    · repeat' (first | exact trivial | apply And.intro | exact ⟨_, rfl, Z.Imp.refl _⟩)
    · repeat' (first | exact trivial | exact (fun b hb => ⟨b, hb, Z.ImpO.refl b⟩) | apply And.intro)
    rintro j HINV
    dsimp only at HINV ⊢
    have hspl : (spo ([] : List El) j).length = ([] : List El).length := spo_len HINV
    by_cases hj : j < ([] : List El).length
    · obtain ⟨z9, hz9⟩ := getElem?_some' (xs := spo ([] : List El) j) (i := j) (by omega)
      repeat' ((conv => whnf); first
        | (with_reducible refine spB_dec ?_ ?_ <;> intro _ <;> (try (exfalso; first | contradiction | omega | (rename_i hz; refine hz ?_; simp; done) | (rename_i hz; simp at hz; done) | (simp only [LN] at *; omega)))))
      all_goals (try (conv => whnf))
      all_goals try (show Nat.ble _ _ = true; rfl)
      all_goals try (exfalso; rename_i hz; cases hz; done)
      all_goals try (exfalso; (try simp only [LN] at *) <;> omega)
      all_goals first
        | ((refine Z.rnd_rw 4 ((spo ([] : List El) (j + 1)).map cE) rfl rfl ?_ ?_); (focus (exact spo_set hj)); ((refine Z.rndK ((j + 1)) (fun s => [0, 1, 2, 3, 4, 5, 6, 7, 8, 9, 10, 11, 12]) rfl rfl rfl rfl ?_ ?_ ?_ ?_); (focus (repeat' (first | apply And.intro))); (focus (repeat' (first | apply And.intro))); (focus (((try dsimp only); omega))); ((try dsimp only); omega)))
    repeat' ((conv => whnf); first
      | with_reducible first | refine spB_t ?_
      | ((with_reducible apply spB_cong); (focus (simp only [beq_self_eq_true, bne_self_eq_false, Bool.true_bne, Bool.false_bne, Bool.bne_true, Bool.bne_false, Bool.true_beq, Bool.false_beq, Bool.not_true, Bool.not_false, Bool.not_not, Int.reduceBEq, Int.reduceBNe, Int.reduceLE, Int.reduceLT, Int.reduceEq, decide_true, decide_false]; rfl)))
      | with_reducible first | refine spB_no (by decide) ?_
      | (with_reducible refine spB_dec ?_ ?_ <;> intro _ <;> (try (exfalso; first | contradiction | omega | (rename_i hz; refine hz ?_; simp; done) | (rename_i hz; simp at hz; done) | (simp only [LN] at *; omega))))
      | (with_reducible refine spB_beq ?_ ?_ <;> intro _ <;> (try (exfalso; first | contradiction | omega | (rename_i hz; refine hz ?_; simp; done) | (rename_i hz; simp at hz; done) | (simp only [LN] at *; omega))))
      | with_reducible first | refine Z.loopZ_unroll tabOk 1 ?_
      | with_reducible refine wr_i64 (by first | omega | (simp only [LN] at *; omega)) ?_
      | with_reducible refine vN_mod (by omega) ?_
      | with_reducible refine nzN_mk (by omega) ?_
      | with_reducible first | refine Z.callZ_in tabOk 13 Try.f22 _ Try.func22 (by kernel_rfl) rfl rfl rfl ?_
      | ((first | (with_reducible refine Z.callZ_mk ?_ (css) ?_)); (focus ((repeat' (first | exact trivial | exact rfl | apply And.intro)); done)))
      | ((with_reducible apply ex_and); exact rfl))
    all_goals (try (conv => whnf))
    all_goals try (show Nat.ble _ _ = true; rfl)
    all_goals try (exfalso; rename_i hz; cases hz; done)
    all_goals try (exfalso; (try simp only [LN] at *) <;> omega)
    all_goals first
      | ((refine Z.rndK ((i + 1, n1, x1, ([] : List El), r1)) (fun s => [0, 1]) rfl rfl rfl rfl ?_ ?_ ?_ ?_); (focus (repeat' (first | exact trivial | exact rfl | apply And.intro))); (focus (repeat' (first | exact trivial | (intro b hb; cases hb; rfl) | apply And.intro))); (focus (exact ⟨by (try dsimp only); omega, by (try dsimp only); (try simp only [List.length_append, List.length_cons, List.length_nil] at *); omega, hu1, by (try dsimp only); omega⟩)); ((try dsimp only); omega)))
end Go.Proofs.Ytoiadndmbppobaa
namespace Go.Proofs.Ytoiadndmbppobaa
open Go Go.RowKit Wx
set_option linter.unusedVariables false
set_option linter.unusedSimpArgs false
set_option maxHeartbeats 40000000
theorem hears_s1 (ls : List Pk) (hls : ls.length ≤ 9223372036854775807) (i : Nat) (n1 x1 : Int) (y0 : El) (r1 : Int) (HI : i ≤ ls.length) (hq9 : [y0].length ≤ 9) (hu1 : ∀ e ∈ [y0], 0 ≤ e.num) (hx1 : 0 ≤ x1) (hi : i < ls.length) (pk : Pk) (hx : ls[i]? = some pk) (hux : 0 ≤ pk.sq ∧ 0 ≤ pk.lim ∧ 0 ≤ pk.e.num) (hib : ¬ i = 30) (hk : okR n1 x1 [y0] r1 = true) (hd : ¬ dataOf n1 x1 [y0] r1 pk) {Q : Exit → Z.S → Prop} : Z.codeZ Try.prog tab 181 0 none (lbody Try.f4) ⟨hCH (i, n1, x1, [y0], r1) ++ hFk ls, hCK (i, n1, x1, [y0], r1) ++ [], 2⟩ (loopPost (hRnd ls (i, n1, x1, [y0], r1)) Q) := by
  dsimp only [hCH, hFk, hCK, hRnd]
  have csn := receiver_con n1 x1 [y0] r1 (by omega)
  rw [sh_id hq9] at csn
  have crs := rightR_con n1 x1 [y0] r1 (by omega) hu1 hx1
  have ccs := checkR_con n1 x1 [y0] r1 (by omega) hu1 hx1
  have css := sameR_con n1 x1 [y0] r1 n1 x1 [y0] r1 (by omega)
  simp only [and_self, decide_true] at css
  have hqm1 : (List.map eE [y0]).length = [y0].length := by simp
  have cak := ack_con n1 x1 [y0] r1 (by omega) hu1 hx1
  rw [hk] at crs ccs
  simp only [cond_true, cond_false] at ccs
  have hs := okR_all hk
  rw [show ackR n1 x1 [y0] r1 = (⟨2, n1, x1, min (x1 - 1 + (r1 - ([y0].length : Int))) 4611686018427387904, zE⟩, 0) by unfold ackR; rw [hk]; rfl] at cak
  have cra := rack_con n1 x1 [y0] r1 (by omega) hu1 hx1 hk
  dsimp only [zE] at cak cra
  generalize min (x1 - 1 + (r1 - ([y0].length : Int))) 4611686018427387904 = lm at *
  have che := hear_same n1 x1 [y0] r1 pk (by omega) hu1 hx1 hk hux.1 hux.2.2 hd
  have csn3 := csn
  have csw := css
  have cre := rightE_con pk.e hux.2.2
  have cen := rends_con [y0] (by omega)
  have hqe : [y0].length = [y0].length := rfl
  generalize hO9 : okE pk.e = O9 at cre
  generalize hE9 : endsL [y0] = E9 at cen
  have cta := take_con n1 x1 [y0] r1 (by omega) hu1 hx1
  rw [take_one hk] at cta
  dsimp only at cta
  repeat' ((conv => whnf); first
    | with_reducible first | refine spB_t ?_
    | ((with_reducible apply spB_cong); (focus (simp only [beq_self_eq_true, bne_self_eq_false, Bool.true_bne, Bool.false_bne, Bool.bne_true, Bool.bne_false, Bool.true_beq, Bool.false_beq, Bool.not_true, Bool.not_false, Bool.not_not, Int.reduceBEq, Int.reduceBNe, Int.reduceLE, Int.reduceLT, Int.reduceEq, decide_true, decide_false]; rfl)))
    | with_reducible first | refine spB_yes (by decide) ?_ | refine spB_no (by decide) ?_ | refine spB_f ?_ | refine spB_not ?_ | refine spB_yes (by assumption) ?_ | refine spB_no (by assumption) ?_
    | (with_reducible refine spB_dec ?_ ?_ <;> intro _ <;> (try (exfalso; first | contradiction | omega | (rename_i hz; refine hz ?_; simp; done) | (rename_i hz; simp at hz; done) | (simp only [LN] at *; omega) | ((refine hd ⟨dat_no2 ?_ ?_ ?_ ?_, ?_, hO9.trans ?_, ?_, hE9.trans ?_⟩) <;> first | assumption | omega | (exact Bool.eq_false_iff.2 (by assumption)) | (simp only [LN] at *; omega)))))
    | (with_reducible refine spB_beq ?_ ?_ <;> intro _ <;> (try (exfalso; first | contradiction | omega | (rename_i hz; refine hz ?_; simp; done) | (rename_i hz; simp at hz; done) | (simp only [LN] at *; omega) | ((refine hd ⟨dat_no2 ?_ ?_ ?_ ?_, ?_, hO9.trans ?_, ?_, hE9.trans ?_⟩) <;> first | assumption | omega | (exact Bool.eq_false_iff.2 (by assumption)) | (simp only [LN] at *; omega)))))
    | (with_reducible refine spB_bne ?_ ?_ <;> intro _ <;> (try (exfalso; first | contradiction | omega | (rename_i hz; refine hz ?_; simp; done) | (rename_i hz; simp at hz; done) | (simp only [LN] at *; omega) | ((refine hd ⟨dat_no2 ?_ ?_ ?_ ?_, ?_, hO9.trans ?_, ?_, hE9.trans ?_⟩) <;> first | assumption | omega | (exact Bool.eq_false_iff.2 (by assumption)) | (simp only [LN] at *; omega)))))
    | (with_reducible refine spB_mk ?_ ?_ <;> intro _ <;> (try (exfalso; first | contradiction | omega | (rename_i hz; refine hz ?_; simp; done) | (rename_i hz; simp at hz; done) | (simp only [LN] at *; omega) | ((refine hd ⟨dat_no2 ?_ ?_ ?_ ?_, ?_, hO9.trans ?_, ?_, hE9.trans ?_⟩) <;> first | assumption | omega | (exact Bool.eq_false_iff.2 (by assumption)) | (simp only [LN] at *; omega)))))
    | with_reducible first | refine Z.rowN_known hx ?_
    | ((with_reducible apply ixN_lit); (focus (exact rfl)); (focus (exact rfl)))
    | ((with_reducible apply ixN_litp); (focus (exact rfl)); (focus ((try simp only [LN] at *) <;> omega)))
    | ((with_reducible refine Z.rowN_known (x := y0) rfl ?_))
    | ((with_reducible refine posE_pos ?_ ?_); (focus ((try simp only [LN] at *) <;> omega)))
    | ((with_reducible refine posE_nil ?_ ?_); (focus rfl))
    | ((with_reducible apply rowN_mk); (focus rfl))
    | ((with_reducible refine eqN_mk2 ?_ ?_); (focus rfl))
    | ((with_reducible refine posN_mk2 ?_ ?_); (focus (first | decide | ((try simp only [LN] at *) <;> omega))))
    | ((with_reducible refine apdE_r ?_); (with_reducible refine aprN.mk ⟨_, rfl, ?_⟩ ?_ ?_ ?_ ?_); (focus ((try simp only [LN] at *) <;> omega)); (focus (first | rfl | (simp; done) | ((try simp only [LN] at *) <;> omega))); (focus (first | exact one_all (by rfl) | exact one_map (fun _ => rfl) | exact one_map2 (fun _ => rfl) | exact one_drop (fun _ => rfl))); (focus ((try simp only [LN] at *) <;> omega)))
    | ((with_reducible refine apdE_k ?_); (with_reducible refine apkN.mk ⟨_, rfl, ?_⟩ ?_); (focus ((try simp only [LN] at *) <;> omega)))
    | with_reducible first | refine apdE_n ?_
    | ((with_reducible refine slE_a ?_ ?_); (focus ((try simp only [LN] at *) <;> omega)))
    | ((with_reducible refine slE_b ?_ ?_); (focus ((try simp only [LN] at *) <;> omega)))
    | ((with_reducible refine slE_split ?_ ?_ ?_); (focus ((try simp only [LN] at *) <;> omega)); (all_goals intro _))
    | ((with_reducible refine apdN.mk ?_ ?_ ?_ ?_ ?_ ?_); (focus (first | rfl | (simp; done))); (focus (first | exact one_all (by rfl) | exact one_map (fun _ => rfl) | exact one_map2 (fun _ => rfl))); (focus ((try simp only [LN] at *) <;> omega)); (focus ((try simp only [LN] at *) <;> omega)); (focus ((try simp only [LN] at *) <;> omega)))
    | with_reducible refine wr_i64 (by first | omega | (simp only [LN] at *; omega)) ?_
    | with_reducible refine wr_u64 (by omega) ?_
    | with_reducible refine wr_u8 (by omega) ?_
    | with_reducible refine wr_u32 (by omega) ?_
    | with_reducible first | refine wr_mk _ rfl ?_
    | ((with_reducible refine ixN_nat ?_ ?_); (focus ((try simp only [LN] at *) <;> omega)))
    | ((with_reducible refine rowN_map ?_ ?_); (focus ((try simp only [LN] at *) <;> omega)); intro x hx)
    | ((with_reducible refine posE_nil (by rfl) ?_))
    | ((with_reducible refine posE_pos (by decide) ?_))
    | with_reducible refine vN_mod (by omega) ?_
    | with_reducible first | refine vN_mk ?_
    | with_reducible refine nzN_mk (by omega) ?_
    | with_reducible refine eqN_dec (by omega) ?_
    | with_reducible first | refine apN_mk (by kernel_rfl) ?_ | refine Z.callZ_in tabOk 13 Try.f22 _ Try.func22 (by kernel_rfl) rfl rfl rfl ?_ | refine Z.callZ_in tabOk 67 Try.f30 _ Try.func30 (by kernel_rfl) rfl rfl rfl ?_ | refine Z.callZ_in tabOk 6 Try.f42 _ Try.func42 (by kernel_rfl) rfl rfl rfl ?_
    | ((first | (with_reducible refine Z.conZ_mz ?_ (wakes_con) ?_) | (with_reducible refine Z.callZ_mk ?_ (wakes_con) ?_) | (with_reducible refine Z.conZ_mz ?_ (crs) ?_) | (with_reducible refine Z.callZ_mk ?_ (crs) ?_) | (with_reducible refine Z.conZ_mz ?_ (che) ?_) | (with_reducible refine Z.callZ_mk ?_ (che) ?_) | (with_reducible refine Z.conZ_mz ?_ (cak) ?_) | (with_reducible refine Z.callZ_mk ?_ (cak) ?_) | (with_reducible refine Z.conZ_mz ?_ (cta) ?_) | (with_reducible refine Z.callZ_mk ?_ (cta) ?_) | (with_reducible refine Z.conZ_mz ?_ (ccs) ?_) | (with_reducible refine Z.callZ_mk ?_ (ccs) ?_) | (with_reducible refine Z.conZ_mz ?_ (cra) ?_) | (with_reducible refine Z.callZ_mk ?_ (cra) ?_) | (with_reducible refine Z.conZ_mz ?_ (cen) ?_) | (with_reducible refine Z.callZ_mk ?_ (cen) ?_) | (with_reducible refine Z.conZ_mz ?_ (cre) ?_) | (with_reducible refine Z.callZ_mk ?_ (cre) ?_)); (focus ((repeat' (first | exact trivial | exact ⟨[], rfl, rfl, rfl⟩ | exact rfl | exact Z.low_nil | exact Z.low_nil2 | exact low_osl (fun _ => rfl) | (refine Z.low_osln ?_ (fun _ => rfl); (simp only [List.length_map]; done)) | exact low_oslr (fun _ => rfl) | exact Z.low_gslm (by first | rfl | exact Z.kb_some rfl) (fun _ => rfl) | exact .inl rfl | exact .inr ⟨_, rfl⟩ | apply And.intro)); done)))
    | ((first | (with_reducible refine Z.conZ_mz ?_ (csn) ?_) | (with_reducible refine Z.callZ_mk ?_ (csn) ?_)); (focus ((repeat' (first | exact trivial | exact ⟨[], rfl, rfl, rfl⟩ | exact rfl | exact Z.low_nil | exact Z.low_nil2 | exact low_osl (fun _ => rfl) | (refine Z.low_osln ?_ (fun _ => rfl); (simp only [List.length_map]; done)) | exact low_oslr (fun _ => rfl) | exact Z.low_gslm (by first | rfl | exact Z.kb_some rfl) (fun _ => rfl) | exact .inl rfl | exact .inr ⟨_, rfl⟩ | apply And.intro)); done)))
    | ((first | (with_reducible refine Z.conZ_mz ?_ (csn3) ?_) | (with_reducible refine Z.callZ_mk ?_ (csn3) ?_)); (focus ((repeat' (first | exact trivial | exact ⟨[], rfl, rfl, rfl⟩ | exact rfl | exact Z.low_nil | exact Z.low_nil2 | exact low_osl (fun _ => rfl) | (refine Z.low_osln ?_ (fun _ => rfl); (simp only [List.length_map]; done)) | exact low_oslr (fun _ => rfl) | exact Z.low_gslm (by first | rfl | exact Z.kb_some rfl) (fun _ => rfl) | exact .inl rfl | exact .inr ⟨_, rfl⟩ | apply And.intro)); done)))
    | ((first | (with_reducible refine Z.conZ_mz ?_ (css) ?_) | (with_reducible refine Z.callZ_mk ?_ (css) ?_)); (focus ((repeat' (first | exact trivial | exact ⟨[], rfl, rfl, rfl⟩ | exact rfl | exact Z.low_nil | exact Z.low_nil2 | exact low_osl (fun _ => rfl) | (refine Z.low_osln ?_ (fun _ => rfl); (simp only [List.length_map]; done)) | exact low_oslr (fun _ => rfl) | exact Z.low_gslm (by first | rfl | exact Z.kb_some rfl) (fun _ => rfl) | exact .inl rfl | exact .inr ⟨_, rfl⟩ | apply And.intro)); done)))
    | ((first | (with_reducible refine Z.conZ_mz ?_ (csw) ?_) | (with_reducible refine Z.callZ_mk ?_ (csw) ?_)); (focus ((repeat' (first | exact trivial | exact ⟨[], rfl, rfl, rfl⟩ | exact rfl | exact Z.low_nil | exact Z.low_nil2 | exact low_osl (fun _ => rfl) | (refine Z.low_osln ?_ (fun _ => rfl); (simp only [List.length_map]; done)) | exact low_oslr (fun _ => rfl) | exact Z.low_gslm (by first | rfl | exact Z.kb_some rfl) (fun _ => rfl) | exact .inl rfl | exact .inr ⟨_, rfl⟩ | apply And.intro)); done)))
    | ((with_reducible refine eqN_mk2 ?_ ?_); (focus (exact Z.kb_some rfl)))
    | ((with_reducible apply ex_and); exact rfl)
    | with_reducible first | refine Z.drawZ_rule tabOk mixOk ?_ | refine Z.apZ_mk (by kernel_rfl) ?_
    | ((with_reducible refine Z.ConZ.red ?_); (try subst hlb); (apply Z.conZ_all); (focus (repeat (first | exact Z.FK.nil | (apply Z.FK.keep; exact rfl)))); (focus rfl); (focus rfl); (focus (repeat (first | exact trivial | (refine ⟨(fun o ho => (by first | (cases ho; rfl) | (cases ho; exact Z.inL_map fun _ => rfl) | (cases ho; exact Z.inL_mapr fun _ => rfl) | exact Z.inL_gB ho fun _ => rfl)), ?_⟩)))))
    | ((refine ⟨rfl, ?_, rfl⟩); (focus (repeat (first | exact Z.DK.nil | apply Z.DK.cons))))
    | (focus (exact (rfl : Nat.ble _ _ = true))))
  all_goals (try (conv => whnf))
  all_goals try (show Nat.ble _ _ = true; rfl)
  all_goals try (exfalso; rename_i hz; cases hz; done)
  all_goals try (exfalso; (try simp only [LN] at *) <;> omega)
  all_goals try (exfalso; ((refine hd ⟨dat_no2 ?_ ?_ ?_ ?_, ?_, hO9.trans ?_, ?_, hE9.trans ?_⟩) <;> first | assumption | omega | (exact Bool.eq_false_iff.2 (by assumption)) | (simp only [LN] at *; omega)))
  all_goals (
    refine Z.loopK tabOk (fun zq : Nat => [(5, .val (.int .i64 (zq : Int)))]) (fun zq : Nat => ([(4, some (Z.Ob.b ⟨(spo [y0] zq).map cE, 5, 33, false⟩))] : Z.Kr)) (fun zq => zq ≤ [y0].length) (fun zq => [y0].length - zq) 0 13 [(0, _), (4, _)] ⟨rfl, rfl, trivial⟩ [(1, _), (3, _), (7, _), (12, _)] ⟨rfl, rfl, rfl, rfl, trivial⟩ ?_ ?_ rfl rfl (Nat.zero_le _) ?_
    · repeat' (first | exact trivial | apply And.intro | exact ⟨_, rfl, rfl⟩ | exact ⟨_, rfl, Z.Imp.refl _⟩ | exact ⟨_, rfl, Z.Imp.nilg _⟩ | exact ⟨_, rfl, Z.Imp.nilr _ _⟩)
    · repeat' (first | exact trivial | (intro b hb; cases hb; done) | exact (fun b hb => ⟨b, hb, Z.ImpO.refl b⟩) | (intro b hb; cases hb; refine ⟨_, rfl, ⟨rfl, rfl, rfl⟩, ?_⟩; (repeat' (first | exact trivial | apply And.intro | exact Z.Imp.refl _ | exact Z.Imp.nilg _ | exact Z.Imp.nilr _ _)); done) | (intro b hb; cases hb; refine ⟨_, rfl, ⟨rfl, rfl, rfl⟩, Z.imp_eq ?_⟩; first | rfl | exact ren_map fun _ => rfl; done) | apply And.intro)
    rintro j HINV
    dsimp only at HINV ⊢
    have hspl : (spo [y0] j).length = [y0].length := spo_len HINV
    by_cases hj : j < [y0].length
    · obtain ⟨z9, hz9⟩ := getElem?_some' (xs := spo [y0] j) (i := j) (by omega)
      repeat' ((conv => whnf); first
        | with_reducible first | refine spB_t ?_
        | ((with_reducible apply spB_cong); (focus (simp only [beq_self_eq_true, bne_self_eq_false, Bool.true_bne, Bool.false_bne, Bool.bne_true, Bool.bne_false, Bool.true_beq, Bool.false_beq, Bool.not_true, Bool.not_false, Bool.not_not, Int.reduceBEq, Int.reduceBNe, Int.reduceLE, Int.reduceLT, Int.reduceEq, decide_true, decide_false]; rfl)))
        | with_reducible first | refine spB_yes (by decide) ?_ | refine spB_no (by decide) ?_ | refine spB_f ?_ | refine spB_not ?_ | refine spB_yes (by assumption) ?_ | refine spB_no (by assumption) ?_
        | (with_reducible refine spB_dec ?_ ?_ <;> intro _ <;> (try (exfalso; first | contradiction | omega | (rename_i hz; refine hz ?_; simp; done) | (rename_i hz; simp at hz; done) | (simp only [LN] at *; omega))))
        | (with_reducible refine spB_beq ?_ ?_ <;> intro _ <;> (try (exfalso; first | contradiction | omega | (rename_i hz; refine hz ?_; simp; done) | (rename_i hz; simp at hz; done) | (simp only [LN] at *; omega))))
        | (with_reducible refine spB_bne ?_ ?_ <;> intro _ <;> (try (exfalso; first | contradiction | omega | (rename_i hz; refine hz ?_; simp; done) | (rename_i hz; simp at hz; done) | (simp only [LN] at *; omega))))
        | (with_reducible refine spB_mk ?_ ?_ <;> intro _ <;> (try (exfalso; first | contradiction | omega | (rename_i hz; refine hz ?_; simp; done) | (rename_i hz; simp at hz; done) | (simp only [LN] at *; omega))))
        | ((with_reducible refine ixN_mk (j) ?_ ?_ ?_); (focus (first | rfl | ((try simp only [LN] at *) <;> omega))); (focus ((try simp only [LN] at *) <;> omega)))
        | ((with_reducible refine rowN_mk (cE z9) ?_ ?_); (focus (show (List.map cE _)[0 + j]? = some (cE z9); rw [Nat.zero_add, List.getElem?_map, hz9]; rfl)))
        | ((with_reducible refine posE_pos ?_ ?_); (focus ((try simp only [LN] at *) <;> omega)))
        | ((with_reducible refine posE_nil ?_ ?_); (focus rfl))
        | ((with_reducible apply rowN_mk); (focus rfl))
        | ((with_reducible apply ixN_lit); (focus (exact rfl)); (focus (exact rfl)))
        | ((with_reducible apply ixN_litp); (focus (exact rfl)); (focus ((try simp only [LN] at *) <;> omega)))
        | ((with_reducible refine eqN_mk2 ?_ ?_); (focus rfl))
        | ((with_reducible refine posN_mk2 ?_ ?_); (focus (first | decide | ((try simp only [LN] at *) <;> omega))))
        | ((with_reducible refine apdE_r ?_); (with_reducible refine aprN.mk ⟨_, rfl, ?_⟩ ?_ ?_ ?_ ?_); (focus ((try simp only [LN] at *) <;> omega)); (focus (first | rfl | (simp; done) | ((try simp only [LN] at *) <;> omega))); (focus (first | exact one_all (by rfl) | exact one_map (fun _ => rfl) | exact one_map2 (fun _ => rfl) | exact one_drop (fun _ => rfl))); (focus ((try simp only [LN] at *) <;> omega)))
        | ((with_reducible refine apdE_k ?_); (with_reducible refine apkN.mk ⟨_, rfl, ?_⟩ ?_); (focus ((try simp only [LN] at *) <;> omega)))
        | with_reducible first | refine apdE_n ?_
        | ((with_reducible refine slE_a ?_ ?_); (focus ((try simp only [LN] at *) <;> omega)))
        | ((with_reducible refine slE_b ?_ ?_); (focus ((try simp only [LN] at *) <;> omega)))
        | ((with_reducible refine slE_split ?_ ?_ ?_); (focus ((try simp only [LN] at *) <;> omega)); (all_goals intro _))
        | ((with_reducible refine apdN.mk ?_ ?_ ?_ ?_ ?_ ?_); (focus (first | rfl | (simp; done))); (focus (first | exact one_all (by rfl) | exact one_map (fun _ => rfl) | exact one_map2 (fun _ => rfl))); (focus ((try simp only [LN] at *) <;> omega)); (focus ((try simp only [LN] at *) <;> omega)); (focus ((try simp only [LN] at *) <;> omega)))
        | with_reducible refine wr_i64 (by first | omega | (simp only [LN] at *; omega)) ?_
        | with_reducible refine wr_u64 (by omega) ?_
        | with_reducible refine wr_u8 (by omega) ?_
        | with_reducible refine wr_u32 (by omega) ?_
        | with_reducible first | refine wr_mk _ rfl ?_
        | ((with_reducible refine ixN_nat ?_ ?_); (focus ((try simp only [LN] at *) <;> omega)))
        | ((with_reducible refine rowN_map ?_ ?_); (focus ((try simp only [LN] at *) <;> omega)); intro x hx)
        | ((with_reducible refine posE_nil (by rfl) ?_))
        | ((with_reducible refine posE_pos (by decide) ?_))
        | with_reducible refine vN_mod (by omega) ?_
        | with_reducible first | refine vN_mk ?_
        | with_reducible refine nzN_mk (by omega) ?_
        | with_reducible refine eqN_dec (by omega) ?_
        | with_reducible first | refine apN_mk (by kernel_rfl) ?_ | refine Z.callZ_in tabOk 13 Try.f22 _ Try.func22 (by kernel_rfl) rfl rfl rfl ?_ | refine Z.callZ_in tabOk 67 Try.f30 _ Try.func30 (by kernel_rfl) rfl rfl rfl ?_ | refine Z.callZ_in tabOk 6 Try.f42 _ Try.func42 (by kernel_rfl) rfl rfl rfl ?_
        | ((first | (with_reducible refine Z.conZ_mz ?_ (wakes_con) ?_) | (with_reducible refine Z.callZ_mk ?_ (wakes_con) ?_) | (with_reducible refine Z.conZ_mz ?_ (crs) ?_) | (with_reducible refine Z.callZ_mk ?_ (crs) ?_) | (with_reducible refine Z.conZ_mz ?_ (che) ?_) | (with_reducible refine Z.callZ_mk ?_ (che) ?_) | (with_reducible refine Z.conZ_mz ?_ (cak) ?_) | (with_reducible refine Z.callZ_mk ?_ (cak) ?_) | (with_reducible refine Z.conZ_mz ?_ (cta) ?_) | (with_reducible refine Z.callZ_mk ?_ (cta) ?_) | (with_reducible refine Z.conZ_mz ?_ (ccs) ?_) | (with_reducible refine Z.callZ_mk ?_ (ccs) ?_) | (with_reducible refine Z.conZ_mz ?_ (cra) ?_) | (with_reducible refine Z.callZ_mk ?_ (cra) ?_) | (with_reducible refine Z.conZ_mz ?_ (cen) ?_) | (with_reducible refine Z.callZ_mk ?_ (cen) ?_) | (with_reducible refine Z.conZ_mz ?_ (cre) ?_) | (with_reducible refine Z.callZ_mk ?_ (cre) ?_)); (focus ((repeat' (first | exact trivial | exact ⟨[], rfl, rfl, rfl⟩ | exact rfl | exact Z.low_nil | exact Z.low_nil2 | exact low_osl (fun _ => rfl) | (refine Z.low_osln ?_ (fun _ => rfl); (simp only [List.length_map]; done)) | exact low_oslr (fun _ => rfl) | exact Z.low_gslm (by first | rfl | exact Z.kb_some rfl) (fun _ => rfl) | exact .inl rfl | exact .inr ⟨_, rfl⟩ | apply And.intro)); done)))
        | ((first | (with_reducible refine Z.conZ_mz ?_ (csn) ?_) | (with_reducible refine Z.callZ_mk ?_ (csn) ?_)); (focus ((repeat' (first | exact trivial | exact ⟨[], rfl, rfl, rfl⟩ | exact rfl | exact Z.low_nil | exact Z.low_nil2 | exact low_osl (fun _ => rfl) | (refine Z.low_osln ?_ (fun _ => rfl); (simp only [List.length_map]; done)) | exact low_oslr (fun _ => rfl) | exact Z.low_gslm (by first | rfl | exact Z.kb_some rfl) (fun _ => rfl) | exact .inl rfl | exact .inr ⟨_, rfl⟩ | apply And.intro)); done)))
        | ((first | (with_reducible refine Z.conZ_mz ?_ (csn3) ?_) | (with_reducible refine Z.callZ_mk ?_ (csn3) ?_)); (focus ((repeat' (first | exact trivial | exact ⟨[], rfl, rfl, rfl⟩ | exact rfl | exact Z.low_nil | exact Z.low_nil2 | exact low_osl (fun _ => rfl) | (refine Z.low_osln ?_ (fun _ => rfl); (simp only [List.length_map]; done)) | exact low_oslr (fun _ => rfl) | exact Z.low_gslm (by first | rfl | exact Z.kb_some rfl) (fun _ => rfl) | exact .inl rfl | exact .inr ⟨_, rfl⟩ | apply And.intro)); done)))
        | ((first | (with_reducible refine Z.conZ_mz ?_ (css) ?_) | (with_reducible refine Z.callZ_mk ?_ (css) ?_)); (focus ((repeat' (first | exact trivial | exact ⟨[], rfl, rfl, rfl⟩ | exact rfl | exact Z.low_nil | exact Z.low_nil2 | exact low_osl (fun _ => rfl) | (refine Z.low_osln ?_ (fun _ => rfl); (simp only [List.length_map]; done)) | exact low_oslr (fun _ => rfl) | exact Z.low_gslm (by first | rfl | exact Z.kb_some rfl) (fun _ => rfl) | exact .inl rfl | exact .inr ⟨_, rfl⟩ | apply And.intro)); done)))
        | ((first | (with_reducible refine Z.conZ_mz ?_ (csw) ?_) | (with_reducible refine Z.callZ_mk ?_ (csw) ?_)); (focus ((repeat' (first | exact trivial | exact ⟨[], rfl, rfl, rfl⟩ | exact rfl | exact Z.low_nil | exact Z.low_nil2 | exact low_osl (fun _ => rfl) | (refine Z.low_osln ?_ (fun _ => rfl); (simp only [List.length_map]; done)) | exact low_oslr (fun _ => rfl) | exact Z.low_gslm (by first | rfl | exact Z.kb_some rfl) (fun _ => rfl) | exact .inl rfl | exact .inr ⟨_, rfl⟩ | apply And.intro)); done)))
        | ((with_reducible refine eqN_mk2 ?_ ?_); (focus (exact Z.kb_some rfl)))
        | ((with_reducible apply ex_and); exact rfl)
        | with_reducible first | refine Z.drawZ_rule tabOk mixOk ?_ | refine Z.apZ_mk (by kernel_rfl) ?_
        | ((with_reducible refine Z.ConZ.red ?_); (try subst hlb); (apply Z.conZ_all); (focus (repeat (first | exact Z.FK.nil | (apply Z.FK.keep; exact rfl)))); (focus rfl); (focus rfl); (focus (repeat (first | exact trivial | (refine ⟨(fun o ho => (by first | (cases ho; rfl) | (cases ho; exact Z.inL_map fun _ => rfl) | (cases ho; exact Z.inL_mapr fun _ => rfl) | exact Z.inL_gB ho fun _ => rfl)), ?_⟩)))))
        | ((refine ⟨rfl, ?_, rfl⟩); (focus (repeat (first | exact Z.DK.nil | apply Z.DK.cons))))
        | (focus (exact (rfl : Nat.ble _ _ = true))))
      all_goals (try (conv => whnf))
      all_goals try (show Nat.ble _ _ = true; rfl)
      all_goals try (exfalso; rename_i hz; cases hz; done)
      all_goals try (exfalso; (try simp only [LN] at *) <;> omega)
      all_goals first
        | ((refine Z.rnd_rw 4 ((spo [y0] (j + 1)).map cE) rfl rfl ?_ ?_); (focus (exact spo_set hj)); ((refine Z.rndK ((j + 1)) (fun s => [0, 1, 2, 3, 4, 5, 6, 7, 8, 9, 10, 11, 12]) rfl rfl rfl rfl ?_ ?_ ?_ ?_); (focus (repeat' (first | exact trivial | exact Z.map_sub (Z.MapL.ren HM0 fun _ => rfl) rfl | exact Z.it_sub rfl | exact rfl | (rw [List.map_append]; exact rfl) | apply And.intro))); (focus (repeat' (first | exact trivial | exact Z.map_sub (Z.MapL.ren HM0 fun _ => rfl) rfl | exact Z.it_sub rfl | (intro b hb; cases hb; rfl) | (intro b hb; cases hb; subst hlb; rfl) | (intro b hb; cases hb; rw [List.map_append]; rfl) | (intro b hb; cases hb; done) | exact Z.blk_sub rfl rfl (ren_map fun _ => rfl) | exact Z.blk_sub rfl rfl (Z.ren_app (ren_map fun _ => rfl) (ren_map fun _ => rfl)) | exact Z.blk_sub rfl (by first | (rw [List.map_append]; rfl) | (rw [List.map_set]; rfl) | simp only [List.map_append, List.map_cons, List.map_nil, List.map_set]) (ren_map fun _ => rfl) | exact Z.gB_sub rfl rfl (ren_map fun _ => rfl) | exact Z.gB_sub' rfl (by first | rfl | (rw [List.map_append]; rfl) | simp only [List.map_append, List.map_cons, List.map_nil]) (ren_map fun _ => rfl) | apply And.intro))); (focus (((try dsimp only); omega))); ((try dsimp only); omega)))
        | (exfalso; rename_i hz; cases hz; done)
        | (exfalso; (try simp only [LN] at *) <;> omega)
        | (fail)
    repeat' ((conv => whnf); first
      | with_reducible first | refine spB_t ?_
      | ((with_reducible apply spB_cong); (focus (simp only [beq_self_eq_true, bne_self_eq_false, Bool.true_bne, Bool.false_bne, Bool.bne_true, Bool.bne_false, Bool.true_beq, Bool.false_beq, Bool.not_true, Bool.not_false, Bool.not_not, Int.reduceBEq, Int.reduceBNe, Int.reduceLE, Int.reduceLT, Int.reduceEq, decide_true, decide_false]; rfl)))
      | with_reducible first | refine spB_yes (by decide) ?_ | refine spB_no (by decide) ?_ | refine spB_f ?_ | refine spB_not ?_ | refine spB_yes (by assumption) ?_ | refine spB_no (by assumption) ?_
      | (with_reducible refine spB_dec ?_ ?_ <;> intro _ <;> (try (exfalso; first | contradiction | omega | (rename_i hz; refine hz ?_; simp; done) | (rename_i hz; simp at hz; done) | (simp only [LN] at *; omega))))
      | (with_reducible refine spB_beq ?_ ?_ <;> intro _ <;> (try (exfalso; first | contradiction | omega | (rename_i hz; refine hz ?_; simp; done) | (rename_i hz; simp at hz; done) | (simp only [LN] at *; omega))))
      | (with_reducible refine spB_bne ?_ ?_ <;> intro _ <;> (try (exfalso; first | contradiction | omega | (rename_i hz; refine hz ?_; simp; done) | (rename_i hz; simp at hz; done) | (simp only [LN] at *; omega))))
      | (with_reducible refine spB_mk ?_ ?_ <;> intro _ <;> (try (exfalso; first | contradiction | omega | (rename_i hz; refine hz ?_; simp; done) | (rename_i hz; simp at hz; done) | (simp only [LN] at *; omega))))
      | with_reducible first | refine Z.loopZ_unroll tabOk 1 ?_
      | ((with_reducible refine Z.slN_lo 1 ?_ ?_ ?_); (focus rfl); (focus (simp only [List.length_map, List.length_append, List.length_cons, List.length_nil]; omega)))
      | ((with_reducible refine posE_pos ?_ ?_); (focus ((try simp only [LN] at *) <;> omega)))
      | ((with_reducible refine posE_nil ?_ ?_); (focus rfl))
      | ((with_reducible apply rowN_mk); (focus rfl))
      | ((with_reducible apply ixN_lit); (focus (exact rfl)); (focus (exact rfl)))
      | ((with_reducible apply ixN_litp); (focus (exact rfl)); (focus ((try simp only [LN] at *) <;> omega)))
      | ((with_reducible refine eqN_mk2 ?_ ?_); (focus rfl))
      | ((with_reducible refine posN_mk2 ?_ ?_); (focus (first | decide | ((try simp only [LN] at *) <;> omega))))
      | ((with_reducible refine apdE_r ?_); (with_reducible refine aprN.mk ⟨_, rfl, ?_⟩ ?_ ?_ ?_ ?_); (focus ((try simp only [LN] at *) <;> omega)); (focus (first | rfl | (simp; done) | ((try simp only [LN] at *) <;> omega))); (focus (first | exact one_all (by rfl) | exact one_map (fun _ => rfl) | exact one_map2 (fun _ => rfl) | exact one_drop (fun _ => rfl))); (focus ((try simp only [LN] at *) <;> omega)))
      | ((with_reducible refine apdE_k ?_); (with_reducible refine apkN.mk ⟨_, rfl, ?_⟩ ?_); (focus ((try simp only [LN] at *) <;> omega)))
      | with_reducible first | refine apdE_n ?_
      | ((with_reducible refine slE_a ?_ ?_); (focus ((try simp only [LN] at *) <;> omega)))
      | ((with_reducible refine slE_b ?_ ?_); (focus ((try simp only [LN] at *) <;> omega)))
      | ((with_reducible refine slE_split ?_ ?_ ?_); (focus ((try simp only [LN] at *) <;> omega)); (all_goals intro _))
      | ((with_reducible refine apdN.mk ?_ ?_ ?_ ?_ ?_ ?_); (focus (first | rfl | (simp; done))); (focus (first | exact one_all (by rfl) | exact one_map (fun _ => rfl) | exact one_map2 (fun _ => rfl))); (focus ((try simp only [LN] at *) <;> omega)); (focus ((try simp only [LN] at *) <;> omega)); (focus ((try simp only [LN] at *) <;> omega)))
      | with_reducible refine wr_i64 (by first | omega | (simp only [LN] at *; omega)) ?_
      | with_reducible refine wr_u64 (by omega) ?_
      | with_reducible refine wr_u8 (by omega) ?_
      | with_reducible refine wr_u32 (by omega) ?_
      | with_reducible first | refine wr_mk _ rfl ?_
      | ((with_reducible refine ixN_nat ?_ ?_); (focus ((try simp only [LN] at *) <;> omega)))
      | ((with_reducible refine rowN_map ?_ ?_); (focus ((try simp only [LN] at *) <;> omega)); intro x hx)
      | ((with_reducible refine posE_nil (by rfl) ?_))
      | ((with_reducible refine posE_pos (by decide) ?_))
      | with_reducible refine vN_mod (by omega) ?_
      | with_reducible first | refine vN_mk ?_
      | with_reducible refine nzN_mk (by omega) ?_
      | with_reducible refine eqN_dec (by omega) ?_
      | with_reducible first | refine apN_mk (by kernel_rfl) ?_ | refine Z.callZ_in tabOk 13 Try.f22 _ Try.func22 (by kernel_rfl) rfl rfl rfl ?_ | refine Z.callZ_in tabOk 67 Try.f30 _ Try.func30 (by kernel_rfl) rfl rfl rfl ?_ | refine Z.callZ_in tabOk 6 Try.f42 _ Try.func42 (by kernel_rfl) rfl rfl rfl ?_
      | ((first | (with_reducible refine Z.conZ_mz ?_ (wakes_con) ?_) | (with_reducible refine Z.callZ_mk ?_ (wakes_con) ?_) | (with_reducible refine Z.conZ_mz ?_ (crs) ?_) | (with_reducible refine Z.callZ_mk ?_ (crs) ?_) | (with_reducible refine Z.conZ_mz ?_ (che) ?_) | (with_reducible refine Z.callZ_mk ?_ (che) ?_) | (with_reducible refine Z.conZ_mz ?_ (cak) ?_) | (with_reducible refine Z.callZ_mk ?_ (cak) ?_) | (with_reducible refine Z.conZ_mz ?_ (cta) ?_) | (with_reducible refine Z.callZ_mk ?_ (cta) ?_) | (with_reducible refine Z.conZ_mz ?_ (ccs) ?_) | (with_reducible refine Z.callZ_mk ?_ (ccs) ?_) | (with_reducible refine Z.conZ_mz ?_ (cra) ?_) | (with_reducible refine Z.callZ_mk ?_ (cra) ?_) | (with_reducible refine Z.conZ_mz ?_ (cen) ?_) | (with_reducible refine Z.callZ_mk ?_ (cen) ?_) | (with_reducible refine Z.conZ_mz ?_ (cre) ?_) | (with_reducible refine Z.callZ_mk ?_ (cre) ?_)); (focus ((repeat' (first | exact trivial | exact ⟨[], rfl, rfl, rfl⟩ | exact rfl | exact Z.low_nil | exact Z.low_nil2 | exact low_osl (fun _ => rfl) | (refine Z.low_osln ?_ (fun _ => rfl); (simp only [List.length_map]; done)) | exact low_oslr (fun _ => rfl) | exact Z.low_gslm (by first | rfl | exact Z.kb_some rfl) (fun _ => rfl) | exact .inl rfl | exact .inr ⟨_, rfl⟩ | apply And.intro)); done)))
      | ((first | (with_reducible refine Z.conZ_mz ?_ (csn) ?_) | (with_reducible refine Z.callZ_mk ?_ (csn) ?_)); (focus ((repeat' (first | exact trivial | exact ⟨[], rfl, rfl, rfl⟩ | exact rfl | exact Z.low_nil | exact Z.low_nil2 | exact low_osl (fun _ => rfl) | (refine Z.low_osln ?_ (fun _ => rfl); (simp only [List.length_map]; done)) | exact low_oslr (fun _ => rfl) | exact Z.low_gslm (by first | rfl | exact Z.kb_some rfl) (fun _ => rfl) | exact .inl rfl | exact .inr ⟨_, rfl⟩ | apply And.intro)); done)))
      | ((first | (with_reducible refine Z.conZ_mz ?_ (csn3) ?_) | (with_reducible refine Z.callZ_mk ?_ (csn3) ?_)); (focus ((repeat' (first | exact trivial | exact ⟨[], rfl, rfl, rfl⟩ | exact rfl | exact Z.low_nil | exact Z.low_nil2 | exact low_osl (fun _ => rfl) | (refine Z.low_osln ?_ (fun _ => rfl); (simp only [List.length_map]; done)) | exact low_oslr (fun _ => rfl) | exact Z.low_gslm (by first | rfl | exact Z.kb_some rfl) (fun _ => rfl) | exact .inl rfl | exact .inr ⟨_, rfl⟩ | apply And.intro)); done)))
      | ((first | (with_reducible refine Z.conZ_mz ?_ (css) ?_) | (with_reducible refine Z.callZ_mk ?_ (css) ?_)); (focus ((repeat' (first | exact trivial | exact ⟨[], rfl, rfl, rfl⟩ | exact rfl | exact Z.low_nil | exact Z.low_nil2 | exact low_osl (fun _ => rfl) | (refine Z.low_osln ?_ (fun _ => rfl); (simp only [List.length_map]; done)) | exact low_oslr (fun _ => rfl) | exact Z.low_gslm (by first | rfl | exact Z.kb_some rfl) (fun _ => rfl) | exact .inl rfl | exact .inr ⟨_, rfl⟩ | apply And.intro)); done)))
      | ((first | (with_reducible refine Z.conZ_mz ?_ (csw) ?_) | (with_reducible refine Z.callZ_mk ?_ (csw) ?_)); (focus ((repeat' (first | exact trivial | exact ⟨[], rfl, rfl, rfl⟩ | exact rfl | exact Z.low_nil | exact Z.low_nil2 | exact low_osl (fun _ => rfl) | (refine Z.low_osln ?_ (fun _ => rfl); (simp only [List.length_map]; done)) | exact low_oslr (fun _ => rfl) | exact Z.low_gslm (by first | rfl | exact Z.kb_some rfl) (fun _ => rfl) | exact .inl rfl | exact .inr ⟨_, rfl⟩ | apply And.intro)); done)))
      | ((with_reducible refine eqN_mk2 ?_ ?_); (focus (exact Z.kb_some rfl)))
      | ((with_reducible apply ex_and); exact rfl)
      | with_reducible first | refine Z.drawZ_rule tabOk mixOk ?_ | refine Z.apZ_mk (by kernel_rfl) ?_
      | ((with_reducible refine Z.ConZ.red ?_); (try subst hlb); (apply Z.conZ_all); (focus (repeat (first | exact Z.FK.nil | (apply Z.FK.keep; exact rfl)))); (focus rfl); (focus rfl); (focus (repeat (first | exact trivial | (refine ⟨(fun o ho => (by first | (cases ho; rfl) | (cases ho; exact Z.inL_map fun _ => rfl) | (cases ho; exact Z.inL_mapr fun _ => rfl) | exact Z.inL_gB ho fun _ => rfl)), ?_⟩)))))
      | ((refine ⟨rfl, ?_, rfl⟩); (focus (repeat (first | exact Z.DK.nil | apply Z.DK.cons))))
      | (focus (exact (rfl : Nat.ble _ _ = true))))
    all_goals (try (conv => whnf))
    all_goals try (show Nat.ble _ _ = true; rfl)
    all_goals try (exfalso; rename_i hz; cases hz; done)
    all_goals try (exfalso; (try simp only [LN] at *) <;> omega)
    all_goals first
      | ((refine Z.rndK ((i + 1, n1, x1, [y0], r1)) (fun s => [0, 1]) rfl rfl rfl rfl ?_ ?_ ?_ ?_); (focus (repeat' (first | exact trivial | exact Z.map_sub (Z.MapL.ren HM0 fun _ => rfl) rfl | exact Z.it_sub rfl | exact rfl | (rw [List.map_append]; exact rfl) | apply And.intro))); (focus (repeat' (first | exact trivial | exact Z.map_sub (Z.MapL.ren HM0 fun _ => rfl) rfl | exact Z.it_sub rfl | (intro b hb; cases hb; rfl) | (intro b hb; cases hb; subst hlb; rfl) | (intro b hb; cases hb; rw [List.map_append]; rfl) | (intro b hb; cases hb; done) | exact Z.blk_sub rfl rfl (ren_map fun _ => rfl) | exact Z.blk_sub rfl rfl (Z.ren_app (ren_map fun _ => rfl) (ren_map fun _ => rfl)) | exact Z.blk_sub rfl (by first | (rw [List.map_append]; rfl) | (rw [List.map_set]; rfl) | simp only [List.map_append, List.map_cons, List.map_nil, List.map_set]) (ren_map fun _ => rfl) | exact Z.gB_sub rfl rfl (ren_map fun _ => rfl) | exact Z.gB_sub' rfl (by first | rfl | (rw [List.map_append]; rfl) | simp only [List.map_append, List.map_cons, List.map_nil]) (ren_map fun _ => rfl) | apply And.intro))); (focus (exact ⟨by (try dsimp only); omega, by (try dsimp only); (try simp only [List.length_append, List.length_cons, List.length_nil] at *); omega, hu1, by (try dsimp only); omega⟩)); ((try dsimp only); omega))
      | ((refine Z.rnd_bi 1 [[_, _, .ro true 5 ((([y0]).drop 1).map eE), _]] rfl rfl ⟨⟨Z.Imp.refl _, Z.Imp.refl _, Z.Imp.of_eq (congrArg (Ce.ro true 5) (by first | (rw [List.take_of_length_le (by simp), List.map_drop]) | simp)), Z.Imp.refl _, trivial⟩, trivial⟩ ?_); ((refine Z.rndK ((i + 1, n1, x1, ([y0]).drop 1, r1)) (fun s => [0, 1]) rfl rfl rfl rfl ?_ ?_ ?_ ?_); (focus (repeat' (first | exact trivial | exact Z.map_sub (Z.MapL.ren HM0 fun _ => rfl) rfl | exact Z.it_sub rfl | exact rfl | (rw [List.map_append]; exact rfl) | apply And.intro))); (focus (repeat' (first | exact trivial | exact Z.map_sub (Z.MapL.ren HM0 fun _ => rfl) rfl | exact Z.it_sub rfl | (intro b hb; cases hb; rfl) | (intro b hb; cases hb; subst hlb; rfl) | (intro b hb; cases hb; rw [List.map_append]; rfl) | (intro b hb; cases hb; done) | exact Z.blk_sub rfl rfl (ren_map fun _ => rfl) | exact Z.blk_sub rfl rfl (Z.ren_app (ren_map fun _ => rfl) (ren_map fun _ => rfl)) | exact Z.blk_sub rfl (by first | (rw [List.map_append]; rfl) | (rw [List.map_set]; rfl) | simp only [List.map_append, List.map_cons, List.map_nil, List.map_set]) (ren_map fun _ => rfl) | exact Z.gB_sub rfl rfl (ren_map fun _ => rfl) | exact Z.gB_sub' rfl (by first | rfl | (rw [List.map_append]; rfl) | simp only [List.map_append, List.map_cons, List.map_nil]) (ren_map fun _ => rfl) | apply And.intro))); (focus (exact ⟨by (try dsimp only); omega, by (try dsimp only); rw [List.length_drop]; (try simp only [List.length_append, List.length_cons, List.length_nil] at *); omega, tl_num hu1, by (try dsimp only); omega⟩)); ((try dsimp only); omega)))
      | ((refine Z.rndK ((i + 1, n1, x1, ([y0]).drop 1, r1)) (fun s => [0, 1]) rfl rfl rfl rfl ?_ ?_ ?_ ?_); (focus (repeat' (first | exact trivial | exact Z.map_sub (Z.MapL.ren HM0 fun _ => rfl) rfl | exact Z.it_sub rfl | exact rfl | (rw [List.map_append]; exact rfl) | apply And.intro))); (focus (repeat' (first | exact trivial | exact Z.map_sub (Z.MapL.ren HM0 fun _ => rfl) rfl | exact Z.it_sub rfl | (intro b hb; cases hb; rfl) | (intro b hb; cases hb; subst hlb; rfl) | (intro b hb; cases hb; rw [List.map_append]; rfl) | (intro b hb; cases hb; done) | exact Z.blk_sub rfl rfl (ren_map fun _ => rfl) | exact Z.blk_sub rfl rfl (Z.ren_app (ren_map fun _ => rfl) (ren_map fun _ => rfl)) | exact Z.blk_sub rfl (by first | (rw [List.map_append]; rfl) | (rw [List.map_set]; rfl) | simp only [List.map_append, List.map_cons, List.map_nil, List.map_set]) (ren_map fun _ => rfl) | exact Z.gB_sub rfl rfl (ren_map fun _ => rfl) | exact Z.gB_sub' rfl (by first | rfl | (rw [List.map_append]; rfl) | simp only [List.map_append, List.map_cons, List.map_nil]) (ren_map fun _ => rfl) | apply And.intro))); (focus (exact ⟨by (try dsimp only); omega, by (try dsimp only); rw [List.length_drop]; (try simp only [List.length_append, List.length_cons, List.length_nil] at *); omega, tl_num hu1, by (try dsimp only); omega⟩)); ((try dsimp only); omega))
      | (exfalso; rename_i hz; cases hz; done)
      | (exfalso; (try simp only [LN] at *) <;> omega)
      | (fail))
end Go.Proofs.Ytoiadndmbppobaa
