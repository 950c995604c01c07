import Derived.Test.YtoiadndmbppobaaLib3
import Derived.Test.YtoiadndmbppobaaLib5
import Derived.Test.YtoiadndmbppobaaLib4
namespace Go.Proofs.Ytoiadndmbppobaa
open Go Go.RowKit Wx
set_option linter.unusedVariables false
set_option linter.unusedSimpArgs false
set_option maxHeartbeats 4000000
structure El where
  kd : Int
  src : Int
  key : Int
  val : Int
  num : Int
deriving DecidableEq
abbrev eE (x : El) : List RT := [RT.v (.int .i64 x.kd), RT.v (.int .i64 x.src), RT.v (.int .i64 x.key), RT.v (.int .i64 x.val), RT.v (.int .u64 x.num)]
abbrev cE (x : El) : List Ce := [Ce.v (.int .i64 x.kd), Ce.v (.int .i64 x.src), Ce.v (.int .i64 x.key), Ce.v (.int .i64 x.val), Ce.v (.int .u64 x.num)]
/-- A packet. -/
structure Pk where
  kd : Int
  se : Int
  sq : Int
  lim : Int
  e : El
deriving DecidableEq
abbrev eP (x : Pk) : List RT := [RT.v (.int .i64 x.kd), RT.v (.int .u32 x.se), RT.v (.int .u64 x.sq), RT.v (.int .u64 x.lim), RT.v (.int .i64 x.e.kd), RT.v (.int .i64 x.e.src), RT.v (.int .i64 x.e.key), RT.v (.int .i64 x.e.val), RT.v (.int .u64 x.e.num)]
abbrev cP (x : Pk) : List Ce := [Ce.v (.int .i64 x.kd), Ce.v (.int .u32 x.se), Ce.v (.int .u64 x.sq), Ce.v (.int .u64 x.lim), Ce.v (.int .i64 x.e.kd), Ce.v (.int .i64 x.e.src), Ce.v (.int .i64 x.e.key), Ce.v (.int .i64 x.e.val), Ce.v (.int .u64 x.e.num)]
structure Sn where
  n : Int
  b : Int
  q : List El
  l : Int
  d : Bool
structure Rc where
  n : Int
  nx : Int
  bf : List El
  rm : Int
def okE (e : El) : Bool := decide ((e.kd = 1 ∧ (0 ≤ e.src ∧ e.src < 8 ∧ 0 ≤ e.key ∧ e.key < 32) ∧ e.num = 0) ∨ (e.kd = 2 ∧ (e.src = 0 ∧ e.key = 0 ∧ e.val = 0) ∧ 0 < e.num ∧ e.num ≤ 4611686018427387904) ∨ (e.kd = 3 ∧ (e.src = 0 ∧ e.key = 0 ∧ e.val = 0) ∧ e.num = 0))
def okEs : List El → Bool
  | [] => true
  | e :: r => okE e && decide (e.kd = 3 → r = []) && okEs r
theorem okEs_at {l : List El} {i : Nat} {x : El} (h : l[i]? = some x) : okEs (l.drop i) = (okE x && decide (x.kd = 3 → l.length ≤ i + 1) && okEs (l.drop (i + 1))) := by
  rw [drop_cons h, okEs]
  congr 2
  have hl := (List.getElem?_eq_some_iff.1 h).1
  refine decide_eq_decide.2 ⟨fun h1 h2 => ?_, fun h1 h2 => ?_⟩
  · have := h1 h2
    have h3 : (l.drop (i + 1)).length = 0 := by rw [this]; rfl
    simp at h3; omega
  · exact List.drop_eq_nil_of_le (h1 h2)
/-- Is the last one an end? -/
def endsL (l : List El) : Bool := match l[l.length - 1]? with
  | some e => decide (e.kd = 3)
  | none => false
theorem endsL_at {l : List El} {x : El} (h : l[l.length - 1]? = some x) : endsL l = decide (x.kd = 3) := by unfold endsL; rw [h]
theorem endsL_snoc {l : List El} {x : El} : endsL (l ++ [x]) = decide (x.kd = 3) := endsL_at (by simp)
def okS (n b : Int) (q : List El) (l : Int) (d : Bool) : Bool := decide ((1 ≤ n ∧ n ≤ 2147483647) ∧ (1 ≤ b ∧ b ≤ 4611686018427387904) ∧ q.length ≤ 8 ∧ b + (q.length : Int) ≤ 4611686018427387905 ∧ l ≤ 4611686018427387904) && okEs q && (d || !endsL q)
def okR (n nx : Int) (bf : List El) (rm : Int) : Bool := decide ((1 ≤ n ∧ n ≤ 2147483647) ∧ (1 ≤ nx ∧ nx ≤ 4611686018427387905) ∧ (1 ≤ rm ∧ rm ≤ 8) ∧ (bf.length : Int) ≤ rm ∧ (bf.length : Int) < nx) && okEs bf
theorem okS_all {n b l : Int} {q : List El} {d : Bool} (h : okS n b q l d = true) : ((1 ≤ n ∧ n ≤ 2147483647) ∧ (1 ≤ b ∧ b ≤ 4611686018427387904) ∧ q.length ≤ 8 ∧ b + (q.length : Int) ≤ 4611686018427387905 ∧ l ≤ 4611686018427387904) ∧ okEs q = true ∧ (d = true ∨ endsL q = false) := by
  unfold okS at h
  simp only [Bool.and_eq_true, Bool.or_eq_true, Bool.not_eq_true', decide_eq_true_eq] at h
  exact ⟨h.1.1, h.1.2, h.2⟩
theorem okR_all {n nx rm : Int} {bf : List El} (h : okR n nx bf rm = true) : ((1 ≤ n ∧ n ≤ 2147483647) ∧ (1 ≤ nx ∧ nx ≤ 4611686018427387905) ∧ (1 ≤ rm ∧ rm ≤ 8) ∧ (bf.length : Int) ≤ rm ∧ (bf.length : Int) < nx) ∧ okEs bf = true := by
  unfold okR at h
  simp only [Bool.and_eq_true, decide_eq_true_eq] at h
  exact ⟨h.1, h.2⟩
def zS : Sn := ⟨0, 0, [], 0, false⟩
def zR : Rc := ⟨0, 0, [], 0⟩
def zE : El := ⟨0, 0, 0, 0, 0⟩
def putR (n b : Int) (q : List El) (l : Int) (d : Bool) (e : El) : Sn × Int :=
  bif okS n b q l d then bif okE e then bif d then (zS, 241) else if 8 ≤ q.length ∨ b + (q.length : Int) > 4611686018427387904 then (zS, 6) else (⟨n, b, q ++ [e], l, decide (e.kd = 3)⟩, 0) else (zS, 151) else (zS, 240)
/-- The packets for elements from the number s on, up to the limit. -/
def pks (n l : Int) : Int → List El → List Pk
  | _, [] => []
  | s, e :: r => if s ≤ l then ⟨1, n, s, 0, e⟩ :: pks n l (s + 1) r else []
def sendR (n b : Int) (q : List El) (l : Int) (d : Bool) : List Pk × Int := bif okS n b q l d then (pks n l b q, 0) else ([], 240)
def ackOf (n b : Int) (q : List El) (p : Pk) : Prop := p = ⟨2, n, p.sq, p.lim, zE⟩ ∧ b ≤ p.sq ∧ p.sq ≤ b + (q.length : Int) ∧ p.sq ≤ 4611686018427387904 ∧ p.lim ≤ 4611686018427387904
instance (n b : Int) (q : List El) (p : Pk) : Decidable (ackOf n b q p) := by unfold ackOf; infer_instance
def ackedR (n b : Int) (q : List El) (l : Int) (d : Bool) (p : Pk) : Sn × Int :=
  bif okS n b q l d then if ackOf n b q p then (⟨n, p.sq, q.drop (p.sq - b).toNat, max l p.lim, d⟩, 0) else (⟨n, b, q, l, d⟩, 0) else (zS, 240)
def dataOf (n nx : Int) (bf : List El) (rm : Int) (p : Pk) : Prop := p = ⟨1, n, nx, 0, p.e⟩ ∧ nx ≤ 4611686018427387904 ∧ okE p.e = true ∧ (bf.length : Int) < rm ∧ endsL bf = false
instance (n nx : Int) (bf : List El) (rm : Int) (p : Pk) : Decidable (dataOf n nx bf rm p) := by unfold dataOf; infer_instance
def hearR (n nx : Int) (bf : List El) (rm : Int) (p : Pk) : Rc × Int :=
  bif okR n nx bf rm then if dataOf n nx bf rm p then (⟨n, nx + 1, bf ++ [p.e], rm⟩, 0) else (⟨n, nx, bf, rm⟩, 0) else (zR, 240)
def ackR (n nx : Int) (bf : List El) (rm : Int) : Pk × Int :=
  bif okR n nx bf rm then (⟨2, n, nx, min (nx - 1 + (rm - (bf.length : Int))) 4611686018427387904, zE⟩, 0) else (⟨0, 0, 0, 0, zE⟩, 240)
def takeR (n nx : Int) (bf : List El) (rm : Int) : Rc × El × Int :=
  bif okR n nx bf rm then (match bf with
    | [] => (zR, zE, 4)
    | e :: r => (⟨n, nx, r, rm⟩, e, 0)) else (zR, zE, 240)
end Go.Proofs.Ytoiadndmbppobaa
namespace Go.Proofs.Ytoiadndmbppobaa
open Go Go.RowKit Wx
set_option linter.unusedVariables false
set_option linter.unusedSimpArgs false
set_option maxHeartbeats 4000000
theorem checkE_con (e : El) (hu : 0 ≤ e.num) : Con Try.prog 52 [.agg [.v (.int .i64 e.kd), .v (.int .i64 e.src), .v (.int .i64 e.key), .v (.int .i64 e.val), .v (.int .u64 e.num)]] (fun rx rK rt => rx = .val (.int .i64 (bif okE e then 0 else 151)) ∧ rK = [] ∧ rt = 0) := by
  refine Z.con_ofF tabOk 40 Try.f52 _ Try.func52 (by kernel_rfl) rfl rfl rfl rfl ?_
  repeat' ((conv => whnf); first
    | with_reducible first | refine spB_t ?_
    | ((with_reducible apply spB_cong); (focus (simp only [beq_self_eq_true, bne_self_eq_false, Bool.true_bne, Bool.false_bne, Bool.bne_true, Bool.bne_false, Bool.true_beq, Bool.false_beq, Bool.not_true, Bool.not_false, Bool.not_not, Int.reduceBEq, Int.reduceBNe, Int.reduceLE, Int.reduceLT, Int.reduceEq, decide_true, decide_false]; rfl)))
    | with_reducible first | refine spB_no (by decide) ?_ | refine spB_not ?_
    | (with_reducible refine spB_dec ?_ ?_ <;> intro _ <;> (try (exfalso; first | contradiction | omega | (rename_i hz; with_reducible exact absurd rfl hz))))
    | (with_reducible refine spB_beq ?_ ?_ <;> intro _ <;> (try (exfalso; first | contradiction | omega | (rename_i hz; with_reducible exact absurd rfl hz))))
    | (with_reducible refine spB_mk ?_ ?_ <;> intro _ <;> (try (exfalso; first | contradiction | omega | (rename_i hz; with_reducible exact absurd rfl hz))))
    | with_reducible first | refine Z.callZ_in tabOk 21 Try.f63 _ Try.func63 (by kernel_rfl) rfl rfl rfl ?_
    | ((with_reducible apply ex_and); exact rfl))
  all_goals (try (conv => whnf))
  all_goals first
    | ((first | (with_reducible apply Z.retF1)); (focus (exact rfl)); (repeat' (first | exact trivial | (with_reducible apply Z.frz_one) | (with_reducible apply Z.fq_int) | apply And.intro)); (all_goals (try exact (fun _ => none))); all_goals (first | (rw [show okE e = true by (unfold okE; (try simp only [Bool.and_eq_true, Bool.and_eq_false_iff, Bool.and_true, beq_iff_eq, beq_eq_false_iff_ne, bne_iff_ne, Bool.not_eq_true, Bool.not_eq_false, ne_eq, Bool.false_eq_true, or_false] at *); first | exact decide_eq_true (by omega) | exact decide_eq_false (by omega))]; rfl) | (rw [show okE e = false by (unfold okE; (try simp only [Bool.and_eq_true, Bool.and_eq_false_iff, Bool.and_true, beq_iff_eq, beq_eq_false_iff_ne, bne_iff_ne, Bool.not_eq_true, Bool.not_eq_false, ne_eq, Bool.false_eq_true, or_false] at *); first | exact decide_eq_true (by omega) | exact decide_eq_false (by omega))]; rfl)))

theorem row_con (l : List El) (hl : l.length ≤ 9223372036854775807) (hu : ∀ e ∈ l, 0 ≤ e.num) : Con Try.prog 48 [.one (.ro false 5 (l.map eE))] (fun rx rK rt => rx = .val (.bool (okEs l)) ∧ rK = [] ∧ rt = 0) := by
  refine Z.con_ofF tabOk 28 Try.f48 _ Try.func48 (by kernel_rfl) rfl rfl rfl rfl ?_
  repeat' ((conv => whnf); first
    | with_reducible first | refine spB_t ?_)
  all_goals (try (conv => whnf))
  all_goals try (show Nat.ble _ _ = true; rfl)
  refine Z.loopK tabOk (fun zq : Nat => [(7, .val (.int .i64 (zq : Int)))]) (fun zq : Nat => ([] : Z.Kr)) (fun zq => zq ≤ l.length ∧ okEs l = okEs (l.drop zq)) (fun zq => l.length - zq) 0 0 [(0, _), (5, _), (6, _)] ⟨rfl, rfl, rfl, trivial⟩ [] trivial ?_ ?_ rfl rfl ⟨Nat.zero_le _, rfl⟩ ?_
  · repeat' (first | exact trivial | apply And.intro | exact ⟨_, rfl, Z.Imp.refl _⟩)
  · repeat' (first | exact trivial)
  rintro i HINV
  dsimp only at HINV ⊢
  obtain ⟨HI, HO⟩ := HINV
  by_cases hi : i < l.length
  · obtain ⟨x, hx⟩ := getElem?_some' (xs := l) (i := i) hi
    have ce := checkE_con x (hu x (List.mem_of_getElem? hx))
    have hat := okEs_at hx
    cases hok : okE x
    all_goals rw [hok] at ce hat
    all_goals simp only [cond_true, cond_false] at ce
    all_goals (
      repeat' ((conv => whnf); first
        | with_reducible first | refine spB_t ?_
        | ((with_reducible apply spB_cong); (focus (simp only [beq_self_eq_true, bne_self_eq_false, Bool.true_bne, Bool.false_bne, Bool.bne_true, Bool.bne_false, Bool.true_beq, Bool.false_beq, Bool.not_true, Bool.not_false, Bool.not_not, Int.reduceBEq, Int.reduceBNe, Int.reduceLE, Int.reduceLT, Int.reduceEq, decide_true, decide_false]; rfl)))
        | with_reducible first | refine spB_no (by decide) ?_
        | (with_reducible refine spB_dec ?_ ?_ <;> intro _ <;> (try (exfalso; first | contradiction | omega | (rename_i hz; refine hz ?_; simp; done) | (rename_i hz; simp at hz; done) | (simp only [LN] at *; omega))))
        | (with_reducible refine spB_beq ?_ ?_ <;> intro _ <;> (try (exfalso; first | contradiction | omega | (rename_i hz; refine hz ?_; simp; done) | (rename_i hz; simp at hz; done) | (simp only [LN] at *; omega))))
        | with_reducible first | refine Z.rowN_known hx ?_
        | ((with_reducible apply ixN_litp); (focus (exact rfl)); (focus ((try simp only [LN] at *) <;> omega)))
        | with_reducible refine wr_i64 (by first | omega | (simp only [LN] at *; omega)) ?_
        | ((first | (with_reducible refine Z.callZ_mk ?_ (ce) ?_)); (focus ((repeat' (first | exact trivial | exact rfl | apply And.intro)); done))))
      all_goals (try (conv => whnf)))
    all_goals try (show Nat.ble _ _ = true; rfl)
    all_goals first
      | ((refine Z.rndK ((i + 1)) (fun s => []) rfl rfl rfl rfl ?_ ?_ ?_ ?_); (focus (repeat' (first | exact trivial | exact rfl | apply And.intro))); (focus (repeat' (first | exact trivial))); (focus (exact ⟨by (try dsimp only); omega, by (try dsimp only); rw [HO, hat, decide_eq_true (fun h9 : x.kd = 3 => by (try simp only [LN] at *) <;> omega), Bool.true_and, Bool.true_and]⟩)); ((try dsimp only); omega))
      | ((first | (with_reducible apply Z.retF1)); (focus (exact rfl)); (repeat' (first | exact trivial | (with_reducible apply Z.frz_one) | (with_reducible apply Z.fq_bool) | apply And.intro)); (all_goals (try exact (fun _ => none))); all_goals (first | (rw [HO, hat]; rfl) | (rw [HO, hat, decide_eq_false (fun h9 => absurd (h9 (by assumption)) (by (try simp only [LN] at *) <;> omega))]; rfl)))
  have hil : i = l.length := by omega
  repeat' ((conv => whnf); first
    | (with_reducible refine spB_dec ?_ ?_ <;> intro _ <;> (try (exfalso; first | contradiction | omega | (rename_i hz; refine hz ?_; simp; done) | (rename_i hz; simp at hz; done) | (simp only [LN] at *; omega)))))
  all_goals (try (conv => whnf))
  all_goals try (show Nat.ble _ _ = true; rfl)
  all_goals first
    | ((first | (with_reducible apply Z.retF1)); (focus (exact rfl)); (repeat' (first | exact trivial | (with_reducible apply Z.frz_one) | (with_reducible apply Z.fq_bool) | apply And.intro)); (all_goals (try exact (fun _ => none))); all_goals (rw [HO, hil, List.drop_length]; rfl))

theorem ends_con (l : List El) (hl : l.length ≤ 9223372036854775807) : Con Try.prog 49 [.one (.ro false 5 (l.map eE))] (fun rx rK rt => rx = .val (.bool (endsL l)) ∧ rK = [] ∧ rt = 0) := by
  refine Z.con_ofF tabOk 16 Try.f49 _ Try.func49 (by kernel_rfl) rfl rfl rfl rfl ?_
  rcases Nat.eq_zero_or_pos l.length with h0 | h0
  · have he : l = [] := List.length_eq_zero_iff.1 h0
    subst he
    repeat' ((conv => whnf); first
      | with_reducible first | refine spB_no (by decide) ?_)
    all_goals (try (conv => whnf))
    all_goals try (show Nat.ble _ _ = true; rfl)
    all_goals first
      | ((first | (with_reducible apply Z.retF1)); (focus (exact rfl)); (repeat' (first | exact trivial | (with_reducible apply Z.frz_one) | (with_reducible apply Z.fq_bool) | exact rfl | apply And.intro)); (all_goals (try exact (fun _ => none))); all_goals (first | (unfold endsL; simp_all; done)))
  obtain ⟨x, hx⟩ := getElem?_some' (xs := l) (i := l.length - 1) (by omega)
  repeat' ((conv => whnf); first
    | with_reducible first | refine spB_t ?_
    | (with_reducible refine spB_dec ?_ ?_ <;> intro _ <;> (try (exfalso; first | contradiction | omega | (rename_i hz; refine hz ?_; simp; done) | (rename_i hz; simp at hz; done) | (simp only [LN] at *; omega))))
    | ((with_reducible refine ixN_mk (l.length - 1) ?_ ?_ ?_); (focus (first | ((try simp only [LN] at *) <;> omega))); (focus ((try simp only [LN] at *) <;> omega)))
    | with_reducible first | refine Z.rowN_known hx ?_
    | with_reducible refine wr_i64 (by first | omega | (simp only [LN] at *; omega)) ?_)
  all_goals (try (conv => whnf))
  all_goals try (show Nat.ble _ _ = true; rfl)
  all_goals first
    | ((first | (with_reducible apply Z.retF1)); (focus (exact rfl)); (repeat' (first | exact trivial | (with_reducible apply Z.frz_one) | (with_reducible apply Z.fq_bool) | apply And.intro)); (all_goals (try exact (fun _ => none))); all_goals (first | (rw [endsL_at hx]; rfl)))

theorem checkS_con (n b : Int) (q : List El) (l : Int) (d : Bool) (hq : q.length ≤ 9223372036854775807) (hu : ∀ e ∈ q, 0 ≤ e.num) (hb0 : 0 ≤ b) (hl0 : 0 ≤ l) : Con Try.prog 13 [.agg [.v (.int .u32 n), .v (.int .u64 b), .ro false 5 (q.map eE), .v (.int .u64 l), .v (.bool d)]] (fun rx rK rt => rx = .val (.int .i64 (bif okS n b q l d then 0 else 240)) ∧ rK = [] ∧ rt = 0) := by
  refine Z.con_ofF tabOk 50 Try.f13 _ Try.func13 (by kernel_rfl) rfl rfl rfl rfl ?_
  have cr := row_con q hq hu
  have ce2 := ends_con q hq
  have e1 : okS n b q l d = (decide ((1 ≤ n ∧ n ≤ 2147483647) ∧ (1 ≤ b ∧ b ≤ 4611686018427387904) ∧ q.length ≤ 8 ∧ b + (q.length : Int) ≤ 4611686018427387905 ∧ l ≤ 4611686018427387904) && okEs q && (d || !endsL q)) := rfl
  generalize okS n b q l d = K at *
  by_cases hP : ((1 ≤ n ∧ n ≤ 2147483647) ∧ (1 ≤ b ∧ b ≤ 4611686018427387904) ∧ q.length ≤ 8 ∧ b + (q.length : Int) ≤ 4611686018427387905 ∧ l ≤ 4611686018427387904)
  all_goals first | rw [decide_eq_true hP] at e1 | rw [decide_eq_false hP] at e1
  all_goals cases h1 : okEs q <;> cases h2 : endsL q <;> cases d
  all_goals rw [h1, h2] at e1
  all_goals rw [h1] at cr
  all_goals rw [h2] at ce2
  all_goals simp only [Bool.true_and, Bool.and_true, Bool.false_and, Bool.and_false, Bool.or_false, Bool.or_true, Bool.true_or, Bool.false_or, Bool.not_true, Bool.not_false] at e1
  all_goals subst e1
  all_goals (
    repeat' ((conv => whnf); first
      | with_reducible first | refine spB_t ?_
      | ((with_reducible apply spB_cong); (focus (simp only [beq_self_eq_true, bne_self_eq_false, Bool.true_bne, Bool.false_bne, Bool.bne_true, Bool.bne_false, Bool.true_beq, Bool.false_beq, Bool.not_true, Bool.not_false, Bool.not_not, Int.reduceBEq, Int.reduceBNe, Int.reduceLE, Int.reduceLT, Int.reduceEq, decide_true, decide_false]; rfl)))
      | with_reducible first | refine spB_no (by decide) ?_
      | (with_reducible refine spB_dec ?_ ?_ <;> intro _ <;> (try (exfalso; first | contradiction | omega | (rename_i hz; refine hz ?_; simp; done) | (rename_i hz; simp at hz; done) | (simp only [LN] at *; omega))))
      | with_reducible refine wr_u64 (by omega) ?_
      | with_reducible first | refine Z.callZ_in tabOk 9 Try.f46 _ Try.func46 (by kernel_rfl) rfl rfl rfl ?_ | refine Z.callZ_in tabOk 10 Try.f47 _ Try.func47 (by kernel_rfl) rfl rfl rfl ?_
      | ((first | (with_reducible refine Z.callZ_mk ?_ (cr) ?_) | (with_reducible refine Z.callZ_mk ?_ (ce2) ?_)); (focus ((repeat' (first | exact trivial | exact rfl | apply And.intro)); done)))
      | ((with_reducible apply ex_and); exact rfl))
    all_goals (try (conv => whnf)))
  all_goals try (show Nat.ble _ _ = true; rfl)
  all_goals first
    | ((first | (with_reducible apply Z.retF1)); (focus (exact rfl)); (repeat' (first | exact trivial | (with_reducible apply Z.frz_one) | (with_reducible apply Z.fq_int) | exact rfl | apply And.intro)); (all_goals (try exact (fun _ => none))); all_goals (rfl))

theorem checkR_con (n nx : Int) (bf : List El) (rm : Int) (hq : bf.length ≤ 9223372036854775807) (hu : ∀ e ∈ bf, 0 ≤ e.num) (hx0 : 0 ≤ nx) : Con Try.prog 28 [.agg [.v (.int .u32 n), .v (.int .u64 nx), .ro false 5 (bf.map eE), .v (.int .i64 rm)]] (fun rx rK rt => rx = .val (.int .i64 (bif okR n nx bf rm then 0 else 240)) ∧ rK = [] ∧ rt = 0) := by
  refine Z.con_ofF tabOk 51 Try.f28 _ Try.func28 (by kernel_rfl) rfl rfl rfl rfl ?_
  have cr := row_con bf hq hu
  have e1 : okR n nx bf rm = (decide ((1 ≤ n ∧ n ≤ 2147483647) ∧ (1 ≤ nx ∧ nx ≤ 4611686018427387905) ∧ (1 ≤ rm ∧ rm ≤ 8) ∧ (bf.length : Int) ≤ rm ∧ (bf.length : Int) < nx) && okEs bf) := rfl
  generalize okR n nx bf rm = K at *
  by_cases hP : ((1 ≤ n ∧ n ≤ 2147483647) ∧ (1 ≤ nx ∧ nx ≤ 4611686018427387905) ∧ (1 ≤ rm ∧ rm ≤ 8) ∧ (bf.length : Int) ≤ rm ∧ (bf.length : Int) < nx)
  all_goals first | rw [decide_eq_true hP] at e1 | rw [decide_eq_false hP] at e1
  all_goals cases h1 : okEs bf
  all_goals rw [h1] at e1 cr
  all_goals simp only [Bool.true_and, Bool.and_true, Bool.false_and, Bool.and_false] at e1
  all_goals subst e1
  all_goals (
    repeat' ((conv => whnf); first
      | with_reducible first | refine spB_t ?_
      | ((with_reducible apply spB_cong); (focus (simp only [beq_self_eq_true, bne_self_eq_false, Bool.true_bne, Bool.false_bne, Bool.bne_true, Bool.bne_false, Bool.true_beq, Bool.false_beq, Bool.not_true, Bool.not_false, Bool.not_not, Int.reduceBEq, Int.reduceBNe, Int.reduceLE, Int.reduceLT, Int.reduceEq, decide_true, decide_false]; rfl)))
      | with_reducible first | refine spB_no (by decide) ?_
      | (with_reducible refine spB_dec ?_ ?_ <;> intro _ <;> (try (exfalso; first | contradiction | omega | (rename_i hz; refine hz ?_; simp; done) | (rename_i hz; simp at hz; done) | (simp only [LN] at *; omega))))
      | with_reducible refine wr_u64 (by omega) ?_
      | with_reducible first | refine Z.callZ_in tabOk 9 Try.f46 _ Try.func46 (by kernel_rfl) rfl rfl rfl ?_
      | ((first | (with_reducible refine Z.callZ_mk ?_ (cr) ?_)); (focus ((repeat' (first | exact trivial | exact rfl | apply And.intro)); done)))
      | ((with_reducible apply ex_and); exact rfl))
    all_goals (try (conv => whnf)))
  all_goals try (show Nat.ble _ _ = true; rfl)
  all_goals first
    | ((first | (with_reducible apply Z.retF1)); (focus (exact rfl)); (repeat' (first | exact trivial | (with_reducible apply Z.frz_one) | (with_reducible apply Z.fq_int) | exact rfl | apply And.intro)); (all_goals (try exact (fun _ => none))); all_goals (rfl))

end Go.Proofs.Ytoiadndmbppobaa
namespace Go.Proofs.Ytoiadndmbppobaa
open Go Go.RowKit Wx
set_option linter.unusedVariables false
set_option linter.unusedSimpArgs false
set_option maxHeartbeats 4000000
theorem ack_yes {p : Pk} {n : Int} (h : p = ⟨2, n, p.sq, p.lim, zE⟩) : ∃ a c, p = ⟨2, n, a, c, ⟨0, 0, 0, 0, 0⟩⟩ := ⟨_, _, h⟩
theorem app_own {q : List El} {x : El} {n : Nat} {R S : List (List Ce)} (hR : R = q.map cE) (hn : n = q.length) (hS : S = [cE x]) : List.take n R ++ S = (q ++ [x]).map cE := by
  rw [hR, List.take_of_length_le (by simp [hn]), hS, List.map_append]; rfl
theorem ack_no {p : Pk} {n : Int} (h : (p.kd == 2 && (p.se == n && (true && (true && (p.e.kd == 0 && (p.e.src == 0 && (p.e.key == 0 && (p.e.val == 0 && (p.e.num == 0 && true))))))))) = true) : p = ⟨2, n, p.sq, p.lim, zE⟩ := by
  obtain ⟨a, b, c, d, e1, e2, e3, e4, e5⟩ := p
  simp only [Bool.and_eq_true, beq_iff_eq, Bool.true_and, Bool.and_true] at h
  obtain ⟨h1, h2, h3, h4, h5, h6, h7⟩ := h
  subst h1 h2 h3 h4 h5 h6 h7; rfl
theorem dat_no {p : Pk} {n s : Int} (h : (p.kd == 1 && (p.se == n && (p.sq == s && (p.lim == 0 && (true && (true && (true && (true && (true && true))))))))) = true) : p = ⟨1, n, s, 0, p.e⟩ := by
  obtain ⟨a, b, c, d, e⟩ := p
  simp only [Bool.and_eq_true, beq_iff_eq, Bool.true_and, Bool.and_true] at h
  obtain ⟨h1, h2, h3, h4⟩ := h
  subst h1 h2 h3 h4; rfl
theorem dat_yes {p : Pk} {n s : Int} (h : p = ⟨1, n, s, 0, p.e⟩) : ∃ e, p = ⟨1, n, s, 0, e⟩ := ⟨_, h⟩
theorem copied_con (l : List El) (hl : l.length ≤ 1099511627776) : Con Try.prog 56 [.one (.ro false 5 (l.map eE))] (fun rx rK rt => rx = .c (.osl 0 0 l.length (some l.length)) ∧ rK = [(0, some ⟨l.map cE, 5, 33, false⟩)] ∧ rt = 1) := by
  refine Z.con_ofZ tabOk 11 Try.f56 _ Try.func56 (by kernel_rfl) rfl rfl rfl rfl ?_
  repeat' ((conv => whnf); first
    | ((with_reducible refine cpyN.mk ?_ ?_ ?_ ?_); (focus (first | (simp; done))); (focus (first | exact one_map2 (fun _ => rfl))); (focus ((try simp only [LN] at *) <;> omega)))
    | ((with_reducible refine Z.mkN_nat ?_ ?_ ?_ ?_); (focus ((try simp only [LN] at *) <;> omega)); (focus ((try simp only [LN] at *) <;> omega)); (focus ((try simp only [LN] at *) <;> omega))))
  all_goals (try (conv => whnf))
  all_goals try (show Nat.ble _ _ = true; rfl)
  all_goals first
    | (refine ret1b 0 (.c (.osl 0 0 l.length (some l.length))) (l.map cE) 5 33 false _ rfl ?_ rfl (Z.lay_copy (by simp) (by simp) (fun _ => rfl)) (ren_map fun _ => rfl) rfl (own_map fun _ => rfl) ⟨rfl, rfl, rfl⟩; (rw [show l.length = (l.map eE).length by simp]; rfl))

theorem low_drp {q : List El} {k n : Nat} {a : Nat} {R : List (List Ce)} (hR : R = q.map cE) (ha : a = k) (hn : n = q.length - k) : ∃ rows, Ce.ro false 5 ((q.drop k).map eE) = Ce.ro false 5 rows ∧ rows.length = n ∧ ((R.drop a).take n).map (List.map RT.of) = rows.map (List.map some) := by
  subst hR hn ha
  refine ⟨_, rfl, by simp, ?_⟩
  rw [← List.map_drop, List.take_of_length_le (by simp), List.map_map, List.map_map]
  exact List.map_congr_left fun x _ => rfl
theorem put_con (n b : Int) (q : List El) (l : Int) (d : Bool) (e : El) (hq : q.length ≤ 9223372036854775807) (hu : ∀ e ∈ q, 0 ≤ e.num) (hb0 : 0 ≤ b) (hl0 : 0 ≤ l) (he : 0 ≤ e.num) : Con Try.prog 14 [.agg [.v (.int .u32 n), .v (.int .u64 b), .ro false 5 (q.map eE), .v (.int .u64 l), .v (.bool d)], .agg [.v (.int .i64 e.kd), .v (.int .i64 e.src), .v (.int .i64 e.key), .v (.int .i64 e.val), .v (.int .u64 e.num)]] (fun rx rK rt => rx = .tup [.agg [.v (.int .u32 (putR n b q l d e).1.n), .v (.int .u64 (putR n b q l d e).1.b), .ro true 5 ((putR n b q l d e).1.q.map eE), .v (.int .u64 (putR n b q l d e).1.l), .v (.bool (putR n b q l d e).1.d)], .one (.v (.int .i64 (putR n b q l d e).2))] ∧ rK = [] ∧ rt = 0) := by
  refine Z.con_ofF tabOk 11 Try.f14 _ Try.func14 (by kernel_rfl) rfl rfl rfl rfl ?_
  have ck := checkS_con n b q l d hq hu hb0 hl0
  have ce := checkE_con e he
  unfold putR
  cases hk : okS n b q l d
  all_goals rw [hk] at ck
  all_goals simp only [cond_true, cond_false] at ck ⊢
  rotate_left
  · have hs := okS_all hk
    have cc := copied_con q (by omega)
    cases hoe : okE e
    all_goals rw [hoe] at ce
    all_goals simp only [cond_true, cond_false] at ce ⊢
    rotate_left
    · cases d
      all_goals simp only [cond_true, cond_false]
      · by_cases hf : 8 ≤ q.length ∨ b + (q.length : Int) > 4611686018427387904
        · rw [if_pos hf]
          repeat' ((conv => whnf); first
            | with_reducible first | refine spB_t ?_
            | ((with_reducible apply spB_cong); (focus (simp only [beq_self_eq_true, bne_self_eq_false, Bool.true_bne, Bool.false_bne, Bool.bne_true, Bool.bne_false, Bool.true_beq, Bool.false_beq, Bool.not_true, Bool.not_false, Bool.not_not, Int.reduceBEq, Int.reduceBNe, Int.reduceLE, Int.reduceLT, Int.reduceEq, decide_true, decide_false]; rfl)))
            | with_reducible first | refine spB_no (by decide) ?_
            | (with_reducible refine spB_dec ?_ ?_ <;> intro _ <;> (try (exfalso; first | contradiction | omega | (rename_i hz; refine hz ?_; simp; done) | (rename_i hz; simp at hz; done) | (simp only [LN] at *; omega))))
            | with_reducible refine wr_u64 (by omega) ?_
            | with_reducible first | refine Z.callZ_in tabOk 25 Try.f50 _ Try.func50 (by kernel_rfl) rfl rfl rfl ?_ | refine Z.callZ_in tabOk 43 Try.f51 _ Try.func51 (by kernel_rfl) rfl rfl rfl ?_ | refine Z.callZ_in tabOk 10 Try.f47 _ Try.func47 (by kernel_rfl) rfl rfl rfl ?_
            | ((first | (with_reducible refine Z.callZ_mk ?_ (ce) ?_) | (with_reducible refine Z.callZ_mk ?_ (ck) ?_) | (with_reducible refine Z.callZ_mk ?_ (cc) ?_)); (focus ((repeat' (first | exact trivial | exact rfl | apply And.intro)); done)))
            | ((with_reducible apply ex_and); exact rfl))
          all_goals (try (conv => whnf))
          all_goals try (show Nat.ble _ _ = true; rfl)
          all_goals first
            | ((first | (with_reducible apply Z.retF2)); (focus (exact rfl)); (repeat' (first | exact trivial | (with_reducible apply Z.frz_one) | (with_reducible apply Z.frz_agg) | (with_reducible apply Z.fq_int) | (with_reducible apply Z.fq_bool) | (exact Z.frz_nil) | exact rfl | apply And.intro)); (all_goals (try exact (fun _ => none))); all_goals (first | (simp; done)))
        · rw [if_neg hf]
          repeat' ((conv => whnf); first
            | ((with_reducible apply spB_cong); (focus (simp only [beq_self_eq_true, bne_self_eq_false, Bool.true_bne, Bool.false_bne, Bool.bne_true, Bool.bne_false, Bool.true_beq, Bool.false_beq, Bool.not_true, Bool.not_false, Bool.not_not, Int.reduceBEq, Int.reduceBNe, Int.reduceLE, Int.reduceLT, Int.reduceEq, decide_true, decide_false]; rfl)))
            | with_reducible first | refine spB_no (by decide) ?_
            | (with_reducible refine spB_dec ?_ ?_ <;> intro _ <;> (try (exfalso; first | contradiction | omega | (rename_i hz; refine hz ?_; simp; done) | (rename_i hz; simp at hz; done) | (simp only [LN] at *; omega))))
            | ((with_reducible refine apdE_k ?_); (with_reducible refine apkN.mk ⟨_, rfl, ?_⟩ ?_); (focus (simp; done)); (with_reducible refine apdN.mk ?_ ?_ ?_ ?_ ?_ ?_); (focus rfl); (focus (exact one_all (by rfl))); (focus (show _ ≤ (List.map _ _).length; simp; done)); (focus ((try simp only [LN] at *) <;> omega)); (focus ((try simp only [LN] at *) <;> omega)))
            | with_reducible refine wr_u64 (by omega) ?_
            | with_reducible first | refine Z.callZ_in tabOk 25 Try.f50 _ Try.func50 (by kernel_rfl) rfl rfl rfl ?_ | refine Z.callZ_in tabOk 43 Try.f51 _ Try.func51 (by kernel_rfl) rfl rfl rfl ?_ | refine Z.callZ_in tabOk 10 Try.f47 _ Try.func47 (by kernel_rfl) rfl rfl rfl ?_
            | ((first | (with_reducible refine Z.callZ_mk ?_ (ce) ?_) | (with_reducible refine Z.callZ_mk ?_ (ck) ?_) | (with_reducible refine Z.callZ_mk ?_ (cc) ?_)); (focus ((repeat' (first | exact trivial | exact rfl | apply And.intro)); done)))
            | ((with_reducible apply ex_and); exact rfl)
            | with_reducible first | refine Z.drawZ_rule tabOk mixOk ?_ | refine Z.apZ_mk (by kernel_rfl) ?_)
          all_goals (try (conv => whnf))
          all_goals try (show Nat.ble _ _ = true; rfl)
          all_goals first
            | ((first | (with_reducible apply Z.retF2)); (focus (exact rfl)); (repeat' (first | exact trivial | (refine Z.fq_osl (l := q ++ [e]) (f := cE) (ty := 33) (bx := false) ?_ ?_ (fun _ => rfl) ?_; (focus (exact congrArg (fun r => some (Blk.mk r 5 33 false)) (app_own (ren_map fun _ => rfl) (by simp) rfl))); (focus (((try simp only [LN] at *) <;> omega))); (focus (exact rfl))) | (with_reducible apply Z.frz_one) | (with_reducible apply Z.frz_agg) | (with_reducible apply Z.fq_int) | (with_reducible apply Z.fq_bool) | exact rfl | apply And.intro)); (all_goals (try exact (fun _ => none))); all_goals (first | (simp; done)))
      · skip
        repeat' ((conv => whnf); first
          | with_reducible first | refine spB_t ?_
          | ((with_reducible apply spB_cong); (focus (simp only [beq_self_eq_true, bne_self_eq_false, Bool.true_bne, Bool.false_bne, Bool.bne_true, Bool.bne_false, Bool.true_beq, Bool.false_beq, Bool.not_true, Bool.not_false, Bool.not_not, Int.reduceBEq, Int.reduceBNe, Int.reduceLE, Int.reduceLT, Int.reduceEq, decide_true, decide_false]; rfl)))
          | with_reducible first | refine spB_no (by decide) ?_
          | with_reducible first | refine Z.callZ_in tabOk 25 Try.f50 _ Try.func50 (by kernel_rfl) rfl rfl rfl ?_ | refine Z.callZ_in tabOk 43 Try.f51 _ Try.func51 (by kernel_rfl) rfl rfl rfl ?_
          | ((first | (with_reducible refine Z.callZ_mk ?_ (ce) ?_) | (with_reducible refine Z.callZ_mk ?_ (ck) ?_) | (with_reducible refine Z.callZ_mk ?_ (cc) ?_)); (focus ((repeat' (first | exact trivial | exact rfl | apply And.intro)); done)))
          | ((with_reducible apply ex_and); exact rfl))
        all_goals (try (conv => whnf))
        all_goals try (show Nat.ble _ _ = true; rfl)
        all_goals first
          | ((first | (with_reducible apply Z.retF2)); (focus (exact rfl)); (repeat' (first | exact trivial | (with_reducible apply Z.frz_one) | (with_reducible apply Z.frz_agg) | (with_reducible apply Z.fq_int) | (with_reducible apply Z.fq_bool) | (exact Z.frz_nil) | exact rfl | apply And.intro)); (all_goals (try exact (fun _ => none))); all_goals (first | (simp; done)))
    · skip
      repeat' ((conv => whnf); first
        | with_reducible first | refine spB_t ?_
        | ((with_reducible apply spB_cong); (focus (simp only [beq_self_eq_true, bne_self_eq_false, Bool.true_bne, Bool.false_bne, Bool.bne_true, Bool.bne_false, Bool.true_beq, Bool.false_beq, Bool.not_true, Bool.not_false, Bool.not_not, Int.reduceBEq, Int.reduceBNe, Int.reduceLE, Int.reduceLT, Int.reduceEq, decide_true, decide_false]; rfl)))
        | with_reducible first | refine spB_no (by decide) ?_
        | with_reducible first | refine Z.callZ_in tabOk 25 Try.f50 _ Try.func50 (by kernel_rfl) rfl rfl rfl ?_ | refine Z.callZ_in tabOk 43 Try.f51 _ Try.func51 (by kernel_rfl) rfl rfl rfl ?_
        | ((first | (with_reducible refine Z.callZ_mk ?_ (ce) ?_) | (with_reducible refine Z.callZ_mk ?_ (ck) ?_) | (with_reducible refine Z.callZ_mk ?_ (cc) ?_)); (focus ((repeat' (first | exact trivial | exact rfl | apply And.intro)); done)))
        | ((with_reducible apply ex_and); exact rfl))
      all_goals (try (conv => whnf))
      all_goals try (show Nat.ble _ _ = true; rfl)
      all_goals first
        | ((first | (with_reducible apply Z.retF2)); (focus (exact rfl)); (repeat' (first | exact trivial | (with_reducible apply Z.frz_one) | (with_reducible apply Z.frz_agg) | (with_reducible apply Z.fq_int) | (with_reducible apply Z.fq_bool) | (exact Z.frz_nil) | exact rfl | apply And.intro)); (all_goals (try exact (fun _ => none))); all_goals (first | (simp; done)))
  · skip
    repeat' ((conv => whnf); first
      | with_reducible first | refine spB_t ?_
      | ((with_reducible apply spB_cong); (focus (simp only [beq_self_eq_true, bne_self_eq_false, Bool.true_bne, Bool.false_bne, Bool.bne_true, Bool.bne_false, Bool.true_beq, Bool.false_beq, Bool.not_true, Bool.not_false, Bool.not_not, Int.reduceBEq, Int.reduceBNe, Int.reduceLE, Int.reduceLT, Int.reduceEq, decide_true, decide_false]; rfl)))
      | with_reducible first | refine Z.callZ_in tabOk 25 Try.f50 _ Try.func50 (by kernel_rfl) rfl rfl rfl ?_
      | ((first | (with_reducible refine Z.callZ_mk ?_ (ck) ?_)); (focus ((repeat' (first | exact trivial | exact rfl | apply And.intro)); done)))
      | ((with_reducible apply ex_and); exact rfl))
    all_goals (try (conv => whnf))
    all_goals try (show Nat.ble _ _ = true; rfl)
    all_goals first
      | ((first | (with_reducible apply Z.retF2)); (focus (exact rfl)); (repeat' (first | exact trivial | (with_reducible apply Z.frz_agg) | (with_reducible apply Z.fq_int) | (with_reducible apply Z.fq_bool) | (exact Z.frz_nil) | exact rfl | apply And.intro)); (all_goals (try exact (fun _ => none))); all_goals (first | (simp; done)))

end Go.Proofs.Ytoiadndmbppobaa
namespace Go.Proofs.Ytoiadndmbppobaa
open Go Go.RowKit Wx
set_option linter.unusedVariables false
set_option linter.unusedSimpArgs false
set_option maxHeartbeats 4000000
theorem take_con (n nx : Int) (bf : List El) (rm : Int) (hq : bf.length ≤ 9223372036854775807) (hu : ∀ e ∈ bf, 0 ≤ e.num) (hx0 : 0 ≤ nx) : Con Try.prog 27 [.agg [.v (.int .u32 n), .v (.int .u64 nx), .ro false 5 (bf.map eE), .v (.int .i64 rm)]] (fun rx rK rt => rx = .tup [.agg [.v (.int .u32 (takeR n nx bf rm).1.n), .v (.int .u64 (takeR n nx bf rm).1.nx), .ro true 5 ((takeR n nx bf rm).1.bf.map eE), .v (.int .i64 (takeR n nx bf rm).1.rm)], .agg [.v (.int .i64 (takeR n nx bf rm).2.1.kd), .v (.int .i64 (takeR n nx bf rm).2.1.src), .v (.int .i64 (takeR n nx bf rm).2.1.key), .v (.int .i64 (takeR n nx bf rm).2.1.val), .v (.int .u64 (takeR n nx bf rm).2.1.num)], .one (.v (.int .i64 (takeR n nx bf rm).2.2))] ∧ rK = [] ∧ rt = 0) := by
  refine Z.con_ofF tabOk 17 Try.f27 _ Try.func27 (by kernel_rfl) rfl rfl rfl rfl ?_
  have ck := checkR_con n nx bf rm hq hu hx0
  unfold takeR
  cases hk : okR n nx bf rm
  all_goals rw [hk] at ck
  all_goals simp only [cond_true, cond_false] at ck ⊢
  · skip
    repeat' ((conv => whnf); first
      | with_reducible first | refine spB_t ?_
      | ((with_reducible apply spB_cong); (focus (simp only [beq_self_eq_true, bne_self_eq_false, Bool.true_bne, Bool.false_bne, Bool.bne_true, Bool.bne_false, Bool.true_beq, Bool.false_beq, Bool.not_true, Bool.not_false, Bool.not_not, Int.reduceBEq, Int.reduceBNe, Int.reduceLE, Int.reduceLT, Int.reduceEq, decide_true, decide_false]; rfl)))
      | with_reducible first | refine Z.callZ_in tabOk 25 Try.f58 _ Try.func58 (by kernel_rfl) rfl rfl rfl ?_
      | ((first | (with_reducible refine Z.callZ_mk ?_ (ck) ?_)); (focus ((repeat' (first | exact trivial | exact rfl | apply And.intro)); done)))
      | ((with_reducible apply ex_and); exact rfl)
      | with_reducible first | refine Z.drawZ_rule tabOk mixOk ?_ | refine Z.apZ_mk (by kernel_rfl) ?_)
    all_goals (try (conv => whnf))
    all_goals try (show Nat.ble _ _ = true; rfl)
    all_goals first
      | ((first | (with_reducible apply Z.retF2)); (focus (exact rfl)); (repeat' (first | exact trivial | (with_reducible apply Z.frz_agg) | (with_reducible apply Z.fq_int) | (exact Z.frz_nil) | exact rfl | apply And.intro)); (all_goals (try exact (fun _ => none))); all_goals (first | (simp; done)))
  have hs := okR_all hk
  have cc := copied_con bf (by omega)
  cases bf with
  | nil =>
    dsimp only
    repeat' ((conv => whnf); first
      | with_reducible first | refine spB_t ?_
      | ((with_reducible apply spB_cong); (focus (simp only [beq_self_eq_true, bne_self_eq_false, Bool.true_bne, Bool.false_bne, Bool.bne_true, Bool.bne_false, Bool.true_beq, Bool.false_beq, Bool.not_true, Bool.not_false, Bool.not_not, Int.reduceBEq, Int.reduceBNe, Int.reduceLE, Int.reduceLT, Int.reduceEq, decide_true, decide_false]; rfl)))
      | with_reducible first | refine spB_yes (by decide) ?_ | refine spB_no (by decide) ?_
      | with_reducible first | refine Z.callZ_in tabOk 25 Try.f58 _ Try.func58 (by kernel_rfl) rfl rfl rfl ?_ | refine Z.callZ_in tabOk 24 Try.f60 _ Try.func60 (by kernel_rfl) rfl rfl rfl ?_
      | ((first | (with_reducible refine Z.callZ_mk ?_ (ck) ?_) | (with_reducible refine Z.callZ_mk ?_ (cc) ?_)); (focus ((repeat' (first | exact trivial | exact rfl | apply And.intro)); done)))
      | ((with_reducible apply ex_and); exact rfl)
      | with_reducible first | refine Z.drawZ_rule tabOk mixOk ?_ | refine Z.apZ_mk (by kernel_rfl) ?_)
    all_goals (try (conv => whnf))
    all_goals try (show Nat.ble _ _ = true; rfl)
    all_goals first
      | ((first | (with_reducible apply Z.retF2)); (focus (exact rfl)); (repeat' (first | exact trivial | (with_reducible apply Z.frz_one) | (with_reducible apply Z.frz_agg) | (with_reducible apply Z.fq_int) | (exact Z.frz_nil) | exact rfl | apply And.intro)); (all_goals (try exact (fun _ => none))); all_goals (first | (simp; done)))
  | cons x r =>
    dsimp only
    cases r with
    | nil =>
      repeat' ((conv => whnf); first
        | ((with_reducible apply spB_cong); (focus (simp only [beq_self_eq_true, bne_self_eq_false, Bool.true_bne, Bool.false_bne, Bool.bne_true, Bool.bne_false, Bool.true_beq, Bool.false_beq, Bool.not_true, Bool.not_false, Bool.not_not, Int.reduceBEq, Int.reduceBNe, Int.reduceLE, Int.reduceLT, Int.reduceEq, decide_true, decide_false]; rfl)))
        | with_reducible first | refine spB_no (by decide) ?_
        | (with_reducible refine spB_beq ?_ ?_ <;> intro _ <;> (try (exfalso; first | contradiction | omega | (rename_i hz; refine hz ?_; simp; done) | (rename_i hz; simp at hz; done) | (simp only [LN] at *; omega))))
        | ((with_reducible refine Z.slN_lo 1 ?_ ?_ ?_); (focus rfl); (focus ((try simp only [LN] at *) <;> omega)))
        | ((with_reducible refine rowN_mk (cE x) ?_ ?_); (focus rfl))
        | ((with_reducible apply ixN_lit); (focus (exact rfl)); (focus (exact rfl)))
        | ((with_reducible refine slE_b ?_ ?_); (focus ((try simp only [LN] at *) <;> omega)))
        | with_reducible first | refine Z.callZ_in tabOk 25 Try.f58 _ Try.func58 (by kernel_rfl) rfl rfl rfl ?_ | refine Z.callZ_in tabOk 24 Try.f60 _ Try.func60 (by kernel_rfl) rfl rfl rfl ?_
        | ((first | (with_reducible refine Z.callZ_mk ?_ (ck) ?_) | (with_reducible refine Z.callZ_mk ?_ (cc) ?_)); (focus ((repeat' (first | exact trivial | exact rfl | apply And.intro)); done)))
        | ((with_reducible apply ex_and); exact rfl)
        | with_reducible first | refine Z.drawZ_rule tabOk mixOk ?_ | refine Z.apZ_mk (by kernel_rfl) ?_)
      all_goals (try (conv => whnf))
      all_goals try (show Nat.ble _ _ = true; rfl)
      all_goals try (exfalso; rename_i hz; cases hz; done)
      all_goals try (exfalso; (try simp only [LN] at *) <;> omega)
      all_goals first
        | ((first | (with_reducible apply Z.retF2)); (focus (exact rfl)); (repeat' (first | exact trivial | (with_reducible apply Z.frz_one) | (with_reducible apply Z.frz_agg) | (with_reducible apply Z.fq_int) | exact rfl | apply And.intro)); (all_goals (try exact (fun _ => none))); all_goals (first | (simp; done)))
    | cons y r =>
      repeat' ((conv => whnf); first
        | ((with_reducible apply spB_cong); (focus (simp only [beq_self_eq_true, bne_self_eq_false, Bool.true_bne, Bool.false_bne, Bool.bne_true, Bool.bne_false, Bool.true_beq, Bool.false_beq, Bool.not_true, Bool.not_false, Bool.not_not, Int.reduceBEq, Int.reduceBNe, Int.reduceLE, Int.reduceLT, Int.reduceEq, decide_true, decide_false]; rfl)))
        | with_reducible first | refine spB_no (by decide) ?_
        | (with_reducible refine spB_beq ?_ ?_ <;> intro _ <;> (try (exfalso; first | contradiction | omega | (rename_i hz; refine hz ?_; simp; done) | (rename_i hz; simp at hz; done) | (simp only [LN] at *; omega))))
        | ((with_reducible refine Z.slN_lo 1 ?_ ?_ ?_); (focus rfl); (focus ((try simp only [LN] at *) <;> omega)))
        | ((with_reducible refine rowN_mk (cE x) ?_ ?_); (focus rfl))
        | ((with_reducible apply ixN_lit); (focus (exact rfl)); (focus (exact rfl)))
        | ((with_reducible refine slE_a ?_ ?_); (focus ((try simp only [LN] at *) <;> omega)))
        | with_reducible first | refine Z.callZ_in tabOk 25 Try.f58 _ Try.func58 (by kernel_rfl) rfl rfl rfl ?_ | refine Z.callZ_in tabOk 24 Try.f60 _ Try.func60 (by kernel_rfl) rfl rfl rfl ?_
        | ((first | (with_reducible refine Z.callZ_mk ?_ (ck) ?_) | (with_reducible refine Z.callZ_mk ?_ (cc) ?_)); (focus ((repeat' (first | exact trivial | exact rfl | apply And.intro)); done)))
        | ((with_reducible apply ex_and); exact rfl)
        | with_reducible first | refine Z.drawZ_rule tabOk mixOk ?_ | refine Z.apZ_mk (by kernel_rfl) ?_)
      all_goals (try (conv => whnf))
      all_goals try (show Nat.ble _ _ = true; rfl)
      all_goals try (exfalso; rename_i hz; cases hz; done)
      all_goals try (exfalso; (try simp only [LN] at *) <;> omega)
      all_goals first
        | ((first | (with_reducible apply Z.retF2)); (focus (exact rfl)); (repeat' (first | exact trivial | (refine Z.fq_oslg (l := x :: y :: r) (f := cE) (ty := 33) (bx := false) ?_ ?_ (fun _ => rfl) ?_; (focus (exact congrArg (fun r => some (Blk.mk r 5 33 false)) (ren_map fun _ => rfl))); (focus ((try simp only [LN] at *) <;> omega)); (focus (simp; done))) | (with_reducible apply Z.frz_one) | (with_reducible apply Z.frz_agg) | (with_reducible apply Z.fq_int) | exact rfl | apply And.intro)); (all_goals (try exact (fun _ => none))); all_goals (first | (simp; done)))

end Go.Proofs.Ytoiadndmbppobaa
namespace Go.Proofs.Ytoiadndmbppobaa
open Go Go.RowKit Wx
set_option linter.unusedVariables false
set_option linter.unusedSimpArgs false
set_option maxHeartbeats 4000000
theorem ack_con (n nx : Int) (bf : List El) (rm : Int) (hq : bf.length ≤ 9223372036854775807) (hu : ∀ e ∈ bf, 0 ≤ e.num) (hx0 : 0 ≤ nx) : Con Try.prog 26 [.agg [.v (.int .u32 n), .v (.int .u64 nx), .ro false 5 (bf.map eE), .v (.int .i64 rm)]] (fun rx rK rt => rx = .tup [.agg [.v (.int .i64 (ackR n nx bf rm).1.kd), .v (.int .u32 (ackR n nx bf rm).1.se), .v (.int .u64 (ackR n nx bf rm).1.sq), .v (.int .u64 (ackR n nx bf rm).1.lim), .v (.int .i64 (ackR n nx bf rm).1.e.kd), .v (.int .i64 (ackR n nx bf rm).1.e.src), .v (.int .i64 (ackR n nx bf rm).1.e.key), .v (.int .i64 (ackR n nx bf rm).1.e.val), .v (.int .u64 (ackR n nx bf rm).1.e.num)], .one (.v (.int .i64 (ackR n nx bf rm).2))] ∧ rK = [] ∧ rt = 0) := by
  refine Z.con_ofF tabOk 30 Try.f26 _ Try.func26 (by kernel_rfl) rfl rfl rfl rfl ?_
  have ck := checkR_con n nx bf rm hq hu hx0
  unfold ackR
  cases hk : okR n nx bf rm
  all_goals rw [hk] at ck
  all_goals simp only [cond_true, cond_false] at ck ⊢
  · skip
    repeat' ((conv => whnf); first
      | with_reducible first | refine spB_t ?_
      | ((with_reducible apply spB_cong); (focus (simp only [beq_self_eq_true, bne_self_eq_false, Bool.true_bne, Bool.false_bne, Bool.bne_true, Bool.bne_false, Bool.true_beq, Bool.false_beq, Bool.not_true, Bool.not_false, Bool.not_not, Int.reduceBEq, Int.reduceBNe, Int.reduceLE, Int.reduceLT, Int.reduceEq, decide_true, decide_false]; rfl)))
      | ((first | (with_reducible refine Z.callZ_mk ?_ (ck) ?_)); (focus ((repeat' (first | exact trivial | exact rfl | apply And.intro)); done))))
    all_goals (try (conv => whnf))
    all_goals try (show Nat.ble _ _ = true; rfl)
    all_goals first
      | ((first | (with_reducible apply Z.retF2)); (focus (exact rfl)); (repeat' (first | exact trivial | (with_reducible apply Z.frz_agg) | (with_reducible apply Z.fq_int) | exact rfl | apply And.intro)); (all_goals (try exact (fun _ => none))); all_goals (first | (simp; done)))
  have hs := okR_all hk
  have hlm : (List.map eE bf).length = bf.length := by simp
  repeat' ((conv => whnf); first
    | ((with_reducible apply spB_cong); (focus (simp only [beq_self_eq_true, bne_self_eq_false, Bool.true_bne, Bool.false_bne, Bool.bne_true, Bool.bne_false, Bool.true_beq, Bool.false_beq, Bool.not_true, Bool.not_false, Bool.not_not, Int.reduceBEq, Int.reduceBNe, Int.reduceLE, Int.reduceLT, Int.reduceEq, decide_true, decide_false]; rfl)))
    | with_reducible first | refine spB_no (by decide) ?_
    | with_reducible refine wr_i64 (by first | omega | (simp only [LN] at *; omega)) ?_
    | with_reducible refine wr_u64 (by omega) ?_
    | ((first | (with_reducible refine Z.callZ_mk ?_ (ck) ?_)); (focus ((repeat' (first | exact trivial | exact rfl | apply And.intro)); done))))
  all_goals (try (conv => whnf))
  all_goals try (show Nat.ble _ _ = true; rfl)
  all_goals first
    | ((first | (with_reducible apply Z.retF2)); (focus (exact rfl)); (repeat' (first | exact trivial | (with_reducible apply Z.frz_one) | (with_reducible apply Z.frz_agg) | (with_reducible apply Z.fq_int) | exact rfl | apply And.intro)); (all_goals (try exact (fun _ => none))); all_goals (first | (simp; done)))

end Go.Proofs.Ytoiadndmbppobaa
namespace Go.Proofs.Ytoiadndmbppobaa
open Go Go.RowKit Wx
set_option linter.unusedVariables false
set_option linter.unusedSimpArgs false
set_option maxHeartbeats 4000000
theorem hear_con (n nx : Int) (bf : List El) (rm : Int) (p : Pk) (hq : bf.length ≤ 9223372036854775807) (hu : ∀ e ∈ bf, 0 ≤ e.num) (hx0 : 0 ≤ nx) (hp1 : 0 ≤ p.sq) (hp2 : 0 ≤ p.e.num) : Con Try.prog 25 [.agg [.v (.int .u32 n), .v (.int .u64 nx), .ro false 5 (bf.map eE), .v (.int .i64 rm)], .agg [.v (.int .i64 p.kd), .v (.int .u32 p.se), .v (.int .u64 p.sq), .v (.int .u64 p.lim), .v (.int .i64 p.e.kd), .v (.int .i64 p.e.src), .v (.int .i64 p.e.key), .v (.int .i64 p.e.val), .v (.int .u64 p.e.num)]] (fun rx rK rt => rx = .tup [.agg [.v (.int .u32 (hearR n nx bf rm p).1.n), .v (.int .u64 (hearR n nx bf rm p).1.nx), .ro true 5 ((hearR n nx bf rm p).1.bf.map eE), .v (.int .i64 (hearR n nx bf rm p).1.rm)], .one (.v (.int .i64 (hearR n nx bf rm p).2))] ∧ rK = [] ∧ rt = 0) := by
  refine Z.con_ofF tabOk 11 Try.f25 _ Try.func25 (by kernel_rfl) rfl rfl rfl rfl ?_
  have ck := checkR_con n nx bf rm hq hu hx0
  have ce2 := ends_con bf hq
  have ce := checkE_con p.e hp2
  unfold hearR
  cases hk : okR n nx bf rm
  all_goals rw [hk] at ck
  all_goals simp only [cond_true, cond_false] at ck ⊢
  · skip
    repeat' ((conv => whnf); first
      | with_reducible first | refine spB_t ?_
      | ((with_reducible apply spB_cong); (focus (simp only [beq_self_eq_true, bne_self_eq_false, Bool.true_bne, Bool.false_bne, Bool.bne_true, Bool.bne_false, Bool.true_beq, Bool.false_beq, Bool.not_true, Bool.not_false, Bool.not_not, Int.reduceBEq, Int.reduceBNe, Int.reduceLE, Int.reduceLT, Int.reduceEq, decide_true, decide_false]; rfl)))
      | with_reducible first | refine Z.callZ_in tabOk 25 Try.f58 _ Try.func58 (by kernel_rfl) rfl rfl rfl ?_
      | ((first | (with_reducible refine Z.callZ_mk ?_ (ck) ?_)); (focus ((repeat' (first | exact trivial | exact rfl | apply And.intro)); done)))
      | ((with_reducible apply ex_and); exact rfl))
    all_goals (try (conv => whnf))
    all_goals try (show Nat.ble _ _ = true; rfl)
    all_goals first
      | ((first | (with_reducible apply Z.retF2)); (focus (exact rfl)); (repeat' (first | exact trivial | (with_reducible apply Z.frz_agg) | (with_reducible apply Z.fq_int) | (exact Z.frz_nil) | exact rfl | apply And.intro)); (all_goals (try exact (fun _ => none))); all_goals (first | (simp; done)))
  have hs := okR_all hk
  have cc := copied_con bf (by omega)
  by_cases ha : p = ⟨1, n, nx, 0, p.e⟩
  · obtain ⟨e, hpe⟩ := dat_yes ha
    clear ha
    subst hpe
    dsimp only at hp1 hp2 ce ⊢
    by_cases hf : dataOf n nx bf rm ⟨1, n, nx, 0, e⟩
    · rw [if_pos hf]
      obtain ⟨_, hf1, hf2, hf3, hf4⟩ := hf
      dsimp only at hf1 hf2 hf3 hf4 ⊢
      rw [hf2] at ce
      rw [hf4] at ce2
      simp only [cond_true] at ce
      repeat' ((conv => whnf); first
        | with_reducible first | refine spB_t ?_
        | ((with_reducible apply spB_cong); (focus (simp only [beq_self_eq_true, bne_self_eq_false, Bool.true_bne, Bool.false_bne, Bool.bne_true, Bool.bne_false, Bool.true_beq, Bool.false_beq, Bool.not_true, Bool.not_false, Bool.not_not, Int.reduceBEq, Int.reduceBNe, Int.reduceLE, Int.reduceLT, Int.reduceEq, decide_true, decide_false]; rfl)))
        | with_reducible first | refine spB_no (by decide) ?_
        | (with_reducible refine spB_dec ?_ ?_ <;> intro _ <;> (try (exfalso; first | contradiction | omega | (rename_i hz; refine hz ?_; simp; done) | (rename_i hz; simp at hz; done) | (simp only [LN] at *; omega))))
        | ((with_reducible refine apdE_k ?_); (with_reducible refine apkN.mk ⟨_, rfl, ?_⟩ ?_); (focus (simp; done)); (with_reducible refine apdN.mk ?_ ?_ ?_ ?_ ?_ ?_); (focus rfl); (focus (exact one_all (by rfl))); (focus (show _ ≤ (List.map _ _).length; simp; done)); (focus ((try simp only [LN] at *) <;> omega)); (focus ((try simp only [LN] at *) <;> omega)))
        | with_reducible refine wr_u64 (by omega) ?_
        | with_reducible first | refine Z.callZ_in tabOk 25 Try.f58 _ Try.func58 (by kernel_rfl) rfl rfl rfl ?_ | refine Z.callZ_in tabOk 68 Try.f59 _ Try.func59 (by kernel_rfl) rfl rfl rfl ?_
        | ((first | (with_reducible refine Z.conZ_mz ?_ (ce2) ?_) | (with_reducible refine Z.callZ_mk ?_ (ce) ?_) | (with_reducible refine Z.callZ_mk ?_ (ck) ?_) | (with_reducible refine Z.callZ_mk ?_ (cc) ?_)); (focus ((repeat' (first | exact trivial | exact rfl | exact low_oslr (fun _ => rfl) | apply And.intro)); done)))
        | ((with_reducible apply ex_and); exact rfl)
        | with_reducible first | refine Z.drawZ_rule tabOk mixOk ?_ | refine Z.apZ_mk (by kernel_rfl) ?_)
      all_goals (try (conv => whnf))
      all_goals try (show Nat.ble _ _ = true; rfl)
      all_goals try (exfalso; rename_i hz; cases hz; done)
      all_goals try (exfalso; (try simp only [LN] at *) <;> omega)
      all_goals first
        | ((first | (with_reducible apply Z.retF2)); (focus (exact rfl)); (repeat' (first | exact trivial | (refine Z.fq_osl (l := bf ++ [e]) (f := cE) (ty := 33) (bx := false) ?_ ?_ (fun _ => rfl) ?_; (focus (exact congrArg (fun r => some (Blk.mk r 5 33 false)) (app_own (ren_map fun _ => rfl) (by simp) rfl))); (focus (((try simp only [LN] at *) <;> omega))); (focus (exact rfl))) | (with_reducible apply Z.frz_one) | (with_reducible apply Z.frz_agg) | (with_reducible apply Z.fq_int) | exact rfl | apply And.intro)); (all_goals (try exact (fun _ => none))); all_goals (first | (simp; done)))
    · rw [if_neg hf]
      cases hok : okE e <;> cases hen : endsL bf
      all_goals rw [hok] at ce
      all_goals rw [hen] at ce2
      all_goals simp only [cond_true, cond_false] at ce
      all_goals (
        repeat' ((conv => whnf); first
          | with_reducible first | refine spB_t ?_
          | ((with_reducible apply spB_cong); (focus (simp only [beq_self_eq_true, bne_self_eq_false, Bool.true_bne, Bool.false_bne, Bool.bne_true, Bool.bne_false, Bool.true_beq, Bool.false_beq, Bool.not_true, Bool.not_false, Bool.not_not, Int.reduceBEq, Int.reduceBNe, Int.reduceLE, Int.reduceLT, Int.reduceEq, decide_true, decide_false]; rfl)))
          | with_reducible first | refine spB_no (by decide) ?_
          | (with_reducible refine spB_dec ?_ ?_ <;> intro _ <;> (try (exfalso; first | contradiction | omega | (rename_i hz; refine hz ?_; simp; done) | (rename_i hz; simp at hz; done) | (simp only [LN] at *; omega))))
          | ((with_reducible refine apdE_k ?_); (with_reducible refine apkN.mk ⟨_, rfl, ?_⟩ ?_); (focus (simp; done)); (with_reducible refine apdN.mk ?_ ?_ ?_ ?_ ?_ ?_); (focus rfl); (focus (exact one_all (by rfl))); (focus (show _ ≤ (List.map _ _).length; simp; done)); (focus ((try simp only [LN] at *) <;> omega)); (focus ((try simp only [LN] at *) <;> omega)))
          | with_reducible refine wr_u64 (by omega) ?_
          | with_reducible first | refine Z.callZ_in tabOk 25 Try.f58 _ Try.func58 (by kernel_rfl) rfl rfl rfl ?_ | refine Z.callZ_in tabOk 68 Try.f59 _ Try.func59 (by kernel_rfl) rfl rfl rfl ?_
          | ((first | (with_reducible refine Z.conZ_mz ?_ (ce2) ?_) | (with_reducible refine Z.callZ_mk ?_ (ce) ?_) | (with_reducible refine Z.callZ_mk ?_ (ck) ?_) | (with_reducible refine Z.callZ_mk ?_ (cc) ?_)); (focus ((repeat' (first | exact trivial | exact rfl | exact low_oslr (fun _ => rfl) | apply And.intro)); done)))
          | ((with_reducible apply ex_and); exact rfl)
          | with_reducible first | refine Z.drawZ_rule tabOk mixOk ?_ | refine Z.apZ_mk (by kernel_rfl) ?_)
        all_goals (try (conv => whnf)))
      all_goals try (show Nat.ble _ _ = true; rfl)
      all_goals first
        | ((first | (with_reducible apply Z.retF2)); (focus (exact rfl)); (repeat' (first | exact trivial | (refine Z.fq_osl (l := bf) (f := cE) (ty := 33) (bx := false) ?_ ?_ (fun _ => rfl) ?_; (focus (exact congrArg (fun r => some (Blk.mk r 5 33 false)) (ren_map fun _ => rfl))); (focus (((try simp only [LN] at *) <;> omega))); (focus (exact rfl))) | (with_reducible apply Z.frz_one) | (with_reducible apply Z.frz_agg) | (with_reducible apply Z.fq_int) | exact rfl | apply And.intro)); (all_goals (try exact (fun _ => none))); all_goals (first | (simp; done)))
        | (exfalso; refine hf ⟨rfl, ?_, hok, ?_, hen⟩; (focus ((try dsimp only); (try simp only [LN] at *) <;> omega)); ((try dsimp only); (try simp only [LN] at *) <;> omega))
  · have hf : ¬ dataOf n nx bf rm p := fun h => ha h.1
    rw [if_neg hf]
    repeat' ((conv => whnf); first
      | with_reducible first | refine spB_t ?_
      | ((with_reducible apply spB_cong); (focus (simp only [beq_self_eq_true, bne_self_eq_false, Bool.true_bne, Bool.false_bne, Bool.bne_true, Bool.bne_false, Bool.true_beq, Bool.false_beq, Bool.not_true, Bool.not_false, Bool.not_not, Int.reduceBEq, Int.reduceBNe, Int.reduceLE, Int.reduceLT, Int.reduceEq, decide_true, decide_false]; rfl)))
      | with_reducible first | refine spB_no (by decide) ?_ | refine spB_not ?_
      | (with_reducible refine spB_dec ?_ ?_ <;> intro _ <;> (try (exfalso; first | contradiction | omega | (rename_i hz; refine hz ?_; simp; done) | (rename_i hz; simp at hz; done) | (simp only [LN] at *; omega))))
      | (with_reducible refine spB_bne ?_ ?_ <;> intro _ <;> (try (exfalso; first | contradiction | omega | (rename_i hz; refine hz ?_; simp; done) | (rename_i hz; simp at hz; done) | (simp only [LN] at *; omega))))
      | (with_reducible refine spB_mk ?_ ?_ <;> intro _ <;> (try (exfalso; first | contradiction | omega | (rename_i hz; refine hz ?_; simp; done) | (rename_i hz; simp at hz; done) | (simp only [LN] at *; omega))))
      | ((with_reducible refine apdE_k ?_); (with_reducible refine apkN.mk ⟨_, rfl, ?_⟩ ?_); (focus ((try simp only [LN] at *) <;> omega)))
      | with_reducible first | refine Z.callZ_in tabOk 25 Try.f58 _ Try.func58 (by kernel_rfl) rfl rfl rfl ?_ | refine Z.callZ_in tabOk 68 Try.f59 _ Try.func59 (by kernel_rfl) rfl rfl rfl ?_
      | ((first | (with_reducible refine Z.conZ_mz ?_ (ce2) ?_) | (with_reducible refine Z.callZ_mk ?_ (ce) ?_) | (with_reducible refine Z.callZ_mk ?_ (ck) ?_) | (with_reducible refine Z.callZ_mk ?_ (cc) ?_)); (focus ((repeat' (first | exact trivial | exact rfl | exact low_oslr (fun _ => rfl) | apply And.intro)); done)))
      | ((with_reducible apply ex_and); exact rfl)
      | with_reducible first | refine Z.drawZ_rule tabOk mixOk ?_ | refine Z.apZ_mk (by kernel_rfl) ?_)
    all_goals (try (conv => whnf))
    all_goals try (show Nat.ble _ _ = true; rfl)
    all_goals first
      | ((first | (with_reducible apply Z.retF2)); (focus (exact rfl)); (repeat' (first | exact trivial | (refine Z.fq_osl (l := bf) (f := cE) (ty := 33) (bx := false) ?_ ?_ (fun _ => rfl) ?_; (focus (exact congrArg (fun r => some (Blk.mk r 5 33 false)) (ren_map fun _ => rfl))); (focus (((try simp only [LN] at *) <;> omega))); (focus (exact rfl))) | (with_reducible apply Z.frz_one) | (with_reducible apply Z.frz_agg) | (with_reducible apply Z.fq_int) | exact rfl | apply And.intro)); (all_goals (try exact (fun _ => none))); all_goals (first | (simp; done)))
      | (exfalso; exact ha (dat_no (by assumption)))

end Go.Proofs.Ytoiadndmbppobaa
namespace Go.Proofs.Ytoiadndmbppobaa
open Go Go.RowKit Wx
set_option linter.unusedVariables false
set_option linter.unusedSimpArgs false
set_option maxHeartbeats 4000000
theorem acked_con (n b : Int) (q : List El) (l : Int) (d : Bool) (p : Pk) (hq : q.length ≤ 9223372036854775807) (hu : ∀ e ∈ q, 0 ≤ e.num) (hb0 : 0 ≤ b) (hl0 : 0 ≤ l) (hp1 : 0 ≤ p.sq) (hp2 : 0 ≤ p.lim) : Con Try.prog 19 [.agg [.v (.int .u32 n), .v (.int .u64 b), .ro false 5 (q.map eE), .v (.int .u64 l), .v (.bool d)], .agg [.v (.int .i64 p.kd), .v (.int .u32 p.se), .v (.int .u64 p.sq), .v (.int .u64 p.lim), .v (.int .i64 p.e.kd), .v (.int .i64 p.e.src), .v (.int .i64 p.e.key), .v (.int .i64 p.e.val), .v (.int .u64 p.e.num)]] (fun rx rK rt => rx = .tup [.agg [.v (.int .u32 (ackedR n b q l d p).1.n), .v (.int .u64 (ackedR n b q l d p).1.b), .ro true 5 ((ackedR n b q l d p).1.q.map eE), .v (.int .u64 (ackedR n b q l d p).1.l), .v (.bool (ackedR n b q l d p).1.d)], .one (.v (.int .i64 (ackedR n b q l d p).2))] ∧ rK = [] ∧ rt = 0) := by
  refine Z.con_ofF tabOk 11 Try.f19 _ Try.func19 (by kernel_rfl) rfl rfl rfl rfl ?_
  have ck := checkS_con n b q l d hq hu hb0 hl0
  unfold ackedR
  cases hk : okS n b q l d
  all_goals rw [hk] at ck
  all_goals simp only [cond_true, cond_false] at ck ⊢
  · skip
    repeat' ((conv => whnf); first
      | with_reducible first | refine spB_t ?_
      | ((with_reducible apply spB_cong); (focus (simp only [beq_self_eq_true, bne_self_eq_false, Bool.true_bne, Bool.false_bne, Bool.bne_true, Bool.bne_false, Bool.true_beq, Bool.false_beq, Bool.not_true, Bool.not_false, Bool.not_not, Int.reduceBEq, Int.reduceBNe, Int.reduceLE, Int.reduceLT, Int.reduceEq, decide_true, decide_false]; rfl)))
      | with_reducible first | refine spB_yes (by decide) ?_ | refine spB_no (by decide) ?_ | refine spB_f ?_ | refine spB_not ?_ | refine spB_yes (by assumption) ?_ | refine spB_no (by assumption) ?_
      | (with_reducible refine spB_dec ?_ ?_ <;> intro _ <;> (try (exfalso; first | contradiction | omega | (rename_i hz; refine hz ?_; simp; done) | (rename_i hz; simp at hz; done) | (simp only [LN] at *; omega))))
      | (with_reducible refine spB_beq ?_ ?_ <;> intro _ <;> (try (exfalso; first | contradiction | omega | (rename_i hz; refine hz ?_; simp; done) | (rename_i hz; simp at hz; done) | (simp only [LN] at *; omega))))
      | (with_reducible refine spB_bne ?_ ?_ <;> intro _ <;> (try (exfalso; first | contradiction | omega | (rename_i hz; refine hz ?_; simp; done) | (rename_i hz; simp at hz; done) | (simp only [LN] at *; omega))))
      | (with_reducible refine spB_mk ?_ ?_ <;> intro _ <;> (try (exfalso; first | contradiction | omega | (rename_i hz; refine hz ?_; simp; done) | (rename_i hz; simp at hz; done) | (simp only [LN] at *; omega))))
      | ((with_reducible apply rowN_mk); (focus rfl))
      | ((with_reducible apply ixN_lit); (focus (exact rfl)); (focus (exact rfl)))
      | ((with_reducible apply ixN_litp); (focus (exact rfl)); (focus ((try simp only [LN] at *) <;> omega)))
      | ((with_reducible refine eqN_mk2 ?_ ?_); (focus rfl))
      | ((with_reducible refine posN_mk2 ?_ ?_); (focus (first | decide | ((try simp only [LN] at *) <;> omega))))
      | ((with_reducible refine slE_a ?_ ?_); (focus ((try simp only [LN] at *) <;> omega)))
      | ((with_reducible refine slE_b ?_ ?_); (focus ((try simp only [LN] at *) <;> omega)))
      | ((with_reducible refine slE_split ?_ ?_ ?_); (focus ((try simp only [LN] at *) <;> omega)); (all_goals intro _))
      | with_reducible refine wr_i64 (by first | omega | (simp only [LN] at *; omega)) ?_
      | with_reducible refine wr_u64 (by omega) ?_
      | with_reducible refine wr_u8 (by omega) ?_
      | with_reducible refine wr_u32 (by omega) ?_
      | with_reducible first | refine wr_mk _ rfl ?_
      | ((with_reducible refine ixN_nat ?_ ?_); (focus ((try simp only [LN] at *) <;> omega)))
      | ((with_reducible refine rowN_map ?_ ?_); (focus ((try simp only [LN] at *) <;> omega)); intro x hx)
      | with_reducible refine eqN_dec (by omega) ?_
      | with_reducible first | refine apN_mk (by kernel_rfl) ?_ | refine Z.callZ_in tabOk 25 Try.f50 _ Try.func50 (by kernel_rfl) rfl rfl rfl ?_ | refine Z.callZ_in tabOk 76 Try.f55 _ Try.func55 (by kernel_rfl) rfl rfl rfl ?_ | refine Z.callZ_in tabOk 10 Try.f47 _ Try.func47 (by kernel_rfl) rfl rfl rfl ?_
      | ((first | (with_reducible refine Z.conZ_mz ?_ (ck) ?_) | (with_reducible refine Z.callZ_mk ?_ (ck) ?_)); (focus ((repeat' (first | exact trivial | (refine low_drp (ren_map fun _ => rfl) ?_ ?_; (focus (simp; done)); (simp; done)) | exact rfl | exact Z.low_nil | exact Z.low_nil2 | exact low_osl (fun _ => rfl) | (refine Z.low_osln ?_ (fun _ => rfl); (simp only [List.length_map]; done)) | exact low_oslr (fun _ => rfl) | exact Z.low_gslm (by first | rfl | exact Z.kb_some rfl) (fun _ => rfl) | exact .inl rfl | exact .inr ⟨_, rfl⟩ | apply And.intro)); done)))
      | ((first | (with_reducible refine Z.conZ_mz ?_ (cc) ?_) | (with_reducible refine Z.callZ_mk ?_ (cc) ?_)); (focus ((repeat' (first | exact trivial | (refine low_drp (ren_map fun _ => rfl) ?_ ?_; (focus (simp; done)); (simp; done)) | exact rfl | exact Z.low_nil | exact Z.low_nil2 | exact low_osl (fun _ => rfl) | (refine Z.low_osln ?_ (fun _ => rfl); (simp only [List.length_map]; done)) | exact low_oslr (fun _ => rfl) | exact Z.low_gslm (by first | rfl | exact Z.kb_some rfl) (fun _ => rfl) | exact .inl rfl | exact .inr ⟨_, rfl⟩ | apply And.intro)); done)))
      | ((first | (with_reducible refine Z.conZ_mz ?_ (cc2) ?_) | (with_reducible refine Z.callZ_mk ?_ (cc2) ?_)); (focus ((repeat' (first | exact trivial | (refine low_drp (ren_map fun _ => rfl) ?_ ?_; (focus (simp; done)); (simp; done)) | exact rfl | exact Z.low_nil | exact Z.low_nil2 | exact low_osl (fun _ => rfl) | (refine Z.low_osln ?_ (fun _ => rfl); (simp only [List.length_map]; done)) | exact low_oslr (fun _ => rfl) | exact Z.low_gslm (by first | rfl | exact Z.kb_some rfl) (fun _ => rfl) | exact .inl rfl | exact .inr ⟨_, rfl⟩ | apply And.intro)); done)))
      | ((with_reducible refine eqN_mk2 ?_ ?_); (focus (exact Z.kb_some rfl)))
      | ((with_reducible apply ex_and); exact rfl)
      | with_reducible first | refine Z.drawZ_rule tabOk mixOk ?_ | refine Z.apZ_mk (by kernel_rfl) ?_
      | ((with_reducible refine Z.ConZ.red ?_); (try subst hlb); (apply Z.conZ_all); (focus (repeat (first | exact Z.FK.nil | (apply Z.FK.keep; exact rfl)))); (focus rfl); (focus rfl); (focus (repeat (first | exact trivial | (refine ⟨(fun o ho => (by first | (cases ho; rfl) | (cases ho; exact Z.inL_map fun _ => rfl) | (cases ho; exact Z.inL_mapr fun _ => rfl) | exact Z.inL_gB ho fun _ => rfl)), ?_⟩)))))
      | ((refine ⟨rfl, ?_, rfl⟩); (focus (repeat (first | exact Z.DK.nil | apply Z.DK.cons))))
      | (focus (exact (rfl : Nat.ble _ _ = true))))
    all_goals (try (conv => whnf))
    all_goals try (show Nat.ble _ _ = true; rfl)
    all_goals first
      | ((first | (with_reducible apply Z.retF1) | (with_reducible apply Z.retF2) | (with_reducible apply Z.retF0)); (focus (exact rfl)); (repeat' (first | exact trivial | (with_reducible apply Z.frz_one) | (with_reducible apply Z.frz_agg) | (with_reducible apply Z.fq_int) | (with_reducible apply Z.fq_bool) | (exact Z.frz_nil) | (exact Z.frz_osl0 rfl rfl rfl) | (with_reducible apply Z.fq_nil) | (with_reducible apply Z.fq_ro) | ((with_reducible apply Z.fq_gsl); (focus (first | rfl | exact Z.isB_map _ | exact Z.gB_snoc.symm)); (focus (exact fun _ => rfl))) | ((with_reducible apply Z.fq_osl); (focus (exact rfl)); (focus (first | exact rfl | (simp only [List.length_map, Nat.zero_add]; done) | ((try simp only [LN] at *) <;> omega))); (focus (exact fun _ => rfl))) | ((with_reducible apply Z.fq_src); (focus (exact rfl)); (focus (first | exact rfl | (simp only [List.length_map, Nat.zero_add]; done) | ((try simp only [LN] at *) <;> omega))); (focus (exact fun _ => rfl))) | exact rfl | ((apply Z.fq_osl); (focus (exact rfl)); (focus (first | exact rfl | (simp only [List.length_map, Nat.zero_add]; done) | ((try simp only [LN] at *) <;> omega))); (focus (exact fun _ => rfl))) | ((apply Z.fq_src); (focus (exact rfl)); (focus (first | exact rfl | (simp only [List.length_map, Nat.zero_add]; done) | ((try simp only [LN] at *) <;> omega))); (focus (exact fun _ => rfl))) | (apply Z.fq_ro) | (apply Z.fq_int) | (apply Z.fq_bool) | apply And.intro)); (all_goals (try exact (fun _ => none))); all_goals (first | rfl | (simp; done)))
      | (exfalso; rename_i hz; cases hz; done)
      | (exfalso; (try simp only [LN] at *) <;> omega)
      | (fail)
  have hs := okS_all hk
  have cc := copied_con q (by omega)
  by_cases ha : p = ⟨2, n, p.sq, p.lim, zE⟩
  · obtain ⟨a, c, hpe⟩ := ack_yes ha
    clear ha
    subst hpe
    dsimp only at hp1 hp2 ⊢
    by_cases hf : ackOf n b q ⟨2, n, a, c, ⟨0, 0, 0, 0, 0⟩⟩
    · rw [if_pos hf]
      obtain ⟨_, hf1, hf2, hf3, hf4⟩ := hf
      dsimp only at hf1 hf2 hf3 hf4 ⊢
      obtain ⟨k, hk2⟩ := Int.eq_ofNat_of_zero_le (show 0 ≤ a - b by omega)
      have hka : a = b + (k : Int) := by omega
      subst hka
      have e1 : (b + (k : Int) - b).toNat = k := by omega
      rw [e1]
      have cc2 := copied_con (q.drop k) (by rw [List.length_drop]; omega)
      rcases Nat.lt_or_ge k q.length with hkl | hkl
      rotate_left
      · have e2 : q.drop k = [] := List.drop_eq_nil_of_le hkl
        have hkq : k = q.length := by omega
        rw [e2] at cc2 ⊢
        repeat' ((conv => whnf); first
          | with_reducible first | refine spB_t ?_
          | ((with_reducible apply spB_cong); (focus (simp only [beq_self_eq_true, bne_self_eq_false, Bool.true_bne, Bool.false_bne, Bool.bne_true, Bool.bne_false, Bool.true_beq, Bool.false_beq, Bool.not_true, Bool.not_false, Bool.not_not, Int.reduceBEq, Int.reduceBNe, Int.reduceLE, Int.reduceLT, Int.reduceEq, decide_true, decide_false]; rfl)))
          | with_reducible first | refine spB_yes (by decide) ?_ | refine spB_no (by decide) ?_ | refine spB_f ?_ | refine spB_not ?_ | refine spB_yes (by assumption) ?_ | refine spB_no (by assumption) ?_
          | (with_reducible refine spB_dec ?_ ?_ <;> intro _ <;> (try (exfalso; first | contradiction | omega | (rename_i hz; refine hz ?_; simp; done) | (rename_i hz; simp at hz; done) | (simp only [LN] at *; omega))))
          | (with_reducible refine spB_beq ?_ ?_ <;> intro _ <;> (try (exfalso; first | contradiction | omega | (rename_i hz; refine hz ?_; simp; done) | (rename_i hz; simp at hz; done) | (simp only [LN] at *; omega))))
          | (with_reducible refine spB_bne ?_ ?_ <;> intro _ <;> (try (exfalso; first | contradiction | omega | (rename_i hz; refine hz ?_; simp; done) | (rename_i hz; simp at hz; done) | (simp only [LN] at *; omega))))
          | (with_reducible refine spB_mk ?_ ?_ <;> intro _ <;> (try (exfalso; first | contradiction | omega | (rename_i hz; refine hz ?_; simp; done) | (rename_i hz; simp at hz; done) | (simp only [LN] at *; omega))))
          | ((with_reducible refine Z.slN_lo k ?_ ?_ ?_); (focus (first | rfl | omega)); (focus ((try simp only [LN] at *) <;> omega)))
          | ((with_reducible apply rowN_mk); (focus rfl))
          | ((with_reducible apply ixN_lit); (focus (exact rfl)); (focus (exact rfl)))
          | ((with_reducible apply ixN_litp); (focus (exact rfl)); (focus ((try simp only [LN] at *) <;> omega)))
          | ((with_reducible refine eqN_mk2 ?_ ?_); (focus rfl))
          | ((with_reducible refine posN_mk2 ?_ ?_); (focus (first | decide | ((try simp only [LN] at *) <;> omega))))
          | ((with_reducible refine slE_a ?_ ?_); (focus ((try simp only [LN] at *) <;> omega)))
          | ((with_reducible refine slE_b ?_ ?_); (focus ((try simp only [LN] at *) <;> omega)))
          | ((with_reducible refine slE_split ?_ ?_ ?_); (focus ((try simp only [LN] at *) <;> omega)); (all_goals intro _))
          | with_reducible refine wr_i64 (by first | omega | (simp only [LN] at *; omega)) ?_
          | with_reducible refine wr_u64 (by omega) ?_
          | with_reducible refine wr_u8 (by omega) ?_
          | with_reducible refine wr_u32 (by omega) ?_
          | with_reducible first | refine wr_mk _ rfl ?_
          | ((with_reducible refine ixN_nat ?_ ?_); (focus ((try simp only [LN] at *) <;> omega)))
          | ((with_reducible refine rowN_map ?_ ?_); (focus ((try simp only [LN] at *) <;> omega)); intro x hx)
          | with_reducible refine eqN_dec (by omega) ?_
          | with_reducible first | refine apN_mk (by kernel_rfl) ?_ | refine Z.callZ_in tabOk 25 Try.f50 _ Try.func50 (by kernel_rfl) rfl rfl rfl ?_ | refine Z.callZ_in tabOk 76 Try.f55 _ Try.func55 (by kernel_rfl) rfl rfl rfl ?_ | refine Z.callZ_in tabOk 10 Try.f47 _ Try.func47 (by kernel_rfl) rfl rfl rfl ?_
          | ((first | (with_reducible refine Z.conZ_mz ?_ (ck) ?_) | (with_reducible refine Z.callZ_mk ?_ (ck) ?_)); (focus ((repeat' (first | exact trivial | (refine low_drp (ren_map fun _ => rfl) ?_ ?_; (focus (simp; done)); (simp; done)) | exact rfl | exact Z.low_nil | exact Z.low_nil2 | exact low_osl (fun _ => rfl) | (refine Z.low_osln ?_ (fun _ => rfl); (simp only [List.length_map]; done)) | exact low_oslr (fun _ => rfl) | exact Z.low_gslm (by first | rfl | exact Z.kb_some rfl) (fun _ => rfl) | exact .inl rfl | exact .inr ⟨_, rfl⟩ | apply And.intro)); done)))
          | ((first | (with_reducible refine Z.conZ_mz ?_ (cc) ?_) | (with_reducible refine Z.callZ_mk ?_ (cc) ?_)); (focus ((repeat' (first | exact trivial | (refine low_drp (ren_map fun _ => rfl) ?_ ?_; (focus (simp; done)); (simp; done)) | exact rfl | exact Z.low_nil | exact Z.low_nil2 | exact low_osl (fun _ => rfl) | (refine Z.low_osln ?_ (fun _ => rfl); (simp only [List.length_map]; done)) | exact low_oslr (fun _ => rfl) | exact Z.low_gslm (by first | rfl | exact Z.kb_some rfl) (fun _ => rfl) | exact .inl rfl | exact .inr ⟨_, rfl⟩ | apply And.intro)); done)))
          | ((first | (with_reducible refine Z.conZ_mz ?_ (cc2) ?_) | (with_reducible refine Z.callZ_mk ?_ (cc2) ?_)); (focus ((repeat' (first | exact trivial | (refine low_drp (ren_map fun _ => rfl) ?_ ?_; (focus (simp; done)); (simp; done)) | exact rfl | exact Z.low_nil | exact Z.low_nil2 | exact low_osl (fun _ => rfl) | (refine Z.low_osln ?_ (fun _ => rfl); (simp only [List.length_map]; done)) | exact low_oslr (fun _ => rfl) | exact Z.low_gslm (by first | rfl | exact Z.kb_some rfl) (fun _ => rfl) | exact .inl rfl | exact .inr ⟨_, rfl⟩ | apply And.intro)); done)))
          | ((with_reducible refine eqN_mk2 ?_ ?_); (focus (exact Z.kb_some rfl)))
          | ((with_reducible apply ex_and); exact rfl)
          | with_reducible first | refine Z.drawZ_rule tabOk mixOk ?_ | refine Z.apZ_mk (by kernel_rfl) ?_
          | ((with_reducible refine Z.ConZ.red ?_); (try subst hlb); (apply Z.conZ_all); (focus (repeat (first | exact Z.FK.nil | (apply Z.FK.keep; exact rfl)))); (focus rfl); (focus rfl); (focus (repeat (first | exact trivial | (refine ⟨(fun o ho => (by first | (cases ho; rfl) | (cases ho; exact Z.inL_map fun _ => rfl) | (cases ho; exact Z.inL_mapr fun _ => rfl) | exact Z.inL_gB ho fun _ => rfl)), ?_⟩)))))
          | ((refine ⟨rfl, ?_, rfl⟩); (focus (repeat (first | exact Z.DK.nil | apply Z.DK.cons))))
          | (focus (exact (rfl : Nat.ble _ _ = true))))
        all_goals (try (conv => whnf))
        all_goals try (show Nat.ble _ _ = true; rfl)
        all_goals try (exfalso; rename_i hz; cases hz; done)
        all_goals try (exfalso; (try simp only [LN] at *) <;> omega)
        all_goals first
          | ((first | (with_reducible apply Z.retF1) | (with_reducible apply Z.retF2) | (with_reducible apply Z.retF0)); (focus (exact rfl)); (repeat' (first | exact trivial | (refine Z.fq_osl (l := ([] : List El)) (f := cE) (ty := 33) (bx := false) ?_ ?_ (fun _ => rfl) ?_; (focus (exact congrArg (fun r => some (Blk.mk r 5 33 false)) (rfl))); (focus (((try simp only [LN] at *) <;> omega))); (focus (exact rfl))) | (with_reducible apply Z.frz_one) | (with_reducible apply Z.frz_agg) | (with_reducible apply Z.fq_int) | (with_reducible apply Z.fq_bool) | (exact Z.frz_nil) | (exact Z.frz_osl0 rfl rfl rfl) | (with_reducible apply Z.fq_nil) | (with_reducible apply Z.fq_ro) | ((with_reducible apply Z.fq_gsl); (focus (first | rfl | exact Z.isB_map _ | exact Z.gB_snoc.symm)); (focus (exact fun _ => rfl))) | ((with_reducible apply Z.fq_osl); (focus (exact rfl)); (focus (first | exact rfl | (simp only [List.length_map, Nat.zero_add]; done) | ((try simp only [LN] at *) <;> omega))); (focus (exact fun _ => rfl))) | ((with_reducible apply Z.fq_src); (focus (exact rfl)); (focus (first | exact rfl | (simp only [List.length_map, Nat.zero_add]; done) | ((try simp only [LN] at *) <;> omega))); (focus (exact fun _ => rfl))) | exact rfl | ((apply Z.fq_osl); (focus (exact rfl)); (focus (first | exact rfl | (simp only [List.length_map, Nat.zero_add]; done) | ((try simp only [LN] at *) <;> omega))); (focus (exact fun _ => rfl))) | ((apply Z.fq_src); (focus (exact rfl)); (focus (first | exact rfl | (simp only [List.length_map, Nat.zero_add]; done) | ((try simp only [LN] at *) <;> omega))); (focus (exact fun _ => rfl))) | (apply Z.fq_ro) | (apply Z.fq_int) | (apply Z.fq_bool) | apply And.intro)); (all_goals (try exact (fun _ => none))); all_goals (first | rfl | (simp; done)))
          | (exfalso; rename_i hz; cases hz; done)
          | (exfalso; (try simp only [LN] at *) <;> omega)
          | (fail)
      repeat' ((conv => whnf); first
        | with_reducible first | refine spB_t ?_
        | ((with_reducible apply spB_cong); (focus (simp only [beq_self_eq_true, bne_self_eq_false, Bool.true_bne, Bool.false_bne, Bool.bne_true, Bool.bne_false, Bool.true_beq, Bool.false_beq, Bool.not_true, Bool.not_false, Bool.not_not, Int.reduceBEq, Int.reduceBNe, Int.reduceLE, Int.reduceLT, Int.reduceEq, decide_true, decide_false]; rfl)))
        | with_reducible first | refine spB_yes (by decide) ?_ | refine spB_no (by decide) ?_ | refine spB_f ?_ | refine spB_not ?_ | refine spB_yes (by assumption) ?_ | refine spB_no (by assumption) ?_
        | (with_reducible refine spB_dec ?_ ?_ <;> intro _ <;> (try (exfalso; first | contradiction | omega | (rename_i hz; refine hz ?_; simp; done) | (rename_i hz; simp at hz; done) | (simp only [LN] at *; omega))))
        | (with_reducible refine spB_beq ?_ ?_ <;> intro _ <;> (try (exfalso; first | contradiction | omega | (rename_i hz; refine hz ?_; simp; done) | (rename_i hz; simp at hz; done) | (simp only [LN] at *; omega))))
        | (with_reducible refine spB_bne ?_ ?_ <;> intro _ <;> (try (exfalso; first | contradiction | omega | (rename_i hz; refine hz ?_; simp; done) | (rename_i hz; simp at hz; done) | (simp only [LN] at *; omega))))
        | (with_reducible refine spB_mk ?_ ?_ <;> intro _ <;> (try (exfalso; first | contradiction | omega | (rename_i hz; refine hz ?_; simp; done) | (rename_i hz; simp at hz; done) | (simp only [LN] at *; omega))))
        | ((with_reducible refine Z.slN_lo k ?_ ?_ ?_); (focus (first | rfl | omega)); (focus ((try simp only [LN] at *) <;> omega)))
        | ((with_reducible apply rowN_mk); (focus rfl))
        | ((with_reducible apply ixN_lit); (focus (exact rfl)); (focus (exact rfl)))
        | ((with_reducible apply ixN_litp); (focus (exact rfl)); (focus ((try simp only [LN] at *) <;> omega)))
        | ((with_reducible refine eqN_mk2 ?_ ?_); (focus rfl))
        | ((with_reducible refine posN_mk2 ?_ ?_); (focus (first | decide | ((try simp only [LN] at *) <;> omega))))
        | ((with_reducible refine slE_a ?_ ?_); (focus ((try simp only [LN] at *) <;> omega)))
        | ((with_reducible refine slE_b ?_ ?_); (focus ((try simp only [LN] at *) <;> omega)))
        | ((with_reducible refine slE_split ?_ ?_ ?_); (focus ((try simp only [LN] at *) <;> omega)); (all_goals intro _))
        | with_reducible refine wr_i64 (by first | omega | (simp only [LN] at *; omega)) ?_
        | with_reducible refine wr_u64 (by omega) ?_
        | with_reducible refine wr_u8 (by omega) ?_
        | with_reducible refine wr_u32 (by omega) ?_
        | with_reducible first | refine wr_mk _ rfl ?_
        | ((with_reducible refine ixN_nat ?_ ?_); (focus ((try simp only [LN] at *) <;> omega)))
        | ((with_reducible refine rowN_map ?_ ?_); (focus ((try simp only [LN] at *) <;> omega)); intro x hx)
        | with_reducible refine eqN_dec (by omega) ?_
        | with_reducible first | refine apN_mk (by kernel_rfl) ?_ | refine Z.callZ_in tabOk 25 Try.f50 _ Try.func50 (by kernel_rfl) rfl rfl rfl ?_ | refine Z.callZ_in tabOk 76 Try.f55 _ Try.func55 (by kernel_rfl) rfl rfl rfl ?_ | refine Z.callZ_in tabOk 10 Try.f47 _ Try.func47 (by kernel_rfl) rfl rfl rfl ?_
        | ((first | (with_reducible refine Z.conZ_mz ?_ (ck) ?_) | (with_reducible refine Z.callZ_mk ?_ (ck) ?_)); (focus ((repeat' (first | exact trivial | (refine low_drp (ren_map fun _ => rfl) ?_ ?_; (focus (simp; done)); (simp; done)) | exact rfl | exact Z.low_nil | exact Z.low_nil2 | exact low_osl (fun _ => rfl) | (refine Z.low_osln ?_ (fun _ => rfl); (simp only [List.length_map]; done)) | exact low_oslr (fun _ => rfl) | exact Z.low_gslm (by first | rfl | exact Z.kb_some rfl) (fun _ => rfl) | exact .inl rfl | exact .inr ⟨_, rfl⟩ | apply And.intro)); done)))
        | ((first | (with_reducible refine Z.conZ_mz ?_ (cc) ?_) | (with_reducible refine Z.callZ_mk ?_ (cc) ?_)); (focus ((repeat' (first | exact trivial | (refine low_drp (ren_map fun _ => rfl) ?_ ?_; (focus (simp; done)); (simp; done)) | exact rfl | exact Z.low_nil | exact Z.low_nil2 | exact low_osl (fun _ => rfl) | (refine Z.low_osln ?_ (fun _ => rfl); (simp only [List.length_map]; done)) | exact low_oslr (fun _ => rfl) | exact Z.low_gslm (by first | rfl | exact Z.kb_some rfl) (fun _ => rfl) | exact .inl rfl | exact .inr ⟨_, rfl⟩ | apply And.intro)); done)))
        | ((first | (with_reducible refine Z.conZ_mz ?_ (cc2) ?_) | (with_reducible refine Z.callZ_mk ?_ (cc2) ?_)); (focus ((repeat' (first | exact trivial | (refine low_drp (ren_map fun _ => rfl) ?_ ?_; (focus (simp; done)); (simp; done)) | exact rfl | exact Z.low_nil | exact Z.low_nil2 | exact low_osl (fun _ => rfl) | (refine Z.low_osln ?_ (fun _ => rfl); (simp only [List.length_map]; done)) | exact low_oslr (fun _ => rfl) | exact Z.low_gslm (by first | rfl | exact Z.kb_some rfl) (fun _ => rfl) | exact .inl rfl | exact .inr ⟨_, rfl⟩ | apply And.intro)); done)))
        | ((with_reducible refine eqN_mk2 ?_ ?_); (focus (exact Z.kb_some rfl)))
        | ((with_reducible apply ex_and); exact rfl)
        | with_reducible first | refine Z.drawZ_rule tabOk mixOk ?_ | refine Z.apZ_mk (by kernel_rfl) ?_
        | ((with_reducible refine Z.ConZ.red ?_); (try subst hlb); (apply Z.conZ_all); (focus (repeat (first | exact Z.FK.nil | (apply Z.FK.keep; exact rfl)))); (focus rfl); (focus rfl); (focus (repeat (first | exact trivial | (refine ⟨(fun o ho => (by first | (cases ho; rfl) | (cases ho; exact Z.inL_map fun _ => rfl) | (cases ho; exact Z.inL_mapr fun _ => rfl) | exact Z.inL_gB ho fun _ => rfl)), ?_⟩)))))
        | ((refine ⟨rfl, ?_, rfl⟩); (focus (repeat (first | exact Z.DK.nil | apply Z.DK.cons))))
        | (focus (exact (rfl : Nat.ble _ _ = true))))
      all_goals (try (conv => whnf))
      all_goals try (show Nat.ble _ _ = true; rfl)
      all_goals try (exfalso; rename_i hz; cases hz; done)
      all_goals try (exfalso; (try simp only [LN] at *) <;> omega)
      all_goals first
        | ((first | (with_reducible apply Z.retF1) | (with_reducible apply Z.retF2) | (with_reducible apply Z.retF0)); (focus (exact rfl)); (repeat' (first | exact trivial | (refine Z.fq_osl (l := q.drop k) (f := cE) (ty := 33) (bx := false) ?_ ?_ (fun _ => rfl) ?_; (focus (exact congrArg (fun r => some (Blk.mk r 5 33 false)) (ren_map fun _ => rfl))); (focus (((try simp only [LN] at *) <;> omega))); (focus (exact rfl))) | (with_reducible apply Z.frz_one) | (with_reducible apply Z.frz_agg) | (with_reducible apply Z.fq_int) | (with_reducible apply Z.fq_bool) | (exact Z.frz_nil) | (exact Z.frz_osl0 rfl rfl rfl) | (with_reducible apply Z.fq_nil) | (with_reducible apply Z.fq_ro) | ((with_reducible apply Z.fq_gsl); (focus (first | rfl | exact Z.isB_map _ | exact Z.gB_snoc.symm)); (focus (exact fun _ => rfl))) | ((with_reducible apply Z.fq_osl); (focus (exact rfl)); (focus (first | exact rfl | (simp only [List.length_map, Nat.zero_add]; done) | ((try simp only [LN] at *) <;> omega))); (focus (exact fun _ => rfl))) | ((with_reducible apply Z.fq_src); (focus (exact rfl)); (focus (first | exact rfl | (simp only [List.length_map, Nat.zero_add]; done) | ((try simp only [LN] at *) <;> omega))); (focus (exact fun _ => rfl))) | exact rfl | ((apply Z.fq_osl); (focus (exact rfl)); (focus (first | exact rfl | (simp only [List.length_map, Nat.zero_add]; done) | ((try simp only [LN] at *) <;> omega))); (focus (exact fun _ => rfl))) | ((apply Z.fq_src); (focus (exact rfl)); (focus (first | exact rfl | (simp only [List.length_map, Nat.zero_add]; done) | ((try simp only [LN] at *) <;> omega))); (focus (exact fun _ => rfl))) | (apply Z.fq_ro) | (apply Z.fq_int) | (apply Z.fq_bool) | apply And.intro)); (all_goals (try exact (fun _ => none))); all_goals (first | rfl | (simp; done)))
        | (exfalso; rename_i hz; cases hz; done)
        | (exfalso; (try simp only [LN] at *) <;> omega)
        | (fail)
    · rw [if_neg hf]
      repeat' ((conv => whnf); first
        | with_reducible first | refine spB_t ?_
        | ((with_reducible apply spB_cong); (focus (simp only [beq_self_eq_true, bne_self_eq_false, Bool.true_bne, Bool.false_bne, Bool.bne_true, Bool.bne_false, Bool.true_beq, Bool.false_beq, Bool.not_true, Bool.not_false, Bool.not_not, Int.reduceBEq, Int.reduceBNe, Int.reduceLE, Int.reduceLT, Int.reduceEq, decide_true, decide_false]; rfl)))
        | with_reducible first | refine spB_yes (by decide) ?_ | refine spB_no (by decide) ?_ | refine spB_f ?_ | refine spB_not ?_ | refine spB_yes (by assumption) ?_ | refine spB_no (by assumption) ?_
        | (with_reducible refine spB_dec ?_ ?_ <;> intro _ <;> (try (exfalso; first | contradiction | omega | (rename_i hz; refine hz ?_; simp; done) | (rename_i hz; simp at hz; done) | (simp only [LN] at *; omega))))
        | (with_reducible refine spB_beq ?_ ?_ <;> intro _ <;> (try (exfalso; first | contradiction | omega | (rename_i hz; refine hz ?_; simp; done) | (rename_i hz; simp at hz; done) | (simp only [LN] at *; omega))))
        | (with_reducible refine spB_bne ?_ ?_ <;> intro _ <;> (try (exfalso; first | contradiction | omega | (rename_i hz; refine hz ?_; simp; done) | (rename_i hz; simp at hz; done) | (simp only [LN] at *; omega))))
        | (with_reducible refine spB_mk ?_ ?_ <;> intro _ <;> (try (exfalso; first | contradiction | omega | (rename_i hz; refine hz ?_; simp; done) | (rename_i hz; simp at hz; done) | (simp only [LN] at *; omega))))
        | ((with_reducible apply rowN_mk); (focus rfl))
        | ((with_reducible apply ixN_lit); (focus (exact rfl)); (focus (exact rfl)))
        | ((with_reducible apply ixN_litp); (focus (exact rfl)); (focus ((try simp only [LN] at *) <;> omega)))
        | ((with_reducible refine eqN_mk2 ?_ ?_); (focus rfl))
        | ((with_reducible refine posN_mk2 ?_ ?_); (focus (first | decide | ((try simp only [LN] at *) <;> omega))))
        | ((with_reducible refine slE_a ?_ ?_); (focus ((try simp only [LN] at *) <;> omega)))
        | ((with_reducible refine slE_b ?_ ?_); (focus ((try simp only [LN] at *) <;> omega)))
        | ((with_reducible refine slE_split ?_ ?_ ?_); (focus ((try simp only [LN] at *) <;> omega)); (all_goals intro _))
        | with_reducible refine wr_i64 (by first | omega | (simp only [LN] at *; omega)) ?_
        | with_reducible refine wr_u64 (by omega) ?_
        | with_reducible refine wr_u8 (by omega) ?_
        | with_reducible refine wr_u32 (by omega) ?_
        | with_reducible first | refine wr_mk _ rfl ?_
        | ((with_reducible refine ixN_nat ?_ ?_); (focus ((try simp only [LN] at *) <;> omega)))
        | ((with_reducible refine rowN_map ?_ ?_); (focus ((try simp only [LN] at *) <;> omega)); intro x hx)
        | with_reducible refine eqN_dec (by omega) ?_
        | with_reducible first | refine apN_mk (by kernel_rfl) ?_ | refine Z.callZ_in tabOk 25 Try.f50 _ Try.func50 (by kernel_rfl) rfl rfl rfl ?_ | refine Z.callZ_in tabOk 76 Try.f55 _ Try.func55 (by kernel_rfl) rfl rfl rfl ?_ | refine Z.callZ_in tabOk 10 Try.f47 _ Try.func47 (by kernel_rfl) rfl rfl rfl ?_
        | ((first | (with_reducible refine Z.conZ_mz ?_ (ck) ?_) | (with_reducible refine Z.callZ_mk ?_ (ck) ?_)); (focus ((repeat' (first | exact trivial | (refine low_drp (ren_map fun _ => rfl) ?_ ?_; (focus (simp; done)); (simp; done)) | exact rfl | exact Z.low_nil | exact Z.low_nil2 | exact low_osl (fun _ => rfl) | (refine Z.low_osln ?_ (fun _ => rfl); (simp only [List.length_map]; done)) | exact low_oslr (fun _ => rfl) | exact Z.low_gslm (by first | rfl | exact Z.kb_some rfl) (fun _ => rfl) | exact .inl rfl | exact .inr ⟨_, rfl⟩ | apply And.intro)); done)))
        | ((first | (with_reducible refine Z.conZ_mz ?_ (cc) ?_) | (with_reducible refine Z.callZ_mk ?_ (cc) ?_)); (focus ((repeat' (first | exact trivial | (refine low_drp (ren_map fun _ => rfl) ?_ ?_; (focus (simp; done)); (simp; done)) | exact rfl | exact Z.low_nil | exact Z.low_nil2 | exact low_osl (fun _ => rfl) | (refine Z.low_osln ?_ (fun _ => rfl); (simp only [List.length_map]; done)) | exact low_oslr (fun _ => rfl) | exact Z.low_gslm (by first | rfl | exact Z.kb_some rfl) (fun _ => rfl) | exact .inl rfl | exact .inr ⟨_, rfl⟩ | apply And.intro)); done)))
        | ((first | (with_reducible refine Z.conZ_mz ?_ (cc2) ?_) | (with_reducible refine Z.callZ_mk ?_ (cc2) ?_)); (focus ((repeat' (first | exact trivial | (refine low_drp (ren_map fun _ => rfl) ?_ ?_; (focus (simp; done)); (simp; done)) | exact rfl | exact Z.low_nil | exact Z.low_nil2 | exact low_osl (fun _ => rfl) | (refine Z.low_osln ?_ (fun _ => rfl); (simp only [List.length_map]; done)) | exact low_oslr (fun _ => rfl) | exact Z.low_gslm (by first | rfl | exact Z.kb_some rfl) (fun _ => rfl) | exact .inl rfl | exact .inr ⟨_, rfl⟩ | apply And.intro)); done)))
        | ((with_reducible refine eqN_mk2 ?_ ?_); (focus (exact Z.kb_some rfl)))
        | ((with_reducible apply ex_and); exact rfl)
        | with_reducible first | refine Z.drawZ_rule tabOk mixOk ?_ | refine Z.apZ_mk (by kernel_rfl) ?_
        | ((with_reducible refine Z.ConZ.red ?_); (try subst hlb); (apply Z.conZ_all); (focus (repeat (first | exact Z.FK.nil | (apply Z.FK.keep; exact rfl)))); (focus rfl); (focus rfl); (focus (repeat (first | exact trivial | (refine ⟨(fun o ho => (by first | (cases ho; rfl) | (cases ho; exact Z.inL_map fun _ => rfl) | (cases ho; exact Z.inL_mapr fun _ => rfl) | exact Z.inL_gB ho fun _ => rfl)), ?_⟩)))))
        | ((refine ⟨rfl, ?_, rfl⟩); (focus (repeat (first | exact Z.DK.nil | apply Z.DK.cons))))
        | (focus (exact (rfl : Nat.ble _ _ = true))))
      all_goals (try (conv => whnf))
      all_goals try (show Nat.ble _ _ = true; rfl)
      all_goals first
        | ((first | (with_reducible apply Z.retF1) | (with_reducible apply Z.retF2) | (with_reducible apply Z.retF0)); (focus (exact rfl)); (repeat' (first | exact trivial | (refine Z.fq_osl (l := q) (f := cE) (ty := 33) (bx := false) ?_ ?_ (fun _ => rfl) ?_; (focus (exact congrArg (fun r => some (Blk.mk r 5 33 false)) (ren_map fun _ => rfl))); (focus (((try simp only [LN] at *) <;> omega))); (focus (exact rfl))) | (with_reducible apply Z.frz_one) | (with_reducible apply Z.frz_agg) | (with_reducible apply Z.fq_int) | (with_reducible apply Z.fq_bool) | (exact Z.frz_nil) | (exact Z.frz_osl0 rfl rfl rfl) | (with_reducible apply Z.fq_nil) | (with_reducible apply Z.fq_ro) | ((with_reducible apply Z.fq_gsl); (focus (first | rfl | exact Z.isB_map _ | exact Z.gB_snoc.symm)); (focus (exact fun _ => rfl))) | ((with_reducible apply Z.fq_osl); (focus (exact rfl)); (focus (first | exact rfl | (simp only [List.length_map, Nat.zero_add]; done) | ((try simp only [LN] at *) <;> omega))); (focus (exact fun _ => rfl))) | ((with_reducible apply Z.fq_src); (focus (exact rfl)); (focus (first | exact rfl | (simp only [List.length_map, Nat.zero_add]; done) | ((try simp only [LN] at *) <;> omega))); (focus (exact fun _ => rfl))) | exact rfl | ((apply Z.fq_osl); (focus (exact rfl)); (focus (first | exact rfl | (simp only [List.length_map, Nat.zero_add]; done) | ((try simp only [LN] at *) <;> omega))); (focus (exact fun _ => rfl))) | ((apply Z.fq_src); (focus (exact rfl)); (focus (first | exact rfl | (simp only [List.length_map, Nat.zero_add]; done) | ((try simp only [LN] at *) <;> omega))); (focus (exact fun _ => rfl))) | (apply Z.fq_ro) | (apply Z.fq_int) | (apply Z.fq_bool) | apply And.intro)); (all_goals (try exact (fun _ => none))); all_goals (first | rfl | (simp; done)))
        | (exfalso; refine hf ⟨rfl, ?_⟩; dsimp only; (try simp only [LN] at *) <;> omega)
        | (exfalso; rename_i hz; cases hz; done)
        | (exfalso; (try simp only [LN] at *) <;> omega)
        | (fail)
  · have hf : ¬ ackOf n b q p := fun h => ha h.1
    rw [if_neg hf]
    repeat' ((conv => whnf); first
      | with_reducible first | refine spB_t ?_
      | ((with_reducible apply spB_cong); (focus (simp only [beq_self_eq_true, bne_self_eq_false, Bool.true_bne, Bool.false_bne, Bool.bne_true, Bool.bne_false, Bool.true_beq, Bool.false_beq, Bool.not_true, Bool.not_false, Bool.not_not, Int.reduceBEq, Int.reduceBNe, Int.reduceLE, Int.reduceLT, Int.reduceEq, decide_true, decide_false]; rfl)))
      | with_reducible first | refine spB_yes (by decide) ?_ | refine spB_no (by decide) ?_ | refine spB_f ?_ | refine spB_not ?_ | refine spB_yes (by assumption) ?_ | refine spB_no (by assumption) ?_
      | (with_reducible refine spB_dec ?_ ?_ <;> intro _ <;> (try (exfalso; first | contradiction | omega | (rename_i hz; refine hz ?_; simp; done) | (rename_i hz; simp at hz; done) | (simp only [LN] at *; omega) | (exact ha (ack_no (by assumption))))))
      | (with_reducible refine spB_beq ?_ ?_ <;> intro _ <;> (try (exfalso; first | contradiction | omega | (rename_i hz; refine hz ?_; simp; done) | (rename_i hz; simp at hz; done) | (simp only [LN] at *; omega) | (exact ha (ack_no (by assumption))))))
      | (with_reducible refine spB_bne ?_ ?_ <;> intro _ <;> (try (exfalso; first | contradiction | omega | (rename_i hz; refine hz ?_; simp; done) | (rename_i hz; simp at hz; done) | (simp only [LN] at *; omega) | (exact ha (ack_no (by assumption))))))
      | (with_reducible refine spB_mk ?_ ?_ <;> intro _ <;> (try (exfalso; first | contradiction | omega | (rename_i hz; refine hz ?_; simp; done) | (rename_i hz; simp at hz; done) | (simp only [LN] at *; omega) | (exact ha (ack_no (by assumption))))))
      | ((with_reducible apply rowN_mk); (focus rfl))
      | ((with_reducible apply ixN_lit); (focus (exact rfl)); (focus (exact rfl)))
      | ((with_reducible apply ixN_litp); (focus (exact rfl)); (focus ((try simp only [LN] at *) <;> omega)))
      | ((with_reducible refine eqN_mk2 ?_ ?_); (focus rfl))
      | ((with_reducible refine posN_mk2 ?_ ?_); (focus (first | decide | ((try simp only [LN] at *) <;> omega))))
      | ((with_reducible refine slE_a ?_ ?_); (focus ((try simp only [LN] at *) <;> omega)))
      | ((with_reducible refine slE_b ?_ ?_); (focus ((try simp only [LN] at *) <;> omega)))
      | ((with_reducible refine slE_split ?_ ?_ ?_); (focus ((try simp only [LN] at *) <;> omega)); (all_goals intro _))
      | with_reducible refine wr_i64 (by first | omega | (simp only [LN] at *; omega)) ?_
      | with_reducible refine wr_u64 (by omega) ?_
      | with_reducible refine wr_u8 (by omega) ?_
      | with_reducible refine wr_u32 (by omega) ?_
      | with_reducible first | refine wr_mk _ rfl ?_
      | ((with_reducible refine ixN_nat ?_ ?_); (focus ((try simp only [LN] at *) <;> omega)))
      | ((with_reducible refine rowN_map ?_ ?_); (focus ((try simp only [LN] at *) <;> omega)); intro x hx)
      | with_reducible refine eqN_dec (by omega) ?_
      | with_reducible first | refine apN_mk (by kernel_rfl) ?_ | refine Z.callZ_in tabOk 25 Try.f50 _ Try.func50 (by kernel_rfl) rfl rfl rfl ?_ | refine Z.callZ_in tabOk 76 Try.f55 _ Try.func55 (by kernel_rfl) rfl rfl rfl ?_ | refine Z.callZ_in tabOk 10 Try.f47 _ Try.func47 (by kernel_rfl) rfl rfl rfl ?_
      | ((first | (with_reducible refine Z.conZ_mz ?_ (ck) ?_) | (with_reducible refine Z.callZ_mk ?_ (ck) ?_)); (focus ((repeat' (first | exact trivial | (refine low_drp (ren_map fun _ => rfl) ?_ ?_; (focus (simp; done)); (simp; done)) | exact rfl | exact Z.low_nil | exact Z.low_nil2 | exact low_osl (fun _ => rfl) | (refine Z.low_osln ?_ (fun _ => rfl); (simp only [List.length_map]; done)) | exact low_oslr (fun _ => rfl) | exact Z.low_gslm (by first | rfl | exact Z.kb_some rfl) (fun _ => rfl) | exact .inl rfl | exact .inr ⟨_, rfl⟩ | apply And.intro)); done)))
      | ((first | (with_reducible refine Z.conZ_mz ?_ (cc) ?_) | (with_reducible refine Z.callZ_mk ?_ (cc) ?_)); (focus ((repeat' (first | exact trivial | (refine low_drp (ren_map fun _ => rfl) ?_ ?_; (focus (simp; done)); (simp; done)) | exact rfl | exact Z.low_nil | exact Z.low_nil2 | exact low_osl (fun _ => rfl) | (refine Z.low_osln ?_ (fun _ => rfl); (simp only [List.length_map]; done)) | exact low_oslr (fun _ => rfl) | exact Z.low_gslm (by first | rfl | exact Z.kb_some rfl) (fun _ => rfl) | exact .inl rfl | exact .inr ⟨_, rfl⟩ | apply And.intro)); done)))
      | ((first | (with_reducible refine Z.conZ_mz ?_ (cc2) ?_) | (with_reducible refine Z.callZ_mk ?_ (cc2) ?_)); (focus ((repeat' (first | exact trivial | (refine low_drp (ren_map fun _ => rfl) ?_ ?_; (focus (simp; done)); (simp; done)) | exact rfl | exact Z.low_nil | exact Z.low_nil2 | exact low_osl (fun _ => rfl) | (refine Z.low_osln ?_ (fun _ => rfl); (simp only [List.length_map]; done)) | exact low_oslr (fun _ => rfl) | exact Z.low_gslm (by first | rfl | exact Z.kb_some rfl) (fun _ => rfl) | exact .inl rfl | exact .inr ⟨_, rfl⟩ | apply And.intro)); done)))
      | ((with_reducible refine eqN_mk2 ?_ ?_); (focus (exact Z.kb_some rfl)))
      | ((with_reducible apply ex_and); exact rfl)
      | with_reducible first | refine Z.drawZ_rule tabOk mixOk ?_ | refine Z.apZ_mk (by kernel_rfl) ?_
      | ((with_reducible refine Z.ConZ.red ?_); (try subst hlb); (apply Z.conZ_all); (focus (repeat (first | exact Z.FK.nil | (apply Z.FK.keep; exact rfl)))); (focus rfl); (focus rfl); (focus (repeat (first | exact trivial | (refine ⟨(fun o ho => (by first | (cases ho; rfl) | (cases ho; exact Z.inL_map fun _ => rfl) | (cases ho; exact Z.inL_mapr fun _ => rfl) | exact Z.inL_gB ho fun _ => rfl)), ?_⟩)))))
      | ((refine ⟨rfl, ?_, rfl⟩); (focus (repeat (first | exact Z.DK.nil | apply Z.DK.cons))))
      | (focus (exact (rfl : Nat.ble _ _ = true))))
    all_goals (try (conv => whnf))
    all_goals try (show Nat.ble _ _ = true; rfl)
    all_goals first
      | ((first | (with_reducible apply Z.retF1) | (with_reducible apply Z.retF2) | (with_reducible apply Z.retF0)); (focus (exact rfl)); (repeat' (first | exact trivial | (refine Z.fq_osl (l := q) (f := cE) (ty := 33) (bx := false) ?_ ?_ (fun _ => rfl) ?_; (focus (exact congrArg (fun r => some (Blk.mk r 5 33 false)) (ren_map fun _ => rfl))); (focus (((try simp only [LN] at *) <;> omega))); (focus (exact rfl))) | (with_reducible apply Z.frz_one) | (with_reducible apply Z.frz_agg) | (with_reducible apply Z.fq_int) | (with_reducible apply Z.fq_bool) | (exact Z.frz_nil) | (exact Z.frz_osl0 rfl rfl rfl) | (with_reducible apply Z.fq_nil) | (with_reducible apply Z.fq_ro) | ((with_reducible apply Z.fq_gsl); (focus (first | rfl | exact Z.isB_map _ | exact Z.gB_snoc.symm)); (focus (exact fun _ => rfl))) | ((with_reducible apply Z.fq_osl); (focus (exact rfl)); (focus (first | exact rfl | (simp only [List.length_map, Nat.zero_add]; done) | ((try simp only [LN] at *) <;> omega))); (focus (exact fun _ => rfl))) | ((with_reducible apply Z.fq_src); (focus (exact rfl)); (focus (first | exact rfl | (simp only [List.length_map, Nat.zero_add]; done) | ((try simp only [LN] at *) <;> omega))); (focus (exact fun _ => rfl))) | exact rfl | ((apply Z.fq_osl); (focus (exact rfl)); (focus (first | exact rfl | (simp only [List.length_map, Nat.zero_add]; done) | ((try simp only [LN] at *) <;> omega))); (focus (exact fun _ => rfl))) | ((apply Z.fq_src); (focus (exact rfl)); (focus (first | exact rfl | (simp only [List.length_map, Nat.zero_add]; done) | ((try simp only [LN] at *) <;> omega))); (focus (exact fun _ => rfl))) | (apply Z.fq_ro) | (apply Z.fq_int) | (apply Z.fq_bool) | apply And.intro)); (all_goals (try exact (fun _ => none))); all_goals (first | rfl | (simp; done)))
      | (exfalso; rename_i hz; cases hz; done)
      | (exfalso; (try simp only [LN] at *) <;> omega)
      | (exfalso; exact ha (ack_no (by assumption)))
      | (fail)

end Go.Proofs.Ytoiadndmbppobaa
namespace Go.Proofs.Ytoiadndmbppobaa
open Go Go.RowKit Wx
set_option linter.unusedVariables false
set_option linter.unusedSimpArgs false
set_option maxHeartbeats 4000000
/-! ### What holds of a link, step by step -/
theorem okEs_drop : ∀ {l : List El} (k : Nat), okEs l = true → okEs (l.drop k) = true
  | l, 0, h => by simpa using h
  | [], k + 1, _ => rfl
  | e :: r, k + 1, h => by
    rw [okEs, Bool.and_eq_true] at h
    exact okEs_drop k h.2
theorem okEs_take : ∀ {l : List El} (k : Nat), okEs l = true → okEs (l.take k) = true
  | l, 0, h => by simp [okEs]
  | [], k + 1, _ => by simp [okEs]
  | e :: r, k + 1, h => by
    rw [okEs, Bool.and_eq_true, Bool.and_eq_true, decide_eq_true_eq] at h
    rw [List.take_succ_cons, okEs, Bool.and_eq_true, Bool.and_eq_true, decide_eq_true_eq]
    exact ⟨⟨h.1.1, fun h3 => by rw [h.1.2 h3, List.take_nil]⟩, okEs_take k h.2⟩
theorem endsL_cons {e f : El} {r : List El} : endsL (e :: f :: r) = endsL (f :: r) := by
  unfold endsL
  rw [show (e :: f :: r).length - 1 = ((f :: r).length - 1) + 1 by simp, List.getElem?_cons_succ]
theorem okEs_snoc : ∀ {l : List El} {x : El}, okEs l = true → endsL l = false → okE x = true → okEs (l ++ [x]) = true
  | [], x, _, _, hx => by simp [okEs, hx]
  | [e], x, h, he, hx => by
    have h3 : ¬ e.kd = 3 := fun h3 => by simp [endsL, h3] at he
    rw [okEs, Bool.and_eq_true, Bool.and_eq_true] at h
    show okEs [e, x] = true
    simp [okEs, h.1.1, hx, h3]
  | e :: f :: r, x, h, he, hx => by
    rw [okEs, Bool.and_eq_true, Bool.and_eq_true, decide_eq_true_eq] at h
    rw [endsL_cons] at he
    have h2 := okEs_snoc h.2 he hx
    show okEs (e :: (f :: r ++ [x])) = true
    rw [okEs, h.1.1, h2, decide_eq_true (fun h3 => absurd (h.1.2 h3) (by simp))]; rfl
theorem endsL_drop {l : List El} {k : Nat} (h : endsL (l.drop k) = true) : endsL l = true := by
  unfold endsL at h
  cases hx : (l.drop k)[(l.drop k).length - 1]? with
  | none => rw [hx] at h; cases h
  | some e =>
    rw [hx] at h
    have hl := (List.getElem?_eq_some_iff.1 hx).1
    rw [List.length_drop] at hl
    rw [List.getElem?_drop, List.length_drop, show k + (l.length - k - 1) = l.length - 1 by omega] at hx
    rw [endsL_at hx]; exact h
/-- An end is the last of its row. -/
theorem okEs_end : ∀ {l : List El} {k : Nat} {e : El}, okEs l = true → l[k]? = some e → e.kd = 3 → l.length = k + 1
  | [], k, e, _, h, _ => by simp at h
  | x :: r, 0, e, h, hk, h3 => by
    rw [okEs, Bool.and_eq_true, Bool.and_eq_true, decide_eq_true_eq] at h
    simp at hk; subst hk
    rw [h.1.2 h3]; rfl
  | x :: r, k + 1, e, h, hk, h3 => by
    rw [okEs, Bool.and_eq_true] at h
    have := okEs_end h.2 (by simpa using hk) h3
    simp [this]
theorem okEs_mem : ∀ {l : List El} {k : Nat} {e : El}, okEs l = true → l[k]? = some e → okE e = true
  | [], k, e, _, h => by simp at h
  | x :: r, 0, e, h, hk => by
    rw [okEs, Bool.and_eq_true, Bool.and_eq_true] at h
    simp at hk; subst hk; exact h.1.1
  | x :: r, k + 1, e, h, hk => by
    rw [okEs, Bool.and_eq_true] at h
    exact okEs_mem h.2 (by simpa using hk)
theorem pks_mem : ∀ {n l s : Int} {q : List El} {p : Pk}, p ∈ pks n l s q → ∃ k : Nat, q[k]? = some p.e ∧ p = ⟨1, n, s + (k : Int), 0, p.e⟩ ∧ s + (k : Int) ≤ l
  | n, l, s, [], p, h => by simp [pks] at h
  | n, l, s, e :: r, p, h => by
    unfold pks at h
    split at h
    · rcases List.mem_cons.1 h with rfl | h
      · exact ⟨0, rfl, by simp, by omega⟩
      · obtain ⟨k, h1, h2, h3⟩ := pks_mem h
        refine ⟨k + 1, by simpa using h1, ?_, by omega⟩
        rw [h2]; simp; omega
    · simp at h
theorem pks_len : ∀ {n l s : Int} {q : List El}, (pks n l s q).length ≤ q.length
  | n, l, s, [] => by simp [pks]
  | n, l, s, e :: r => by
    have := @pks_len n l (s + 1) r
    unfold pks
    split <;> simp <;> omega
abbrev bfL (put : List El) (N T : Nat) : List El := (put.take N).drop T
theorem bfL_len {put : List El} {N T : Nat} (h : N ≤ put.length) : (bfL put N T).length = N - T := by simp [bfL, Nat.min_eq_left h]
/-- May a packet be on its way? -/
def okP (put : List El) (rm : Int) (N T : Nat) (p : Pk) : Prop := p.se = 7 ∧ ((p.kd = 1 ∧ p.lim = 0 ∧ ∃ k : Nat, p.sq = (k : Int) + 1 ∧ put[k]? = some p.e) ∨ (p.kd = 2 ∧ (0 ≤ p.sq ∧ p.sq ≤ (N : Int) + 1) ∧ (0 ≤ p.lim ∧ p.lim ≤ (T : Int) + rm) ∧ p.e = zE))
structure LInv (rm : Int) (i B N T : Nat) (l : Int) (put : List El) (w : List Pk) : Prop where
  hS : okS 7 ((B : Int) + 1) (put.drop B) l (endsL put) = true
  hR : okR 7 ((N : Int) + 1) (bfL put N T) rm = true
  hP : okEs put = true
  hTN : T ≤ N
  hBN : B ≤ N
  hNP : N ≤ put.length
  hl0 : 0 ≤ l
  hl : l ≤ (T : Int) + rm
  hw : ∀ p ∈ w, okP put rm N T p
  hwl : w.length ≤ 8 * i
  hpl : put.length ≤ i
theorem LInv.more {rm : Int} {i B N T : Nat} {l : Int} {put : List El} {w : List Pk} (h : LInv rm i B N T l put w) : LInv rm (i + 1) B N T l put w :=
  { h with hwl := Nat.le_trans h.hwl (by omega), hpl := Nat.le_trans h.hpl (by omega) }
theorem LInv.begin {rm : Int} (h1 : 1 ≤ rm) (h8 : rm ≤ 8) : LInv rm 0 0 0 0 0 [] [] where
  hS := by decide
  hR := by unfold okR; rw [decide_eq_true (by simp [bfL]; omega)]; rfl
  hP := rfl
  hTN := Nat.le_refl _
  hBN := Nat.le_refl _
  hNP := Nat.le_refl _
  hl0 := Int.le_refl _
  hl := by omega
  hw := fun p hp => by cases hp
  hwl := by simp
  hpl := by simp
theorem okP.more {put put' : List El} {rm : Int} {N N' T T' : Nat} {p : Pk} (h : okP put rm N T p) (hp : ∀ (k : Nat) e, put[k]? = some e → put'[k]? = some e) (hN : N ≤ N') (hT : T ≤ T') : okP put' rm N' T' p := by
  obtain ⟨h1, h2⟩ := h
  refine ⟨h1, ?_⟩
  rcases h2 with ⟨a, b, k, c, d⟩ | ⟨a, b, c, d⟩
  · exact .inl ⟨a, b, k, c, hp k _ d⟩
  · exact .inr ⟨a, by omega, by omega, d⟩
section
variable {rm : Int} {i B N T : Nat} {l : Int} {put : List El} {w : List Pk} (h : LInv rm i B N T l put w)
include h
theorem LInv.sub {w' : List Pk} (hw : ∀ p ∈ w', p ∈ w) (hl : w'.length ≤ w.length) : LInv rm i B N T l put w' :=
  { h with hw := fun p hp => h.hw p (hw p hp), hwl := Nat.le_trans hl h.hwl }
theorem LInv.puts (e : El) : (∃ s c, c ≠ 0 ∧ putR 7 ((B : Int) + 1) (put.drop B) l (endsL put) e = (s, c)) ∨ (putR 7 ((B : Int) + 1) (put.drop B) l (endsL put) e = (⟨7, (B : Int) + 1, (put ++ [e]).drop B, l, endsL (put ++ [e])⟩, 0) ∧ LInv rm (i + 1) B N T l (put ++ [e]) w) := by
  have hs := okS_all h.hS
  have hBp : B ≤ put.length := Nat.le_trans h.hBN h.hNP
  have hq : (put.drop B).length = put.length - B := by simp
  unfold putR
  rw [h.hS, cond_true]
  cases he : okE e
  · exact .inl ⟨_, _, by decide, rfl⟩
  cases hd : endsL put
  · rw [cond_true, cond_false]
    split
    · exact .inl ⟨_, _, by decide, rfl⟩
    · rename_i hf
      have e1 : put.drop B ++ [e] = (put ++ [e]).drop B := by rw [List.drop_append_of_le_length hBp]
      have hP2 := okEs_snoc h.hP hd he
      refine .inr ⟨by rw [e1, endsL_snoc], ?_⟩
      exact {
        hS := by
          rw [← e1, endsL_snoc]
          unfold okS
          rw [e1, okEs_drop B hP2, decide_eq_true (by
            have : ((put ++ [e]).drop B).length = put.length - B + 1 := by rw [← e1]; simp
            rw [this]; omega)]
          rw [← e1, endsL_snoc]; cases decide (e.kd = 3) <;> rfl
        hR := by
          have e2 : bfL (put ++ [e]) N T = bfL put N T := by unfold bfL; rw [List.take_append_of_le_length h.hNP]
          rw [e2]; exact h.hR
        hP := hP2
        hTN := h.hTN
        hBN := h.hBN
        hNP := by have := h.hNP; simp; omega
        hl0 := h.hl0
        hl := h.hl
        hw := fun p hp => (h.hw p hp).more (fun k x hk => by rw [List.getElem?_append_left (List.getElem?_eq_some_iff.1 hk).1]; exact hk) (Nat.le_refl _) (Nat.le_refl _)
        hwl := by have := h.hwl; omega
        hpl := by have := h.hpl; simp; omega }
  · exact .inl ⟨_, _, by decide, rfl⟩
theorem LInv.sent : sendR 7 ((B : Int) + 1) (put.drop B) l (endsL put) = (pks 7 l ((B : Int) + 1) (put.drop B), 0) := by unfold sendR; rw [h.hS]; rfl
theorem LInv.pks_ok {p : Pk} (hp : p ∈ pks 7 l ((B : Int) + 1) (put.drop B)) : ∃ k : Nat, B ≤ k ∧ put[k]? = some p.e ∧ p = ⟨1, 7, (k : Int) + 1, 0, p.e⟩ ∧ (k : Int) + 1 ≤ l := by
  have _h0 := h.hl0
  obtain ⟨k, h1, h2, h3⟩ := pks_mem hp
  rw [List.getElem?_drop] at h1
  refine ⟨B + k, by omega, h1, ?_, by omega⟩
  rw [h2]; simp; omega
theorem LInv.send : LInv rm (i + 1) B N T l put (w ++ pks 7 l ((B : Int) + 1) (put.drop B)) := by
  have hs := (okS_all h.hS).1
  have hpl := @pks_len 7 l ((B : Int) + 1) (put.drop B)
  exact { h with
    hw := fun p hp => by
      rcases List.mem_append.1 hp with hp | hp
      · exact h.hw p hp
      · obtain ⟨k, h1, h2, h3, h4⟩ := h.pks_ok hp
        rw [h3]
        exact ⟨rfl, .inl ⟨rfl, rfl, k, rfl, h2⟩⟩
    hwl := by have := h.hwl; rw [List.length_append]; omega
    hpl := by have := h.hpl; omega }
theorem LInv.acked (hb : bfL put N T = bfL put N T) : ackR 7 ((N : Int) + 1) (bfL put N T) rm = (⟨2, 7, (N : Int) + 1, min ((T : Int) + rm) 4611686018427387904, zE⟩, 0) := by
  unfold ackR
  have := h.hTN
  rw [h.hR, cond_true, bfL_len h.hNP, show (N : Int) + 1 - 1 + (rm - ((N - T : Nat) : Int)) = (T : Int) + rm by omega]
theorem LInv.ack_ok : okP put rm N T ⟨2, 7, (N : Int) + 1, min ((T : Int) + rm) 4611686018427387904, zE⟩ := ⟨rfl, .inr ⟨rfl, ⟨by show 0 ≤ (N : Int) + 1; omega, Int.le_refl _⟩, ⟨by have := (okR_all h.hR).1; show 0 ≤ min _ _; omega, by show min _ _ ≤ _; omega⟩, rfl⟩⟩
theorem LInv.ack : LInv rm (i + 1) B N T l put (w ++ [⟨2, 7, (N : Int) + 1, min ((T : Int) + rm) 4611686018427387904, zE⟩]) :=
  { h with
    hw := fun p hp => by
      rcases List.mem_append.1 hp with hp | hp
      · exact h.hw p hp
      · rw [List.mem_singleton.1 hp]; exact h.ack_ok
    hwl := by have := h.hwl; simp; omega
    hpl := by have := h.hpl; omega }
/-- A packet of data comes. -/
theorem LInv.hear {p : Pk} (hp : okP put rm N T p ∨ p.se ≠ 7) (hk : p.kd ≠ 2) : ∃ N', N ≤ N' ∧ hearR 7 ((N : Int) + 1) (bfL put N T) rm p = (⟨7, (N' : Int) + 1, bfL put N' T, rm⟩, 0) ∧ LInv rm i B N' T l put w ∧ (p.se = 7 → p.sq = (N : Int) + 1 → (N : Int) < (T : Int) + rm → N' = N + 1) := by
  have hbl := bfL_len (T := T) h.hNP
  have hr := okR_all h.hR
  unfold hearR
  rw [h.hR, cond_true]
  split
  · rename_i hd
    obtain ⟨hd1, hd2, hd3, hd4, hd5⟩ := hd
    have hse : p.se = 7 := by rw [hd1]
    have hsq : p.sq = (N : Int) + 1 := by rw [hd1]
    rcases hp with hp | hp
    · obtain ⟨_, ⟨_, _, k, h1, h2⟩ | ⟨h1, _⟩⟩ := hp
      · have hkN : k = N := by omega
        subst hkN
        have hkl := (List.getElem?_eq_some_iff.1 h2).1
        have hTk := h.hTN
        have e1 : bfL put k T ++ [p.e] = bfL put (k + 1) T := by
          unfold bfL
          rw [take_snoc h2, List.drop_append_of_le_length (by simp; omega)]
        refine ⟨k + 1, by omega, by rw [e1]; rfl, ?_, fun _ _ _ => rfl⟩
        exact { h with
          hR := by
            unfold okR
            rw [show okEs (bfL put (k + 1) T) = true from okEs_drop _ (okEs_take _ h.hP), decide_eq_true (by rw [bfL_len (by omega)]; omega)]; rfl
          hTN := by have := h.hTN; omega
          hBN := by have := h.hBN; omega
          hNP := by omega
          hw := fun p hp => (h.hw p hp).more (fun _ _ hk => hk) (by omega) (Nat.le_refl _) }
      · exact absurd h1 hk
    · exact absurd hse hp
  · rename_i hd
    refine ⟨N, Nat.le_refl _, rfl, h, fun hse hsq hro => ?_⟩
    refine absurd ?_ hd
    rcases hp with hp | hp
    · obtain ⟨_, ⟨h0, h01, k, h1, h2⟩ | ⟨h1, _⟩⟩ := hp
      · have hkN : k = N := by omega
        subst hkN
        have hs := (okS_all h.hS).1
        have hkl := (List.getElem?_eq_some_iff.1 h2).1
        have hkB := h.hBN
        have hT := h.hTN
        rw [List.length_drop] at hs
        refine ⟨?_, by omega, okEs_mem h.hP h2, by rw [hbl]; omega, ?_⟩
        · cases p; simp at *; exact ⟨h0, hse, by omega, h01⟩
        · cases he : endsL (bfL put k T)
          · rfl
          · exfalso
            have h5 := endsL_drop he
            unfold endsL at h5
            cases hx : (put.take k)[(put.take k).length - 1]? with
            | none => rw [hx] at h5; cases h5
            | some x =>
              rw [hx] at h5
              have h6 := okEs_end (okEs_take k h.hP) hx (of_decide_eq_true h5)
              have hx2 := (List.getElem?_eq_some_iff.1 hx).1
              rw [List.getElem?_take_of_lt (by rw [List.length_take] at hx2 ⊢; omega)] at hx
              have h7 := okEs_end h.hP hx (of_decide_eq_true h5)
              rw [List.length_take] at h6 h7 hx2
              omega
      · exact absurd h1 hk
    · exact absurd hse hp
/-- An ack comes. -/
theorem LInv.back {p : Pk} (hp : okP put rm N T p ∨ p.se ≠ 7) (hk : p.kd = 2) (h0 : 0 ≤ p.lim) : ∃ (B' : Nat) (l' : Int), ackedR 7 ((B : Int) + 1) (put.drop B) l (endsL put) p = (⟨7, (B' : Int) + 1, put.drop B', l', endsL put⟩, 0) ∧ LInv rm i B' N T l' put w ∧ (p = ⟨2, 7, (N : Int) + 1, min ((T : Int) + rm) 4611686018427387904, zE⟩ → (N : Int) + 1 ≤ 4611686018427387904 → B' = N ∧ min ((T : Int) + rm) 4611686018427387904 ≤ l') := by
  have hs := okS_all h.hS
  have hBN := h.hBN
  have hNP := h.hNP
  rw [List.length_drop] at hs
  unfold ackedR
  rw [h.hS, cond_true]
  split
  · rename_i ha
    obtain ⟨h1, h2, h3, h4, h5⟩ := ha
    rw [List.length_drop] at h3
    have hse : p.se = 7 := by rw [h1]
    rcases hp with hp | hp
    · obtain ⟨_, ⟨h6, _⟩ | ⟨_, h6, h7, _⟩⟩ := hp
      · omega
      obtain ⟨k, hk2⟩ := Int.eq_ofNat_of_zero_le (show 0 ≤ p.sq - 1 by omega)
      have e1 : (p.sq - ((B : Int) + 1)).toNat = k - B := by omega
      refine ⟨k, max l p.lim, ?_, ?_, ?_⟩
      · rw [e1, List.drop_drop, show B + (k - B) = k by omega, show p.sq = (k : Int) + 1 by omega]
      · exact { h with
          hS := by
            unfold okS
            rw [okEs_drop k h.hP, decide_eq_true (by rw [List.length_drop]; omega)]
            cases he : endsL (put.drop k)
            · simp
            · rw [endsL_drop he]; rfl
          hBN := by omega
          hl0 := by have := h.hl0; omega
          hl := by have := h.hl; omega }
      · intro hpe hmx
        have e2 : p.sq = (N : Int) + 1 := by rw [hpe]
        have e3 : p.lim = min ((T : Int) + rm) 4611686018427387904 := by rw [hpe]
        exact ⟨by omega, by omega⟩
    · exact absurd hse hp
  · rename_i ha
    refine ⟨B, l, rfl, h, fun hpe hmx => absurd ?_ ha⟩
    rw [hpe]
    refine ⟨rfl, by show _ ≤ (N : Int) + 1; omega, ?_, hmx, by show min _ _ ≤ _; omega⟩
    rw [List.length_drop]; show (N : Int) + 1 ≤ _; omega
theorem LInv.none (hT : T = N) : takeR 7 ((N : Int) + 1) (bfL put N T) rm = (zR, zE, 4) := by
  unfold takeR
  rw [h.hR, cond_true, show bfL put N T = [] from List.eq_nil_of_length_eq_zero (by rw [bfL_len h.hNP]; omega)]
theorem LInv.take {e : El} (hT : T < N) (he : put[T]? = some e) : takeR 7 ((N : Int) + 1) (bfL put N T) rm = (⟨7, (N : Int) + 1, bfL put N (T + 1), rm⟩, e, 0) ∧ LInv rm i B N (T + 1) l put w := by
  have hr := (okR_all h.hR).1
  have e1 : bfL put N T = e :: bfL put N (T + 1) := by
    unfold bfL
    exact drop_cons (by rw [List.getElem?_take_of_lt hT]; exact he)
  constructor
  · unfold takeR
    rw [h.hR, cond_true, e1]
  · exact { h with
      hR := by
        unfold okR
        rw [show okEs (bfL put N (T + 1)) = true from okEs_drop _ (okEs_take _ h.hP), decide_eq_true (by rw [bfL_len h.hNP] at hr ⊢; omega)]; rfl
      hTN := by omega
      hl := by have := h.hl; omega
      hw := fun p hp => (h.hw p hp).more (fun _ _ hk => hk) (Nat.le_refl _) (by omega) }
end
theorem okE_num {e : El} (h : okE e = true) : 0 ≤ e.num := by
  unfold okE at h
  have h := of_decide_eq_true h
  omega
theorem okEs_num {l : List El} (h : okEs l = true) : ∀ e ∈ l, 0 ≤ e.num := fun e he => by
  obtain ⟨k, hk⟩ := List.getElem?_of_mem he
  exact okE_num (okEs_mem h hk)
theorem okP.num {put : List El} {rm : Int} {N T : Nat} {p : Pk} (h : okP put rm N T p) (hP : okEs put = true) : 0 ≤ p.sq ∧ 0 ≤ p.lim ∧ 0 ≤ p.e.num := by
  obtain ⟨_, ⟨_, a, k, b, c⟩ | ⟨_, a, b, c⟩⟩ := h
  · exact ⟨by omega, by omega, okE_num (okEs_mem hP c)⟩
  · exact ⟨a.1, b.1, by rw [c]; exact Int.le_refl _⟩
def zP : Pk := ⟨0, 0, 0, 0, ⟨0, 0, 0, 0, 0⟩⟩
def padP (N : Nat) (K : List Pk) : List Pk := K ++ List.replicate (N - K.length) zP
theorem padP_len {N : Nat} {K : List Pk} (h : K.length ≤ N) : (padP N K).length = N := by
  simp only [padP, List.length_append, List.length_replicate]; omega
theorem padP_full {K : List Pk} : padP K.length K = K := by simp [padP]
theorem padP_take {N n : Nat} {K : List Pk} (h : n = K.length) : List.take n ((padP N K).map cP) = K.map cP := by
  subst h
  unfold padP; rw [List.map_append, List.take_left' (by simp)]
theorem pad_drop {N i m : Nat} {K : List Pk} (hm : m = K.length) : List.take (m - (i + 1)) (List.drop (0 + (i + 1)) ((padP N K).map cP)) = (K.map cP).drop (i + 1) := by
  subst hm
  unfold padP
  rw [Nat.zero_add, List.map_append]
  rcases Nat.lt_or_ge (i + 1) (K.map cP).length with h | h
  · rw [List.drop_append_of_le_length (by omega), List.take_left' (by simp)]
  · rw [List.length_map] at h
    rw [show K.length - (i + 1) = 0 by omega, List.take_zero, List.drop_eq_nil_of_le (by simpa using h)]
theorem pad_del {N i : Nat} {K : List Pk} {R : List (List Ce)} (hi : i < K.length) (hN : K.length ≤ N) (hR : R = (K.map cP).drop (i + 1)) : lay (lay ((padP N K).map cP) (i - 0) R) (0 + (K.length - 1)) [cP zP] = (padP N (K.eraseIdx i)).map cP := by
  subst hR
  unfold padP
  rw [List.length_eraseIdx, if_pos hi, List.eraseIdx_eq_take_drop_succ, List.map_append, List.map_append, List.map_append, List.map_take, List.map_drop, List.map_replicate, List.map_replicate, show N - (K.length - 1) = (N - K.length) + 1 by omega, List.replicate_succ]
  generalize hM : K.map cP = M
  have hl : M.length = K.length := by rw [← hM, List.length_map]
  generalize List.replicate (N - K.length) (cP zP) = Z
  rw [Nat.sub_zero, Nat.zero_add]
  unfold lay
  have e1 : (List.take i (M ++ Z) : List (List Ce)) = M.take i := List.take_append_of_le_length (by omega)
  have e2 : List.drop (i + (List.drop (i + 1) M).length) (M ++ Z) = M.drop (K.length - 1) ++ Z := by
    rw [List.length_drop, show i + (M.length - (i + 1)) = K.length - 1 by omega, List.drop_append_of_le_length (by omega)]
  rw [e1, e2, ← List.append_assoc (M.take i)]
  have e3 : (M.take i ++ M.drop (i + 1)).length = K.length - 1 := by simp; omega
  have e4 : (M.drop (K.length - 1)).length = 1 := by simp; omega
  generalize M.take i ++ M.drop (i + 1) = A at *
  generalize M.drop (K.length - 1) = B at *
  rw [List.take_left' e3, show K.length - 1 + [cP zP].length = A.length + B.length by simp; omega, ← List.append_assoc, ← List.append_assoc A, List.drop_left' (by simp)]
  simp
theorem pad_del2 {N i c : Nat} {K : List Pk} {R : List (List Ce)} {z : List Ce} (hc : c = 1) (hz : z = cP zP) (hi : i < K.length) (hN : K.length ≤ N) (hR : R = (K.map cP).drop (i + 1)) : lay (lay ((padP N K).map cP) (i - 0) R) (0 + (K.length - 1)) (List.replicate c z) = (padP N (K.eraseIdx i)).map cP := by
  subst hc hz; exact pad_del hi hN hR
theorem padP_at {N k : Nat} {L : List Pk} {x : Pk} (h : L[k]? = some x) : ((padP N L).map cP)[0 + k]? = some (cP x) := by
  rw [Nat.zero_add, List.getElem?_map]
  unfold padP
  rw [List.getElem?_append_left (List.getElem?_eq_some_iff.1 h).1, h]; rfl
theorem padP_app {N n : Nat} {L Q : List Pk} {S : List (List Ce)} (hn : n = L.length) (hS : S = Q.map cP) : List.take n ((padP N L).map cP) ++ S = (padP (L ++ Q).length (L ++ Q)).map cP := by
  subst hn hS
  rw [padP_take rfl, padP_full, List.map_append]
theorem u64_tm {n : Int} {L : Nat} (h : 0 < L) : ∃ k : Nat, (IntKind.u64.wrap n).tmod (L : Int) = (k : Int) ∧ k < L := by
  have h0 : 0 ≤ IntKind.u64.wrap n := by simp [IntKind.wrap, IntKind.bits, IntKind.signed]; omega
  obtain ⟨k, hk⟩ := Int.eq_ofNat_of_zero_le (Int.tmod_nonneg (L : Int) h0)
  refine ⟨k, hk, ?_⟩
  have := Int.tmod_lt_of_pos (IntKind.u64.wrap n) (show (0 : Int) < (L : Int) by omega)
  omega
theorem kind_11 (n : Int) : (IntKind.u64.wrap n).tmod 11 = 0 ∨ (IntKind.u64.wrap n).tmod 11 = 1 ∨ (IntKind.u64.wrap n).tmod 11 = 2 ∨ (IntKind.u64.wrap n).tmod 11 = 3 ∨ (IntKind.u64.wrap n).tmod 11 = 4 ∨ (IntKind.u64.wrap n).tmod 11 = 5 ∨ (IntKind.u64.wrap n).tmod 11 = 6 ∨ (IntKind.u64.wrap n).tmod 11 = 7 ∨ (IntKind.u64.wrap n).tmod 11 = 8 ∨ (IntKind.u64.wrap n).tmod 11 = 9 ∨ (IntKind.u64.wrap n).tmod 11 = 10 := by
  obtain ⟨k, hk, h⟩ := u64_tm (n := n) (L := 11) (by decide)
  have : (IntKind.u64.wrap n).tmod 11 = (k : Int) := hk
  omega
/-! ### The state of both ends -/
abbrev PCb (i : Nat) (rows : List (List Ce)) : Bool → Ce
  | true => .v (.slice none 0 0)
  | false => .gsl i rows
abbrev PBb (put : List El) : Bool → Option Z.Ob
  | true => none
  | false => some (.b ⟨put.map cE, 5, 33, false⟩)
abbrev WCb (i : Nat) : Option (List Pk × Nat) → Ce
  | none => .v (.slice none 0 0)
  | some (L, _) => .osl i 0 L.length none
abbrev WBb : Option (List Pk × Nat) → Option Z.Ob
  | none => none
  | some (L, n) => some (.b ⟨(padP n L).map cP, 9, 35, false⟩)
abbrev wl : Option (List Pk × Nat) → List Pk
  | none => []
  | some (L, _) => L
abbrev wn : Option (List Pk × Nat) → Prop
  | none => True
  | some (L, n) => L.length ≤ n
structure St where
  kd : Int
  n : Int
  keeps : Bool
  e : El
  p : Pk
abbrev eT (x : St) : List RT := [RT.v (.int .i64 x.kd), RT.v (.int .i64 x.n), RT.v (.bool x.keeps)] ++ (eE x.e ++ eP x.p)
theorem gslo {i n : Nat} {rows : List (List Ce)} (hne : 0 < rows.length) (hn : n = rows.length) : Z.Imp (.gsl i rows) (.osl i 0 n none) := fun I R u h => by
  subst hn
  rcases h with ⟨rfl, _⟩ | ⟨_, p, c', hp, rfl, h1, h2⟩
  · simp at hne
  · exact ⟨p, c', hp, by rw [Nat.zero_mul], h1, by omega, fun _ h => nomatch h⟩
theorem WBb_sub {K : Z.Kr} {r : Nat → Nat} {j : Nat} {w : Option (List Pk × Nat)} (h : Z.kz K (r j) = WBb w) : ∀ b, WBb w = some b → Z.kz K (r j) = some (b.ren r) := fun b hb => by
  rw [h, hb]
  cases w with
  | none => cases hb
  | some w =>
    obtain ⟨L, n⟩ := w
    cases hb
    simp only [Z.Ob.ren, Blk.ren]
    rw [ren_map (f := cP) (fun _ => rfl)]
theorem pe_false {put : List El} (h : false = true ↔ put = []) : 0 < put.length := by
  rcases put with _ | ⟨a, b⟩
  · exact absurd (h.2 rfl) (by simp)
  · simp
theorem pe_true {rm : Int} {i B N T : Nat} {l : Int} {put : List El} {w : List Pk} (h : true = true ↔ put = []) (H : LInv rm i B N T l put w) : put = [] ∧ N = 0 ∧ T = 0 ∧ B = 0 := by
  have h1 := h.1 rfl
  subst h1
  have h2 := H.hNP
  have h3 := H.hTN
  have h4 := H.hBN
  simp at h2
  exact ⟨rfl, by omega, by omega, by omega⟩
theorem tk_app {put : List El} {N T : Nat} {e : El} (h1 : T ≤ N) (h2 : N ≤ put.length) : (put ++ [e]).take T = put.take T ∧ bfL (put ++ [e]) N T = bfL put N T := by
  constructor
  · rw [List.take_append_of_le_length (by omega)]
  · unfold bfL; rw [List.take_append_of_le_length h2]
theorem map_snoc {α β : Type} {f : α → β} {l : List α} {x : α} {S : List β} (h : S = [f x]) : l.map f ++ S = (l ++ [x]).map f := by rw [h, List.map_append]; rfl
theorem tk_snoc {l : List El} {k : Nat} {y : El} {S : List (List Ce)} (h : l[k]? = some y) (hS : S = [cE y]) : (l.take k).map cE ++ S = (l.take (k + 1)).map cE := by
  rw [hS, take_snoc h, List.map_append]; rfl
theorem padP_src {Q : List Pk} {fl : Bool} : (Q.map eP).map (List.map (RT.ce fl)) = (padP Q.length Q).map cP := by
  rw [padP_full, map_ce (f := cP) fun _ => rfl]
theorem erase_sub {L : List Pk} {k : Nat} : ∀ p ∈ L.eraseIdx k, p ∈ L := fun p hp => List.mem_of_mem_eraseIdx hp
theorem erase_le {L : List Pk} {k : Nat} : (L.eraseIdx k).length ≤ L.length := by rw [List.length_eraseIdx]; split <;> omega
theorem kind_g (n : Int) : ((IntKind.u64.wrap n).tmod 11 = 0 ∨ (IntKind.u64.wrap n).tmod 11 = 1) ∨ ((IntKind.u64.wrap n).tmod 11 = 2 ∨ (IntKind.u64.wrap n).tmod 11 = 3) ∨ (IntKind.u64.wrap n).tmod 11 = 4 ∨ ((IntKind.u64.wrap n).tmod 11 = 5 ∨ (IntKind.u64.wrap n).tmod 11 = 6 ∨ (IntKind.u64.wrap n).tmod 11 = 7) ∨ (IntKind.u64.wrap n).tmod 11 = 8 ∨ (IntKind.u64.wrap n).tmod 11 = 9 ∨ (IntKind.u64.wrap n).tmod 11 = 10 := by
  have := kind_11 n
  omega
end Go.Proofs.Ytoiadndmbppobaa
namespace Go.Proofs.Ytoiadndmbppobaa
open Go Go.RowKit Wx
set_option linter.unusedVariables false
set_option linter.unusedSimpArgs false
set_option maxHeartbeats 4000000
theorem send_con (n b : Int) (q : List El) (l : Int) (d : Bool) (hq : q.length ≤ 9223372036854775807) (hu : ∀ e ∈ q, 0 ≤ e.num) (hb0 : 0 ≤ b) (hl0 : 0 ≤ l) : Con Try.prog 16 [.agg [.v (.int .u32 n), .v (.int .u64 b), .ro false 5 (q.map eE), .v (.int .u64 l), .v (.bool d)]] (fun rx rK rt => rx = .tup [.one (.ro true 9 ((sendR n b q l d).1.map eP)), .one (.v (.int .i64 (sendR n b q l d).2))] ∧ rK = [] ∧ rt = 0) := by
  refine Z.con_ofF tabOk 20 Try.f16 _ Try.func16 (by kernel_rfl) rfl rfl rfl rfl ?_
  have ck := checkS_con n b q l d hq hu hb0 hl0
  unfold sendR
  cases hk : okS n b q l d
  all_goals rw [hk] at ck
  all_goals simp only [cond_true, cond_false] at ck ⊢
  · skip
    repeat' ((conv => whnf); first
      | with_reducible first | refine spB_t ?_
      | ((with_reducible apply spB_cong); (focus (simp only [beq_self_eq_true, bne_self_eq_false, Bool.true_bne, Bool.false_bne, Bool.bne_true, Bool.bne_false, Bool.true_beq, Bool.false_beq, Bool.not_true, Bool.not_false, Bool.not_not, Int.reduceBEq, Int.reduceBNe, Int.reduceLE, Int.reduceLT, Int.reduceEq, decide_true, decide_false]; rfl)))
      | ((first | (with_reducible refine Z.callZ_mk ?_ (ck) ?_)); (focus ((repeat' (first | exact trivial | exact rfl | apply And.intro)); done))))
    all_goals (try (conv => whnf))
    all_goals try (show Nat.ble _ _ = true; rfl)
    all_goals first
      | ((first | (with_reducible apply Z.retF2)); (focus (exact rfl)); (repeat' (first | exact trivial | (with_reducible apply Z.frz_one) | (exact Z.frz_nil) | exact rfl | apply And.intro)); (all_goals (try exact (fun _ => none))); all_goals (first | (simp; done)))
  have hs := okS_all hk
  repeat' ((conv => whnf); first
    | ((with_reducible apply spB_cong); (focus (simp only [beq_self_eq_true, bne_self_eq_false, Bool.true_bne, Bool.false_bne, Bool.bne_true, Bool.bne_false, Bool.true_beq, Bool.false_beq, Bool.not_true, Bool.not_false, Bool.not_not, Int.reduceBEq, Int.reduceBNe, Int.reduceLE, Int.reduceLT, Int.reduceEq, decide_true, decide_false]; rfl)))
    | with_reducible first | refine spB_no (by decide) ?_
    | with_reducible first | refine Z.callZ_in tabOk 4 Try.f54 _ Try.func54 (by kernel_rfl) rfl rfl rfl ?_ | refine Z.callZ_in tabOk 34 Try.f65 _ Try.func65 (by kernel_rfl) rfl rfl rfl ?_
    | ((first | (with_reducible refine Z.callZ_mk ?_ (ck) ?_)); (focus ((repeat' (first | exact trivial | exact rfl | apply And.intro)); done)))
    | ((with_reducible apply ex_and); exact rfl)
    | ((with_reducible refine Z.RangeZ.red ?_); (refine Z.range_rule [(5, _), (13, _)] rfl ⟨rfl, rfl, trivial⟩ rfl rfl ?_); intro lb hlb))
  all_goals (try (conv => whnf))
  all_goals try (show Nat.ble _ _ = true; rfl)
  all_goals try (exfalso; rename_i hz; cases hz; done)
  all_goals try (exfalso; (try simp only [LN] at *) <;> omega)
  refine Z.loopK tabOk (fun zq : Nat × List Pk => [(9, .val (.int .i64 (zq.1 : Int)))]) (fun zq : Nat × List Pk => ([(1, some (Z.Ob.b ⟨[[.gsl 4 (zq.2.map cP)]], 1, 44, true⟩)), (4, (gB 9 35 (zq.2.map cP)).map Z.Ob.b)] : Z.Kr)) (fun zq => zq.1 ≤ q.length ∧ zq.2 ++ pks n l (b + (zq.1 : Int)) (q.drop zq.1) = pks n l b q) (fun zq => q.length - zq.1) (0, []) 5 [(0, _), (1, _), (7, _), (8, _)] ⟨rfl, rfl, rfl, rfl, trivial⟩ [(0, some _), (2, some _), (3, some _)] ⟨rfl, rfl, rfl, trivial⟩ ?_ ?_ rfl rfl ⟨Nat.zero_le _, by simp⟩ ?_
  · repeat' (first | exact trivial | apply And.intro | exact ⟨_, rfl, Z.Imp.refl _⟩)
  · repeat' (first | exact trivial | (intro b hb; cases hb; done) | (intro b hb; cases hb; refine ⟨_, rfl, ⟨rfl, rfl, rfl⟩, ?_⟩; (repeat' (first | exact trivial | apply And.intro | exact Z.Imp.nilg _)); done) | apply And.intro)
  rintro ⟨i, acc⟩ HINV
  dsimp only at HINV ⊢
  obtain ⟨HI, HA⟩ := HINV
  have hal := congrArg List.length HA
  have hpl := @pks_len n l b q
  rw [List.length_append] at hal
  by_cases hi : i < q.length
  · obtain ⟨x, hx⟩ := getElem?_some' (xs := q) (i := i) hi
    rw [drop_cons hx, pks] at HA
    by_cases hli : b + (i : Int) ≤ l
    · rw [if_pos hli] at HA
      repeat' ((conv => whnf); first
        | ((with_reducible apply spB_cong); (focus (simp only [beq_self_eq_true, bne_self_eq_false, Bool.true_bne, Bool.false_bne, Bool.bne_true, Bool.bne_false, Bool.true_beq, Bool.false_beq, Bool.not_true, Bool.not_false, Bool.not_not, Int.reduceBEq, Int.reduceBNe, Int.reduceLE, Int.reduceLT, Int.reduceEq, decide_true, decide_false]; rfl)))
        | with_reducible first | refine spB_no (by decide) ?_
        | (with_reducible refine spB_dec ?_ ?_ <;> intro _ <;> (try (exfalso; first | contradiction | omega | (rename_i hz; refine hz ?_; simp; done) | (rename_i hz; simp at hz; done) | (simp only [LN] at *; omega))))
        | with_reducible first | refine Z.rowN_known hx ?_
        | ((with_reducible refine posE_pos ?_ ?_); (focus ((try simp only [LN] at *) <;> omega)))
        | ((with_reducible apply ixN_litp); (focus (exact rfl)); (focus ((try simp only [LN] at *) <;> omega)))
        | ((with_reducible refine apdN.mk ?_ ?_ ?_ ?_ ?_ ?_); (focus (first | rfl)); (focus (first | exact one_all (by rfl))); (focus ((try simp only [LN] at *) <;> omega)); (focus ((try simp only [LN] at *) <;> omega)); (focus ((try simp only [LN] at *) <;> omega)))
        | with_reducible refine wr_i64 (by first | omega | (simp only [LN] at *; omega)) ?_
        | with_reducible refine wr_u64 (by omega) ?_
        | ((with_reducible refine eqN_mk2 ?_ ?_); (focus (exact Z.kb_some rfl)))
        | ((with_reducible refine Z.CallZ.yl ?_); subst hlb; refine Z.yield_rule tabOk _ _ rfl rfl rfl rfl ?_))
      all_goals (try (conv => whnf))
      all_goals try (show Nat.ble _ _ = true; rfl)
      all_goals first
        | ((refine Z.rndK ((i + 1, acc ++ [⟨1, n, b + (i : Int), 0, x⟩])) (fun s => [0, 1, 2, 3, s.idIn 1 0]) rfl rfl rfl rfl ?_ ?_ ?_ ?_); (focus (repeat' (first | exact trivial | exact rfl | apply And.intro))); (focus (repeat' (first | exact trivial | (intro b hb; cases hb; rfl) | (intro b hb; cases hb; rw [List.map_append (f := cP)]; rfl) | exact Z.gB_sub' rfl (by first | rfl | (rw [List.map_append]; rfl) | simp only [List.map_append, List.map_cons, List.map_nil]) (ren_map fun _ => rfl) | apply And.intro))); (focus (exact ⟨by (try dsimp only); omega, by (try dsimp only); rw [← HA, List.append_assoc]; simp [Int.add_assoc]⟩)); ((try dsimp only); omega))
    · rw [if_neg hli, List.append_nil] at HA
      subst HA
      repeat' ((conv => whnf); first
        | with_reducible first | refine spB_t ?_
        | (with_reducible refine spB_dec ?_ ?_ <;> intro _ <;> (try (exfalso; first | contradiction | omega | (rename_i hz; refine hz ?_; simp; done) | (rename_i hz; simp at hz; done) | (simp only [LN] at *; omega))))
        | with_reducible first | refine Z.rowN_known hx ?_
        | ((with_reducible apply ixN_litp); (focus (exact rfl)); (focus ((try simp only [LN] at *) <;> omega)))
        | with_reducible refine wr_u64 (by omega) ?_
        | ((with_reducible apply ex_and); exact rfl)
        | ((with_reducible refine Z.rngN.mk ?_); (try subst hlb)))
      all_goals (try (conv => whnf))
      all_goals try (show Nat.ble _ _ = true; rfl)
      all_goals first
        | ((first | (with_reducible apply Z.retF2)); (focus (exact rfl)); (repeat' (first | exact trivial | (with_reducible apply Z.frz_one) | (with_reducible apply Z.fq_int) | ((with_reducible apply Z.fq_gsl); (focus (first | exact Z.isB_map _)); (focus (exact fun _ => rfl))) | exact rfl | apply And.intro)); (all_goals (try exact (fun _ => none))); all_goals (first | (simp; done)))
  have hil : i = q.length := by omega
  subst hil
  rw [List.drop_length, pks, List.append_nil] at HA
  subst HA
  repeat' ((conv => whnf); first
    | (with_reducible refine spB_dec ?_ ?_ <;> intro _ <;> (try (exfalso; first | contradiction | omega | (rename_i hz; refine hz ?_; simp; done) | (rename_i hz; simp at hz; done) | (simp only [LN] at *; omega))))
    | ((with_reducible apply ex_and); exact rfl)
    | ((with_reducible refine Z.rngN.mk ?_); (try subst hlb)))
  all_goals (try (conv => whnf))
  all_goals try (show Nat.ble _ _ = true; rfl)
  all_goals first
    | ((first | (with_reducible apply Z.retF2)); (focus (exact rfl)); (repeat' (first | exact trivial | (with_reducible apply Z.frz_one) | (with_reducible apply Z.fq_int) | ((with_reducible apply Z.fq_gsl); (focus (first | exact Z.isB_map _)); (focus (exact fun _ => rfl))) | exact rfl | apply And.intro)); (all_goals (try exact (fun _ => none))); all_goals (first | (simp; done)))

end Go.Proofs.Ytoiadndmbppobaa
namespace Go.Proofs.Ytoiadndmbppobaa
open Go Go.RowKit Wx
set_option linter.unusedVariables false
set_option linter.unusedSimpArgs false
set_option maxHeartbeats 4000000
theorem wakes_con : Con Try.prog 10 [] (fun x K t => x = .val (.bool true) ∧ K = [] ∧ t = 0) := Y.con_run ftabOk tabOk mixOk 40 12 (by kernel_rfl) (by kernel_rfl)
theorem open_con : Con Try.prog 32 [.one (.v (.int .u32 7))] (fun rx rK rt => rx = .tup [.agg [.v (.int .u32 7), .v (.int .u64 1), .v (.slice none 0 0), .v (.int .u64 0), .v (.bool false)], .one (.v (.int .i64 0))] ∧ rK = [] ∧ rt = 0) := Y.con_eval ftabOk tabOk mixOk 40 12 (by kernel_rfl) (by rfl) (by kernel_rfl)
theorem listen_con (r : Int) (h1 : 1 ≤ r) (h8 : r ≤ 8) : Con Try.prog 33 [.one (.v (.int .u32 7)), .one (.v (.int .i64 r))] (fun rx rK rt => rx = .tup [.agg [.v (.int .u32 7), .v (.int .u64 1), .ro true 5 (([] : List El).map eE), .v (.int .i64 r)], .one (.v (.int .i64 0))] ∧ rK = [] ∧ rt = 0) := by
  refine Z.con_ofF tabOk 21 Try.f33 _ Try.func33 (by kernel_rfl) rfl rfl rfl rfl ?_
  repeat' ((conv => whnf); first
    | with_reducible first | refine spB_t ?_
    | ((with_reducible apply spB_cong); (focus (simp only [beq_self_eq_true, bne_self_eq_false, Bool.true_bne, Bool.false_bne, Bool.bne_true, Bool.bne_false, Bool.true_beq, Bool.false_beq, Bool.not_true, Bool.not_false, Bool.not_not, Int.reduceBEq, Int.reduceBNe, Int.reduceLE, Int.reduceLT, Int.reduceEq, decide_true, decide_false]; rfl)))
    | with_reducible first | refine spB_yes (by decide) ?_ | refine spB_no (by decide) ?_
    | (with_reducible refine spB_dec ?_ ?_ <;> intro _ <;> (try (exfalso; first | contradiction | omega | (rename_i hz; refine hz ?_; simp; done) | (rename_i hz; simp at hz; done) | (simp only [LN] at *; omega))))
    | with_reducible first | refine Z.callZ_in tabOk 9 Try.f46 _ Try.func46 (by kernel_rfl) rfl rfl rfl ?_
    | ((with_reducible apply ex_and); exact rfl))
  all_goals (try (conv => whnf))
  all_goals try (show Nat.ble _ _ = true; rfl)
  all_goals first
    | ((first | (with_reducible apply Z.retF2)); (focus (exact rfl)); (repeat' (first | exact trivial | (with_reducible apply Z.frz_one) | (with_reducible apply Z.frz_agg) | (with_reducible apply Z.fq_int) | (exact Z.frz_nil) | exact rfl | apply And.intro)); (all_goals (try exact (fun _ => none))); all_goals (first | (simp; done)))

end Go.Proofs.Ytoiadndmbppobaa
namespace Go.Proofs.Ytoiadndmbppobaa
open Go Go.RowKit Wx
set_option linter.unusedVariables false
set_option linter.unusedSimpArgs false
set_option maxHeartbeats 4000000
/-- The bodies of a code's loops. -/
def lbs : Code → List Code
  | .loop b => b :: lbs b
  | .seq a b => lbs a ++ lbs b
  | .cond _ a b => lbs a ++ lbs b
  | .block _ b => lbs b
  | .rangeFunc _ _ a b => lbs a ++ lbs b
  | .scope b => lbs b
  | _ => []
def lbody (f : Func) : Code := ((f.body.map lbs).getD []).headD .skip
def loopPost (R : Z.S → Prop) (Q : Exit → Z.S → Prop) : Exit → Z.S → Prop := fun e s' => match e with
  | .normal => R s'
  | e => Q e s'
abbrev GT := Nat × Nat × Nat × Nat × Int × List El × Bool × Option (List Pk × Nat)
abbrev gCK (rm : Int) (zq : GT) : Z.Kr := [(2, some (Z.Ob.b ⟨[[.v (.int .u32 7), .v (.int .u64 ((zq.2.1 : Int) + 1)), .ro true 5 ((zq.2.2.2.2.2.1.drop zq.2.1).map eE), .v (.int .u64 zq.2.2.2.2.1), .v (.bool (endsL zq.2.2.2.2.2.1)), .v (.int .u32 7), .v (.int .u64 ((zq.2.2.1 : Int) + 1)), .ro true 5 ((bfL zq.2.2.2.2.2.1 zq.2.2.1 zq.2.2.2.1).map eE), .v (.int .i64 rm), WCb 3 zq.2.2.2.2.2.2.2, PCb 4 (zq.2.2.2.2.2.1.map cE) zq.2.2.2.2.2.2.1, .gsl 5 ((zq.2.2.2.2.2.1.take zq.2.2.2.1).map cE)]], 12, 85, true⟩)), (3, WBb zq.2.2.2.2.2.2.2), (4, PBb zq.2.2.2.2.2.1 zq.2.2.2.2.2.2.1), (5, (gB 5 33 ((zq.2.2.2.2.2.1.take zq.2.2.2.1).map cE)).map Z.Ob.b)]
abbrev gCH (sl : Nat) (zq : GT) : Fr := [(sl, .val (.int .i64 (zq.1 : Int)))]
abbrev gFk (a b c : Nat) (ls : List St) : Fr := [(a, .pl (.one (.own 2 0 0))), (b, .pl (.one (.ro false 17 (ls.map eT)))), (c, .val (.int .i64 ((ls.map eT).length : Int)))]
abbrev gInv (rm : Int) (n bd : Nat) (zq : GT) : Prop := zq.1 ≤ n ∧ zq.1 ≤ bd ∧ LInv rm zq.1 zq.2.1 zq.2.2.1 zq.2.2.2.1 zq.2.2.2.2.1 zq.2.2.2.2.2.1 (wl zq.2.2.2.2.2.2.2) ∧ wn zq.2.2.2.2.2.2.2 ∧ (zq.2.2.2.2.2.2.1 = true ↔ zq.2.2.2.2.2.1 = [])
/-- What a round of the loop over all steps comes to. -/
abbrev gRnd (rm : Int) (sl a b c bd : Nat) (ls : List St) (p : GT) (s' : Z.S) : Prop := Z.rndZ 0 (fun zq => (⟨gCH sl zq ++ gFk a b c ls, gCK rm zq ++ [], 6⟩ : Z.S)) (gInv rm ls.length bd) (fun zq => ls.length - zq.1) p s'
theorem tm8 (p : Int) : 0 ≤ (IntKind.u64.wrap p).tmod 8 ∧ (IntKind.u64.wrap p).tmod 8 < 8 := by
  obtain ⟨k, hk, h⟩ := u64_tm (n := p) (L := 8) (by decide)
  have : (IntKind.u64.wrap p).tmod 8 = (k : Int) := hk
  omega
end Go.Proofs.Ytoiadndmbppobaa
namespace Go.Proofs.Ytoiadndmbppobaa
open Go Go.RowKit Wx
set_option linter.unusedVariables false
set_option linter.unusedSimpArgs false
set_option maxHeartbeats 40000000
theorem r_put (rm : Int) (ls : List St) (hl : ls.length ≤ 9223372036854775807) (i B N T : Nat) (l : Int) (put : List El) (pe : Bool) (w : Option (List Pk × Nat)) (HI : i ≤ ls.length) (HB : i ≤ 50) (H : LInv rm i B N T l put (wl w)) (HW : wn w) (HP : pe = true ↔ put = []) (hi : i < ls.length) (kd n : Int) (keeps : Bool) (e : El) (pk : Pk) (hx : ls[i]? = some ⟨kd, n, keeps, e, pk⟩) (hux : 0 ≤ e.num ∧ 0 ≤ pk.sq ∧ 0 ≤ pk.lim ∧ 0 ≤ pk.e.num) (hib : ¬ i = 50) (h4 : ((IntKind.u64.wrap kd).tmod 11 = 0 ∨ (IntKind.u64.wrap kd).tmod 11 = 1))  {Q : Exit → Z.S → Prop} : Z.codeZ Try.prog tab 96 0 none (lbody Try.f9) ⟨gCH 27 (i, B, N, T, l, put, pe, w) ++ gFk 5 25 26 ls, gCK rm (i, B, N, T, l, put, pe, w) ++ [], 6⟩ (loopPost (gRnd rm 27 5 25 26 50 ls (i, B, N, T, l, put, pe, w)) Q) := by
  dsimp only [gCH, gFk, gCK, gRnd]
  rcases h4 with h4 | h4
  all_goals (
    have cp := put_con 7 ((B : Int) + 1) (put.drop B) l (endsL put) e (by have h9 := H.hpl; simp only [List.length_take, List.length_drop]; omega) (fun e he => okEs_num H.hP e (List.mem_of_mem_drop he)) (by omega) H.hl0 hux.1
    rcases H.puts e with ⟨s9, c9, hc9, hE⟩ | ⟨hE, H2⟩
    · rw [hE] at cp
      dsimp only at cp
      have H2 := H.more
      have hqm : (List.map eE (put.drop B)).length = put.length - B := by rw [List.length_map, List.length_drop]
      have hbm : (List.map eE (bfL put N T)).length = N - T := by rw [List.length_map, bfL_len H2.hNP]
      have hq9 : (put.drop B).length = put.length - B := List.length_drop
      have hb9 := bfL_len (T := T) H2.hNP
      have hn9 := H2.hNP
      have hbn9 := H2.hBN
      have htn9 := H2.hTN
      have hR9 := (okR_all H2.hR).1
      have hpl9 := H2.hpl
      have hS9 := (okS_all H2.hS).1
      have H9 := H2.sub (w' := []) (fun p h => nomatch h) (Nat.zero_le _)
      have cse2 := send_con 7 ((B : Int) + 1) (put.drop B) l (endsL put) (by have h9 := H9.hpl; simp only [List.length_take, List.length_drop]; omega) (fun e he => okEs_num H9.hP e (List.mem_of_mem_drop he)) (by omega) H9.hl0
      rw [H9.sent] at cse2
      dsimp only at cse2
      have hQ9 := fun (p : Pk) hp => H9.pks_ok (p := p) hp
      have hql9 := @pks_len 7 l ((B : Int) + 1) (put.drop B)
      generalize pks 7 l ((B : Int) + 1) (put.drop B) = Q9 at *
      cases pe
      · have hp0 : 0 < put.length := pe_false HP
        have hpne : put ≠ [] := fun h9 => by simp [h9] at hp0
        repeat' ((conv => whnf); first
          | with_reducible first | refine spB_t ?_
          | ((with_reducible apply spB_cong); (focus (simp only [beq_self_eq_true, bne_self_eq_false, Bool.true_bne, Bool.false_bne, Bool.bne_true, Bool.bne_false, Bool.true_beq, Bool.false_beq, Bool.not_true, Bool.not_false, Bool.not_not, Int.reduceBEq, Int.reduceBNe, Int.reduceLE, Int.reduceLT, Int.reduceEq, decide_true, decide_false]; rfl)))
          | with_reducible first | refine spB_no (by decide) ?_
          | (with_reducible refine spB_dec ?_ ?_ <;> intro _ <;> (try (exfalso; first | contradiction | omega | (rename_i hz; refine hz ?_; simp; done) | (rename_i hz; simp at hz; done) | (simp only [LN] at *; omega))))
          | (with_reducible refine spB_beq ?_ ?_ <;> intro _ <;> (try (exfalso; first | contradiction | omega | (rename_i hz; refine hz ?_; simp; done) | (rename_i hz; simp at hz; done) | (simp only [LN] at *; omega))))
          | with_reducible first | refine Z.rowN_known hx ?_
          | ((with_reducible refine Z.vN_K h4 ?_ ?_); (focus rfl))
          | ((with_reducible apply ixN_litp); (focus (exact rfl)); (focus ((try simp only [LN] at *) <;> omega)))
          | with_reducible first | refine wr_mk _ rfl ?_
          | with_reducible refine nzN_mk (by omega) ?_
          | with_reducible first | refine Z.callZ_in tabOk 153 Try.f37 _ Try.func37 (by kernel_rfl) rfl rfl rfl ?_
          | ((first | (with_reducible refine Z.conZ_mz ?_ (cp) ?_)); (focus ((repeat' (first | exact trivial | exact rfl | apply And.intro)); done)))
          | ((first | (with_reducible refine Z.callZ_mk ?_ (cse2) ?_)); (focus ((repeat' (first | exact trivial | exact rfl | apply And.intro)); done)))
          | ((with_reducible apply ex_and); exact rfl)
          | with_reducible first | refine Z.drawZ_rule tabOk mixOk ?_ | refine Z.apZ_mk (by kernel_rfl) ?_)
        all_goals (try (conv => whnf))
        all_goals try (show Nat.ble _ _ = true; rfl)
        all_goals try (exfalso; rename_i hz; cases hz; done)
        all_goals try (exfalso; (try simp only [LN] at *) <;> omega)
        all_goals (
          refine Z.loopK tabOk (fun zq : Nat × Nat => [(54, .val (.int .i64 (zq.1 : Int)))]) (fun zq : Nat × Nat => ([(9, some (Z.Ob.b ⟨[[.v (.int .u32 7), .v (.int .u64 ((zq.2 : Int) + 1)), .ro true 5 ((bfL put zq.2 T).map eE), .v (.int .i64 rm)]], 4, 55, true⟩))] : Z.Kr)) (fun zq => zq.1 ≤ Q9.length ∧ LInv rm (i + 1) B zq.2 T l put []) (fun zq => Q9.length - zq.1) (0, N) 10 [(5, _), (11, _), (25, _), (26, _), (27, _), (52, _), (53, _)] ⟨rfl, rfl, rfl, rfl, rfl, rfl, rfl, trivial⟩ [(2, _), (3, _), (4, _), (5, _), (6, _), (7, _), (8, _)] ⟨rfl, rfl, rfl, rfl, rfl, rfl, rfl, trivial⟩ ?_ ?_ rfl rfl ⟨Nat.zero_le _, H9⟩ ?_
          · repeat' (first | exact trivial | apply And.intro | exact ⟨_, rfl, Z.Imp.refl _⟩)
          · repeat' (first | exact trivial | exact (fun b hb => ⟨b, hb, Z.ImpO.refl b⟩) | apply And.intro)
          rintro ⟨j, M⟩ HINV
          dsimp only at HINV ⊢
          obtain ⟨HJ, HM⟩ := HINV
          by_cases hj : j < Q9.length
          · obtain ⟨y9, hy9⟩ := getElem?_some' (xs := Q9) (i := j) hj
            obtain ⟨k9, hk9a, hk9b, hk9c, hk9d⟩ := hQ9 y9 (List.mem_of_getElem? hy9)
            have hyok9 : okP put rm M T y9 := by rw [hk9c]; exact ⟨rfl, .inl ⟨rfl, rfl, k9, rfl, hk9b⟩⟩
            have hyse9 : y9.se = 7 := by rw [hk9c]
            have hysq9 : y9.sq = (k9 : Int) + 1 := by rw [hk9c]
            have hykd9 : y9.kd ≠ 2 := by rw [hk9c]; show (1 : Int) ≠ 2; decide
            have hyn9 := hyok9.num HM.hP
            have che := hear_con 7 ((M : Int) + 1) (bfL put M T) rm y9 (by have h9 := HM.hpl; simp only [List.length_take, List.length_drop]; omega) (fun e he => okEs_num HM.hP e (List.mem_of_mem_take (List.mem_of_mem_drop he))) (by omega) hyn9.1 hyn9.2.2
            obtain ⟨M', hM9, hE9, HM2, hgot⟩ := HM.hear (.inl hyok9) hykd9
            rw [hE9] at che
            dsimp only at che
            have hg2 := hgot hyse9
            have hl8 := HM.hl
            have ht8 := HM.hTN
            have hR8 := (okR_all HM.hR).1
            have hbm8 : (List.map eE (bfL put M T)).length = M - T := by rw [List.length_map, bfL_len HM.hNP]
            have hbm7 : (List.map eE (bfL put M' T)).length = M' - T := by rw [List.length_map, bfL_len HM2.hNP]
            have ht7 := HM2.hTN
            by_cases hs9 : y9.sq = (M : Int) + 1
            · have hM8 : M' = M + 1 := hg2 hs9 (by omega)
              repeat' ((conv => whnf); first
                | with_reducible first | refine spB_t ?_
                | ((with_reducible apply spB_cong); (focus (simp only [beq_self_eq_true, bne_self_eq_false, Bool.true_bne, Bool.false_bne, Bool.bne_true, Bool.bne_false, Bool.true_beq, Bool.false_beq, Bool.not_true, Bool.not_false, Bool.not_not, Int.reduceBEq, Int.reduceBNe, Int.reduceLE, Int.reduceLT, Int.reduceEq, decide_true, decide_false]; rfl)))
                | with_reducible first | refine spB_no (by decide) ?_
                | (with_reducible refine spB_dec ?_ ?_ <;> intro _ <;> (try (exfalso; first | contradiction | omega | (rename_i hz; refine hz ?_; simp; done) | (rename_i hz; simp at hz; done) | (simp only [LN] at *; omega))))
                | (with_reducible refine spB_beq ?_ ?_ <;> intro _ <;> (try (exfalso; first | contradiction | omega | (rename_i hz; refine hz ?_; simp; done) | (rename_i hz; simp at hz; done) | (simp only [LN] at *; omega))))
                | (with_reducible refine spB_bne ?_ ?_ <;> intro _ <;> (try (exfalso; first | contradiction | omega | (rename_i hz; refine hz ?_; simp; done) | (rename_i hz; simp at hz; done) | (simp only [LN] at *; omega))))
                | with_reducible first | refine Z.rowN_known hy9 ?_
                | ((with_reducible apply ixN_litp); (focus (exact rfl)); (focus ((try simp only [LN] at *) <;> omega)))
                | with_reducible refine wr_i64 (by first | omega | (simp only [LN] at *; omega)) ?_
                | with_reducible refine wr_u64 (by omega) ?_
                | ((first | (with_reducible refine Z.callZ_mk ?_ (che) ?_)); (focus ((repeat' (first | exact trivial | exact rfl | apply And.intro)); done))))
              all_goals (try (conv => whnf))
              all_goals try (show Nat.ble _ _ = true; rfl)
              all_goals try (exfalso; rename_i hz; cases hz; done)
              all_goals try (exfalso; (try simp only [LN] at *) <;> omega)
              all_goals first
                | ((refine Z.rndK ((j + 1, M')) (fun s => [0, 1, 2, 3, 4, 5, 6, 7, 8, 9]) rfl rfl rfl rfl ?_ ?_ ?_ ?_); (focus (repeat' (first | exact trivial | exact rfl | apply And.intro))); (focus (repeat' (first | exact trivial | exact WBb_sub rfl | (intro b hb; cases hb; first | rfl | (cases w <;> rfl)) | exact Z.blk_sub rfl rfl (ren_map fun _ => rfl) | exact Z.gB_sub rfl rfl (ren_map fun _ => rfl) | apply And.intro))); (focus (exact ⟨by (try dsimp only); omega, HM2⟩)); ((try dsimp only); omega))
            · skip
              repeat' ((conv => whnf); first
                | ((with_reducible apply spB_cong); (focus (simp only [beq_self_eq_true, bne_self_eq_false, Bool.true_bne, Bool.false_bne, Bool.bne_true, Bool.bne_false, Bool.true_beq, Bool.false_beq, Bool.not_true, Bool.not_false, Bool.not_not, Int.reduceBEq, Int.reduceBNe, Int.reduceLE, Int.reduceLT, Int.reduceEq, decide_true, decide_false]; rfl)))
                | with_reducible first | refine spB_no (by decide) ?_
                | (with_reducible refine spB_dec ?_ ?_ <;> intro _ <;> (try (exfalso; first | contradiction | omega | (rename_i hz; refine hz ?_; simp; done) | (rename_i hz; simp at hz; done) | (simp only [LN] at *; omega))))
                | (with_reducible refine spB_beq ?_ ?_ <;> intro _ <;> (try (exfalso; first | contradiction | omega | (rename_i hz; refine hz ?_; simp; done) | (rename_i hz; simp at hz; done) | (simp only [LN] at *; omega))))
                | with_reducible first | refine Z.rowN_known hy9 ?_
                | ((with_reducible apply ixN_litp); (focus (exact rfl)); (focus ((try simp only [LN] at *) <;> omega)))
                | with_reducible refine wr_i64 (by first | omega | (simp only [LN] at *; omega)) ?_
                | with_reducible refine wr_u64 (by omega) ?_
                | ((first | (with_reducible refine Z.callZ_mk ?_ (che) ?_)); (focus ((repeat' (first | exact trivial | exact rfl | apply And.intro)); done))))
              all_goals (try (conv => whnf))
              all_goals try (show Nat.ble _ _ = true; rfl)
              all_goals try (exfalso; rename_i hz; cases hz; done)
              all_goals try (exfalso; (try simp only [LN] at *) <;> omega)
              all_goals first
                | ((refine Z.rndK ((j + 1, M')) (fun s => [0, 1, 2, 3, 4, 5, 6, 7, 8, 9]) rfl rfl rfl rfl ?_ ?_ ?_ ?_); (focus (repeat' (first | exact trivial | exact rfl | apply And.intro))); (focus (repeat' (first | exact trivial | exact WBb_sub rfl | (intro b hb; cases hb; first | rfl | (cases w <;> rfl)) | exact Z.blk_sub rfl rfl (ren_map fun _ => rfl) | exact Z.gB_sub rfl rfl (ren_map fun _ => rfl) | apply And.intro))); (focus (exact ⟨by (try dsimp only); omega, HM2⟩)); ((try dsimp only); omega))
          repeat' ((conv => whnf); first
            | (with_reducible refine spB_dec ?_ ?_ <;> intro _ <;> (try (exfalso; first | contradiction | omega | (rename_i hz; refine hz ?_; simp; done) | (rename_i hz; simp at hz; done) | (simp only [LN] at *; omega))))
            | with_reducible refine wr_i64 (by first | omega | (simp only [LN] at *; omega)) ?_)
          all_goals (try (conv => whnf))
          all_goals try (show Nat.ble _ _ = true; rfl)
          all_goals try (exfalso; rename_i hz; cases hz; done)
          all_goals try (exfalso; (try simp only [LN] at *) <;> omega)
          all_goals first
            | ((refine Z.rndK ((i + 1, B, N, T, l, put, false, w)) (fun s => [0, 1, 2, 3, 4, 5]) rfl rfl rfl rfl ?_ ?_ ?_ ?_); (focus (repeat' (first | exact trivial | exact rfl | apply And.intro))); (focus (repeat' (first | exact trivial | exact WBb_sub rfl | (intro b hb; cases hb; first | rfl | (cases w <;> rfl)) | exact Z.blk_sub rfl rfl (ren_map fun _ => rfl) | exact Z.gB_sub rfl rfl (ren_map fun _ => rfl) | apply And.intro))); (focus (exact ⟨by (try dsimp only); omega, by (try dsimp only); omega, H2, HW, HP⟩)); ((try dsimp only); omega)))
      · obtain ⟨rfl, rfl, rfl, rfl⟩ := pe_true HP H
        repeat' ((conv => whnf); first
          | with_reducible first | refine spB_t ?_
          | ((with_reducible apply spB_cong); (focus (simp only [beq_self_eq_true, bne_self_eq_false, Bool.true_bne, Bool.false_bne, Bool.bne_true, Bool.bne_false, Bool.true_beq, Bool.false_beq, Bool.not_true, Bool.not_false, Bool.not_not, Int.reduceBEq, Int.reduceBNe, Int.reduceLE, Int.reduceLT, Int.reduceEq, decide_true, decide_false]; rfl)))
          | with_reducible first | refine spB_no (by decide) ?_
          | (with_reducible refine spB_dec ?_ ?_ <;> intro _ <;> (try (exfalso; first | contradiction | omega | (rename_i hz; refine hz ?_; simp; done) | (rename_i hz; simp at hz; done) | (simp only [LN] at *; omega))))
          | (with_reducible refine spB_beq ?_ ?_ <;> intro _ <;> (try (exfalso; first | contradiction | omega | (rename_i hz; refine hz ?_; simp; done) | (rename_i hz; simp at hz; done) | (simp only [LN] at *; omega))))
          | with_reducible first | refine Z.rowN_known hx ?_
          | ((with_reducible refine Z.vN_K h4 ?_ ?_); (focus rfl))
          | ((with_reducible apply ixN_litp); (focus (exact rfl)); (focus ((try simp only [LN] at *) <;> omega)))
          | with_reducible first | refine wr_mk _ rfl ?_
          | with_reducible refine nzN_mk (by omega) ?_
          | with_reducible first | refine Z.callZ_in tabOk 153 Try.f37 _ Try.func37 (by kernel_rfl) rfl rfl rfl ?_
          | ((first | (with_reducible refine Z.conZ_mz ?_ (cp) ?_)); (focus ((repeat' (first | exact trivial | exact rfl | apply And.intro)); done)))
          | ((first | (with_reducible refine Z.callZ_mk ?_ (cse2) ?_)); (focus ((repeat' (first | exact trivial | exact rfl | apply And.intro)); done)))
          | ((with_reducible apply ex_and); exact rfl)
          | with_reducible first | refine Z.drawZ_rule tabOk mixOk ?_ | refine Z.apZ_mk (by kernel_rfl) ?_)
        all_goals (try (conv => whnf))
        all_goals try (show Nat.ble _ _ = true; rfl)
        all_goals try (exfalso; rename_i hz; cases hz; done)
        all_goals try (exfalso; (try simp only [LN] at *) <;> omega)
        all_goals (
          refine Z.loopK tabOk (fun zq : Nat × Nat => [(54, .val (.int .i64 (zq.1 : Int)))]) (fun zq : Nat × Nat => ([(9, some (Z.Ob.b ⟨[[.v (.int .u32 7), .v (.int .u64 ((zq.2 : Int) + 1)), .ro true 5 ((bfL ([] : List El) zq.2 0).map eE), .v (.int .i64 rm)]], 4, 55, true⟩))] : Z.Kr)) (fun zq => zq.1 ≤ Q9.length ∧ LInv rm (i + 1) 0 zq.2 0 l ([] : List El) []) (fun zq => Q9.length - zq.1) (0, 0) 10 [(5, _), (11, _), (25, _), (26, _), (27, _), (52, _), (53, _)] ⟨rfl, rfl, rfl, rfl, rfl, rfl, rfl, trivial⟩ [(2, _), (3, _), (4, _), (5, _), (6, _), (7, _), (8, _)] ⟨rfl, rfl, rfl, rfl, rfl, rfl, rfl, trivial⟩ ?_ ?_ rfl rfl ⟨Nat.zero_le _, H9⟩ ?_
          · repeat' (first | exact trivial | apply And.intro | exact ⟨_, rfl, Z.Imp.refl _⟩)
          · repeat' (first | exact trivial | exact (fun b hb => ⟨b, hb, Z.ImpO.refl b⟩) | apply And.intro)
          rintro ⟨j, M⟩ HINV
          dsimp only at HINV ⊢
          obtain ⟨HJ, HM⟩ := HINV
          by_cases hj : j < Q9.length
          · obtain ⟨y9, hy9⟩ := getElem?_some' (xs := Q9) (i := j) hj
            obtain ⟨k9, hk9a, hk9b, hk9c, hk9d⟩ := hQ9 y9 (List.mem_of_getElem? hy9)
            simp at hk9b
          repeat' ((conv => whnf); first
            | (with_reducible refine spB_dec ?_ ?_ <;> intro _ <;> (try (exfalso; first | contradiction | omega | (rename_i hz; refine hz ?_; simp; done) | (rename_i hz; simp at hz; done) | (simp only [LN] at *; omega))))
            | with_reducible refine wr_i64 (by first | omega | (simp only [LN] at *; omega)) ?_)
          all_goals (try (conv => whnf))
          all_goals try (show Nat.ble _ _ = true; rfl)
          all_goals try (exfalso; rename_i hz; cases hz; done)
          all_goals try (exfalso; (try simp only [LN] at *) <;> omega)
          all_goals first
            | ((refine Z.rndK ((i + 1, 0, 0, 0, l, [], true, w)) (fun s => [0, 1, 2, 3, 4, 5]) rfl rfl rfl rfl ?_ ?_ ?_ ?_); (focus (repeat' (first | exact trivial | exact rfl | apply And.intro))); (focus (repeat' (first | exact trivial | exact WBb_sub rfl | (intro b hb; cases hb; first | rfl | (cases w <;> rfl)) | (intro b hb; cases hb; done) | apply And.intro))); (focus (exact ⟨by (try dsimp only); omega, by (try dsimp only); omega, H2, HW, HP⟩)); ((try dsimp only); omega)))
    · rw [hE] at cp
      dsimp only at cp
      have hqm : (List.map eE ((put ++ [e]).drop B)).length = (put ++ [e]).length - B := by rw [List.length_map, List.length_drop]
      have hbm : (List.map eE (bfL (put ++ [e]) N T)).length = N - T := by rw [List.length_map, bfL_len H2.hNP]
      have hq9 : ((put ++ [e]).drop B).length = (put ++ [e]).length - B := List.length_drop
      have hb9 := bfL_len (T := T) H2.hNP
      have hn9 := H2.hNP
      have hbn9 := H2.hBN
      have htn9 := H2.hTN
      have hR9 := (okR_all H2.hR).1
      have hpl9 := H2.hpl
      have hS9 := (okS_all H2.hS).1
      have H9 := H2.sub (w' := []) (fun p h => nomatch h) (Nat.zero_le _)
      have cse2 := send_con 7 ((B : Int) + 1) ((put ++ [e]).drop B) l (endsL (put ++ [e])) (by have h9 := H9.hpl; simp only [List.length_take, List.length_drop]; omega) (fun e he => okEs_num H9.hP e (List.mem_of_mem_drop he)) (by omega) H9.hl0
      rw [H9.sent] at cse2
      dsimp only at cse2
      have hQ9 := fun (p : Pk) hp => H9.pks_ok (p := p) hp
      have hql9 := @pks_len 7 l ((B : Int) + 1) ((put ++ [e]).drop B)
      generalize pks 7 l ((B : Int) + 1) ((put ++ [e]).drop B) = Q9 at *
      have hta := tk_app H.hTN H.hNP (e := e)
      have hn8 := H.hNP
      rw [hta.2] at hbm hb9
      cases pe
      · have hp0 : 0 < put.length := pe_false HP
        have hpne : put ≠ [] := fun h9 => by simp [h9] at hp0
        repeat' ((conv => whnf); first
          | with_reducible first | refine spB_t ?_
          | ((with_reducible apply spB_cong); (focus (simp only [beq_self_eq_true, bne_self_eq_false, Bool.true_bne, Bool.false_bne, Bool.bne_true, Bool.bne_false, Bool.true_beq, Bool.false_beq, Bool.not_true, Bool.not_false, Bool.not_not, Int.reduceBEq, Int.reduceBNe, Int.reduceLE, Int.reduceLT, Int.reduceEq, decide_true, decide_false]; rfl)))
          | with_reducible first | refine spB_no (by decide) ?_
          | (with_reducible refine spB_dec ?_ ?_ <;> intro _ <;> (try (exfalso; first | contradiction | omega | (rename_i hz; refine hz ?_; simp; done) | (rename_i hz; simp at hz; done) | (simp only [LN] at *; omega))))
          | (with_reducible refine spB_beq ?_ ?_ <;> intro _ <;> (try (exfalso; first | contradiction | omega | (rename_i hz; refine hz ?_; simp; done) | (rename_i hz; simp at hz; done) | (simp only [LN] at *; omega))))
          | with_reducible first | refine Z.rowN_known hx ?_
          | ((with_reducible refine eqN_mk2 ?_ ?_); (focus (exact (gB_ne (by simpa using hpne)).symm)))
          | ((with_reducible refine Z.vN_K h4 ?_ ?_); (focus rfl))
          | ((with_reducible refine posE_pos ?_ ?_); (focus ((try simp only [LN] at *) <;> omega)))
          | ((with_reducible apply ixN_litp); (focus (exact rfl)); (focus ((try simp only [LN] at *) <;> omega)))
          | ((with_reducible refine apdN.mk ?_ ?_ ?_ ?_ ?_ ?_); (focus (first | rfl)); (focus (first | exact one_all (by rfl))); (focus ((try simp only [LN] at *) <;> omega)); (focus ((try simp only [LN] at *) <;> omega)); (focus ((try simp only [LN] at *) <;> omega)))
          | with_reducible first | refine wr_mk _ rfl ?_
          | with_reducible refine nzN_mk (by omega) ?_
          | with_reducible first | refine Z.callZ_in tabOk 153 Try.f37 _ Try.func37 (by kernel_rfl) rfl rfl rfl ?_
          | ((first | (with_reducible refine Z.conZ_mz ?_ (cp) ?_)); (focus ((repeat' (first | exact trivial | exact rfl | apply And.intro)); done)))
          | ((first | (with_reducible refine Z.callZ_mk ?_ (cse2) ?_)); (focus ((repeat' (first | exact trivial | exact rfl | apply And.intro)); done)))
          | ((with_reducible apply ex_and); exact rfl)
          | with_reducible first | refine Z.drawZ_rule tabOk mixOk ?_ | refine Z.apZ_mk (by kernel_rfl) ?_)
        all_goals (try (conv => whnf))
        all_goals try (show Nat.ble _ _ = true; rfl)
        all_goals try (exfalso; rename_i hz; cases hz; done)
        all_goals try (exfalso; (try simp only [LN] at *) <;> omega)
        all_goals (
          refine Z.loopK tabOk (fun zq : Nat × Nat => [(54, .val (.int .i64 (zq.1 : Int)))]) (fun zq : Nat × Nat => ([(11, some (Z.Ob.b ⟨[[.v (.int .u32 7), .v (.int .u64 ((zq.2 : Int) + 1)), .ro true 5 ((bfL (put ++ [e]) zq.2 T).map eE), .v (.int .i64 rm)]], 4, 55, true⟩)), (10, some (Z.Ob.b ⟨(put ++ [e]).map cE, 5, 33, false⟩))] : Z.Kr)) (fun zq => zq.1 ≤ Q9.length ∧ LInv rm (i + 1) B zq.2 T l (put ++ [e]) []) (fun zq => Q9.length - zq.1) (0, N) 12 [(5, _), (11, _), (25, _), (26, _), (27, _), (52, _), (53, _)] ⟨rfl, rfl, rfl, rfl, rfl, rfl, rfl, trivial⟩ [(2, _), (3, _), (5, _), (6, _), (7, _), (8, _), (9, _)] ⟨rfl, rfl, rfl, rfl, rfl, rfl, rfl, trivial⟩ ?_ ?_ rfl rfl ⟨Nat.zero_le _, H9⟩ ?_
          · repeat' (first | exact trivial | apply And.intro | exact ⟨_, rfl, Z.Imp.refl _⟩)
          · repeat' (first | exact trivial | (intro b hb; cases hb; refine ⟨_, rfl, ⟨rfl, rfl, rfl⟩, Z.imp_eq ?_⟩; first | exact map_snoc rfl | (rw [hta.2]; rfl); done) | apply And.intro)
          rintro ⟨j, M⟩ HINV
          dsimp only at HINV ⊢
          obtain ⟨HJ, HM⟩ := HINV
          by_cases hj : j < Q9.length
          · obtain ⟨y9, hy9⟩ := getElem?_some' (xs := Q9) (i := j) hj
            obtain ⟨k9, hk9a, hk9b, hk9c, hk9d⟩ := hQ9 y9 (List.mem_of_getElem? hy9)
            have hyok9 : okP (put ++ [e]) rm M T y9 := by rw [hk9c]; exact ⟨rfl, .inl ⟨rfl, rfl, k9, rfl, hk9b⟩⟩
            have hyse9 : y9.se = 7 := by rw [hk9c]
            have hysq9 : y9.sq = (k9 : Int) + 1 := by rw [hk9c]
            have hykd9 : y9.kd ≠ 2 := by rw [hk9c]; show (1 : Int) ≠ 2; decide
            have hyn9 := hyok9.num HM.hP
            have che := hear_con 7 ((M : Int) + 1) (bfL (put ++ [e]) M T) rm y9 (by have h9 := HM.hpl; simp only [List.length_take, List.length_drop]; omega) (fun e he => okEs_num HM.hP e (List.mem_of_mem_take (List.mem_of_mem_drop he))) (by omega) hyn9.1 hyn9.2.2
            obtain ⟨M', hM9, hE9, HM2, hgot⟩ := HM.hear (.inl hyok9) hykd9
            rw [hE9] at che
            dsimp only at che
            have hg2 := hgot hyse9
            have hl8 := HM.hl
            have ht8 := HM.hTN
            have hR8 := (okR_all HM.hR).1
            have hbm8 : (List.map eE (bfL (put ++ [e]) M T)).length = M - T := by rw [List.length_map, bfL_len HM.hNP]
            have hbm7 : (List.map eE (bfL (put ++ [e]) M' T)).length = M' - T := by rw [List.length_map, bfL_len HM2.hNP]
            have ht7 := HM2.hTN
            by_cases hs9 : y9.sq = (M : Int) + 1
            · have hM8 : M' = M + 1 := hg2 hs9 (by omega)
              repeat' ((conv => whnf); first
                | with_reducible first | refine spB_t ?_
                | ((with_reducible apply spB_cong); (focus (simp only [beq_self_eq_true, bne_self_eq_false, Bool.true_bne, Bool.false_bne, Bool.bne_true, Bool.bne_false, Bool.true_beq, Bool.false_beq, Bool.not_true, Bool.not_false, Bool.not_not, Int.reduceBEq, Int.reduceBNe, Int.reduceLE, Int.reduceLT, Int.reduceEq, decide_true, decide_false]; rfl)))
                | with_reducible first | refine spB_no (by decide) ?_
                | (with_reducible refine spB_dec ?_ ?_ <;> intro _ <;> (try (exfalso; first | contradiction | omega | (rename_i hz; refine hz ?_; simp; done) | (rename_i hz; simp at hz; done) | (simp only [LN] at *; omega))))
                | (with_reducible refine spB_beq ?_ ?_ <;> intro _ <;> (try (exfalso; first | contradiction | omega | (rename_i hz; refine hz ?_; simp; done) | (rename_i hz; simp at hz; done) | (simp only [LN] at *; omega))))
                | (with_reducible refine spB_bne ?_ ?_ <;> intro _ <;> (try (exfalso; first | contradiction | omega | (rename_i hz; refine hz ?_; simp; done) | (rename_i hz; simp at hz; done) | (simp only [LN] at *; omega))))
                | with_reducible first | refine Z.rowN_known hy9 ?_
                | ((with_reducible apply ixN_litp); (focus (exact rfl)); (focus ((try simp only [LN] at *) <;> omega)))
                | with_reducible refine wr_i64 (by first | omega | (simp only [LN] at *; omega)) ?_
                | with_reducible refine wr_u64 (by omega) ?_
                | ((first | (with_reducible refine Z.callZ_mk ?_ (che) ?_)); (focus ((repeat' (first | exact trivial | exact rfl | apply And.intro)); done))))
              all_goals (try (conv => whnf))
              all_goals try (show Nat.ble _ _ = true; rfl)
              all_goals try (exfalso; rename_i hz; cases hz; done)
              all_goals try (exfalso; (try simp only [LN] at *) <;> omega)
              all_goals first
                | ((refine Z.rndK ((j + 1, M')) (fun s => [0, 1, 2, 3, 4, 5, 6, 7, 8, 9, 10, 11]) rfl rfl rfl rfl ?_ ?_ ?_ ?_); (focus (repeat' (first | exact trivial | exact rfl | apply And.intro))); (focus (repeat' (first | exact trivial | exact WBb_sub rfl | (intro b hb; cases hb; first | rfl | (cases w <;> rfl)) | exact Z.blk_sub rfl rfl (ren_map fun _ => rfl) | exact Z.gB_sub rfl rfl (ren_map fun _ => rfl) | apply And.intro))); (focus (exact ⟨by (try dsimp only); omega, HM2⟩)); ((try dsimp only); omega))
            · skip
              repeat' ((conv => whnf); first
                | ((with_reducible apply spB_cong); (focus (simp only [beq_self_eq_true, bne_self_eq_false, Bool.true_bne, Bool.false_bne, Bool.bne_true, Bool.bne_false, Bool.true_beq, Bool.false_beq, Bool.not_true, Bool.not_false, Bool.not_not, Int.reduceBEq, Int.reduceBNe, Int.reduceLE, Int.reduceLT, Int.reduceEq, decide_true, decide_false]; rfl)))
                | with_reducible first | refine spB_no (by decide) ?_
                | (with_reducible refine spB_dec ?_ ?_ <;> intro _ <;> (try (exfalso; first | contradiction | omega | (rename_i hz; refine hz ?_; simp; done) | (rename_i hz; simp at hz; done) | (simp only [LN] at *; omega))))
                | (with_reducible refine spB_beq ?_ ?_ <;> intro _ <;> (try (exfalso; first | contradiction | omega | (rename_i hz; refine hz ?_; simp; done) | (rename_i hz; simp at hz; done) | (simp only [LN] at *; omega))))
                | with_reducible first | refine Z.rowN_known hy9 ?_
                | ((with_reducible apply ixN_litp); (focus (exact rfl)); (focus ((try simp only [LN] at *) <;> omega)))
                | with_reducible refine wr_i64 (by first | omega | (simp only [LN] at *; omega)) ?_
                | with_reducible refine wr_u64 (by omega) ?_
                | ((first | (with_reducible refine Z.callZ_mk ?_ (che) ?_)); (focus ((repeat' (first | exact trivial | exact rfl | apply And.intro)); done))))
              all_goals (try (conv => whnf))
              all_goals try (show Nat.ble _ _ = true; rfl)
              all_goals try (exfalso; rename_i hz; cases hz; done)
              all_goals try (exfalso; (try simp only [LN] at *) <;> omega)
              all_goals first
                | ((refine Z.rndK ((j + 1, M')) (fun s => [0, 1, 2, 3, 4, 5, 6, 7, 8, 9, 10, 11]) rfl rfl rfl rfl ?_ ?_ ?_ ?_); (focus (repeat' (first | exact trivial | exact rfl | apply And.intro))); (focus (repeat' (first | exact trivial | exact WBb_sub rfl | (intro b hb; cases hb; first | rfl | (cases w <;> rfl)) | exact Z.blk_sub rfl rfl (ren_map fun _ => rfl) | exact Z.gB_sub rfl rfl (ren_map fun _ => rfl) | apply And.intro))); (focus (exact ⟨by (try dsimp only); omega, HM2⟩)); ((try dsimp only); omega))
          repeat' ((conv => whnf); first
            | (with_reducible refine spB_dec ?_ ?_ <;> intro _ <;> (try (exfalso; first | contradiction | omega | (rename_i hz; refine hz ?_; simp; done) | (rename_i hz; simp at hz; done) | (simp only [LN] at *; omega))))
            | with_reducible refine wr_i64 (by first | omega | (simp only [LN] at *; omega)) ?_)
          all_goals (try (conv => whnf))
          all_goals try (show Nat.ble _ _ = true; rfl)
          all_goals try (exfalso; rename_i hz; cases hz; done)
          all_goals try (exfalso; (try simp only [LN] at *) <;> omega)
          all_goals first
            | ((refine Z.rnd_bi 2 [[_, _, _, _, _, _, _, .ro true 5 ((bfL (put ++ [e]) N T).map eE), _, _, .gsl _ ((put ++ [e]).map cE), .gsl 5 (((put ++ [e]).take T).map cE)]] rfl rfl ⟨⟨Z.Imp.refl _, Z.Imp.refl _, Z.Imp.refl _, Z.Imp.refl _, Z.Imp.refl _, Z.Imp.refl _, Z.Imp.refl _, Z.Imp.of_eq (by rw [hta.2]), Z.Imp.refl _, Z.Imp.refl _, Z.Imp.of_eq (congrArg (Ce.gsl _) (map_snoc rfl)), Z.Imp.of_eq (by rw [hta.1]), trivial⟩, trivial⟩ ?_); ((refine Z.rndK ((i + 1, B, N, T, l, (put ++ [e]), false, w)) (fun s => [0, 1, 2, 3, s.idIn 2 10, 5]) rfl rfl rfl rfl ?_ ?_ ?_ ?_); (focus (repeat' (first | exact trivial | exact rfl | apply And.intro))); (focus (repeat' (first | exact trivial | exact WBb_sub rfl | exact Z.gB_sub rfl (congrArg (List.map cE) hta.1.symm) (ren_map fun _ => rfl) | (intro b hb; cases hb; first | rfl | (cases w <;> rfl)) | exact Z.blk_sub rfl rfl (ren_map fun _ => rfl) | apply And.intro))); (focus (exact ⟨by (try dsimp only); omega, by (try dsimp only); omega, H2, HW, by simp⟩)); ((try dsimp only); omega))))
      · obtain ⟨rfl, rfl, rfl, rfl⟩ := pe_true HP H
        repeat' ((conv => whnf); first
          | with_reducible first | refine spB_t ?_
          | ((with_reducible apply spB_cong); (focus (simp only [beq_self_eq_true, bne_self_eq_false, Bool.true_bne, Bool.false_bne, Bool.bne_true, Bool.bne_false, Bool.true_beq, Bool.false_beq, Bool.not_true, Bool.not_false, Bool.not_not, Int.reduceBEq, Int.reduceBNe, Int.reduceLE, Int.reduceLT, Int.reduceEq, decide_true, decide_false]; rfl)))
          | with_reducible first | refine spB_no (by decide) ?_
          | (with_reducible refine spB_dec ?_ ?_ <;> intro _ <;> (try (exfalso; first | contradiction | omega | (rename_i hz; refine hz ?_; simp; done) | (rename_i hz; simp at hz; done) | (simp only [LN] at *; omega))))
          | (with_reducible refine spB_beq ?_ ?_ <;> intro _ <;> (try (exfalso; first | contradiction | omega | (rename_i hz; refine hz ?_; simp; done) | (rename_i hz; simp at hz; done) | (simp only [LN] at *; omega))))
          | with_reducible first | refine Z.rowN_known hx ?_
          | ((with_reducible refine Z.vN_K h4 ?_ ?_); (focus rfl))
          | ((with_reducible refine posE_pos ?_ ?_); (focus ((try simp only [LN] at *) <;> omega)))
          | ((with_reducible apply ixN_litp); (focus (exact rfl)); (focus ((try simp only [LN] at *) <;> omega)))
          | ((with_reducible refine apdN.mk ?_ ?_ ?_ ?_ ?_ ?_); (focus (first | rfl)); (focus (first | exact one_all (by rfl))); (focus ((try simp only [LN] at *) <;> omega)); (focus ((try simp only [LN] at *) <;> omega)); (focus ((try simp only [LN] at *) <;> omega)))
          | with_reducible first | refine wr_mk _ rfl ?_
          | with_reducible refine nzN_mk (by omega) ?_
          | with_reducible first | refine Z.callZ_in tabOk 153 Try.f37 _ Try.func37 (by kernel_rfl) rfl rfl rfl ?_
          | ((first | (with_reducible refine Z.conZ_mz ?_ (cp) ?_)); (focus ((repeat' (first | exact trivial | exact rfl | apply And.intro)); done)))
          | ((first | (with_reducible refine Z.callZ_mk ?_ (cse2) ?_)); (focus ((repeat' (first | exact trivial | exact rfl | apply And.intro)); done)))
          | ((with_reducible apply ex_and); exact rfl)
          | with_reducible first | refine Z.drawZ_rule tabOk mixOk ?_ | refine Z.apZ_mk (by kernel_rfl) ?_)
        all_goals (try (conv => whnf))
        all_goals try (show Nat.ble _ _ = true; rfl)
        all_goals try (exfalso; rename_i hz; cases hz; done)
        all_goals try (exfalso; (try simp only [LN] at *) <;> omega)
        all_goals (
          refine Z.loopK tabOk (fun zq : Nat × Nat => [(54, .val (.int .i64 (zq.1 : Int)))]) (fun zq : Nat × Nat => ([(11, some (Z.Ob.b ⟨[[.v (.int .u32 7), .v (.int .u64 ((zq.2 : Int) + 1)), .ro true 5 ((bfL ([] ++ [e]) zq.2 0).map eE), .v (.int .i64 rm)]], 4, 55, true⟩)), (10, some (Z.Ob.b ⟨[e].map cE, 5, 33, false⟩))] : Z.Kr)) (fun zq => zq.1 ≤ Q9.length ∧ LInv rm (i + 1) 0 zq.2 0 l ([] ++ [e]) []) (fun zq => Q9.length - zq.1) (0, 0) 12 [(5, _), (11, _), (25, _), (26, _), (27, _), (52, _), (53, _)] ⟨rfl, rfl, rfl, rfl, rfl, rfl, rfl, trivial⟩ [(2, _), (3, _), (4, _), (5, _), (6, _), (7, _), (8, _), (9, _)] ⟨rfl, rfl, rfl, rfl, rfl, rfl, rfl, rfl, trivial⟩ ?_ ?_ rfl rfl ⟨Nat.zero_le _, H9⟩ ?_
          · repeat' (first | exact trivial | apply And.intro | exact ⟨_, rfl, Z.Imp.refl _⟩)
          · repeat' (first | exact trivial | exact (fun b hb => ⟨b, hb, Z.ImpO.refl b⟩) | apply And.intro)
          rintro ⟨j, M⟩ HINV
          dsimp only at HINV ⊢
          obtain ⟨HJ, HM⟩ := HINV
          by_cases hj : j < Q9.length
          · obtain ⟨y9, hy9⟩ := getElem?_some' (xs := Q9) (i := j) hj
            obtain ⟨k9, hk9a, hk9b, hk9c, hk9d⟩ := hQ9 y9 (List.mem_of_getElem? hy9)
            have hyok9 : okP ([] ++ [e]) rm M 0 y9 := by rw [hk9c]; exact ⟨rfl, .inl ⟨rfl, rfl, k9, rfl, hk9b⟩⟩
            have hyse9 : y9.se = 7 := by rw [hk9c]
            have hysq9 : y9.sq = (k9 : Int) + 1 := by rw [hk9c]
            have hykd9 : y9.kd ≠ 2 := by rw [hk9c]; show (1 : Int) ≠ 2; decide
            have hyn9 := hyok9.num HM.hP
            have che := hear_con 7 ((M : Int) + 1) (bfL ([] ++ [e]) M 0) rm y9 (by have h9 := HM.hpl; simp only [List.length_take, List.length_drop]; omega) (fun e he => okEs_num HM.hP e (List.mem_of_mem_take (List.mem_of_mem_drop he))) (by omega) hyn9.1 hyn9.2.2
            obtain ⟨M', hM9, hE9, HM2, hgot⟩ := HM.hear (.inl hyok9) hykd9
            rw [hE9] at che
            dsimp only at che
            have hg2 := hgot hyse9
            have hl8 := HM.hl
            have ht8 := HM.hTN
            have hR8 := (okR_all HM.hR).1
            have hbm8 : (List.map eE (bfL ([] ++ [e]) M 0)).length = M - 0 := by rw [List.length_map, bfL_len HM.hNP]
            have hbm7 : (List.map eE (bfL ([] ++ [e]) M' 0)).length = M' - 0 := by rw [List.length_map, bfL_len HM2.hNP]
            have ht7 := HM2.hTN
            by_cases hs9 : y9.sq = (M : Int) + 1
            · have hM8 : M' = M + 1 := hg2 hs9 (by omega)
              repeat' ((conv => whnf); first
                | with_reducible first | refine spB_t ?_
                | ((with_reducible apply spB_cong); (focus (simp only [beq_self_eq_true, bne_self_eq_false, Bool.true_bne, Bool.false_bne, Bool.bne_true, Bool.bne_false, Bool.true_beq, Bool.false_beq, Bool.not_true, Bool.not_false, Bool.not_not, Int.reduceBEq, Int.reduceBNe, Int.reduceLE, Int.reduceLT, Int.reduceEq, decide_true, decide_false]; rfl)))
                | with_reducible first | refine spB_no (by decide) ?_
                | (with_reducible refine spB_dec ?_ ?_ <;> intro _ <;> (try (exfalso; first | contradiction | omega | (rename_i hz; refine hz ?_; simp; done) | (rename_i hz; simp at hz; done) | (simp only [LN] at *; omega))))
                | (with_reducible refine spB_beq ?_ ?_ <;> intro _ <;> (try (exfalso; first | contradiction | omega | (rename_i hz; refine hz ?_; simp; done) | (rename_i hz; simp at hz; done) | (simp only [LN] at *; omega))))
                | (with_reducible refine spB_bne ?_ ?_ <;> intro _ <;> (try (exfalso; first | contradiction | omega | (rename_i hz; refine hz ?_; simp; done) | (rename_i hz; simp at hz; done) | (simp only [LN] at *; omega))))
                | with_reducible first | refine Z.rowN_known hy9 ?_
                | ((with_reducible apply ixN_litp); (focus (exact rfl)); (focus ((try simp only [LN] at *) <;> omega)))
                | with_reducible refine wr_i64 (by first | omega | (simp only [LN] at *; omega)) ?_
                | with_reducible refine wr_u64 (by omega) ?_
                | ((first | (with_reducible refine Z.callZ_mk ?_ (che) ?_)); (focus ((repeat' (first | exact trivial | exact rfl | apply And.intro)); done))))
              all_goals (try (conv => whnf))
              all_goals try (show Nat.ble _ _ = true; rfl)
              all_goals try (exfalso; rename_i hz; cases hz; done)
              all_goals try (exfalso; (try simp only [LN] at *) <;> omega)
              all_goals first
                | ((refine Z.rndK ((j + 1, M')) (fun s => [0, 1, 2, 3, 4, 5, 6, 7, 8, 9, 10, 11]) rfl rfl rfl rfl ?_ ?_ ?_ ?_); (focus (repeat' (first | exact trivial | exact rfl | apply And.intro))); (focus (repeat' (first | exact trivial | exact WBb_sub rfl | (intro b hb; cases hb; first | rfl | (cases w <;> rfl)) | (intro b hb; cases hb; done) | apply And.intro))); (focus (exact ⟨by (try dsimp only); omega, HM2⟩)); ((try dsimp only); omega))
            · skip
              repeat' ((conv => whnf); first
                | ((with_reducible apply spB_cong); (focus (simp only [beq_self_eq_true, bne_self_eq_false, Bool.true_bne, Bool.false_bne, Bool.bne_true, Bool.bne_false, Bool.true_beq, Bool.false_beq, Bool.not_true, Bool.not_false, Bool.not_not, Int.reduceBEq, Int.reduceBNe, Int.reduceLE, Int.reduceLT, Int.reduceEq, decide_true, decide_false]; rfl)))
                | with_reducible first | refine spB_no (by decide) ?_
                | (with_reducible refine spB_dec ?_ ?_ <;> intro _ <;> (try (exfalso; first | contradiction | omega | (rename_i hz; refine hz ?_; simp; done) | (rename_i hz; simp at hz; done) | (simp only [LN] at *; omega))))
                | (with_reducible refine spB_beq ?_ ?_ <;> intro _ <;> (try (exfalso; first | contradiction | omega | (rename_i hz; refine hz ?_; simp; done) | (rename_i hz; simp at hz; done) | (simp only [LN] at *; omega))))
                | with_reducible first | refine Z.rowN_known hy9 ?_
                | ((with_reducible apply ixN_litp); (focus (exact rfl)); (focus ((try simp only [LN] at *) <;> omega)))
                | with_reducible refine wr_i64 (by first | omega | (simp only [LN] at *; omega)) ?_
                | with_reducible refine wr_u64 (by omega) ?_
                | ((first | (with_reducible refine Z.callZ_mk ?_ (che) ?_)); (focus ((repeat' (first | exact trivial | exact rfl | apply And.intro)); done))))
              all_goals (try (conv => whnf))
              all_goals try (show Nat.ble _ _ = true; rfl)
              all_goals try (exfalso; rename_i hz; cases hz; done)
              all_goals try (exfalso; (try simp only [LN] at *) <;> omega)
              all_goals first
                | ((refine Z.rndK ((j + 1, M')) (fun s => [0, 1, 2, 3, 4, 5, 6, 7, 8, 9, 10, 11]) rfl rfl rfl rfl ?_ ?_ ?_ ?_); (focus (repeat' (first | exact trivial | exact rfl | apply And.intro))); (focus (repeat' (first | exact trivial | exact WBb_sub rfl | (intro b hb; cases hb; first | rfl | (cases w <;> rfl)) | (intro b hb; cases hb; done) | apply And.intro))); (focus (exact ⟨by (try dsimp only); omega, HM2⟩)); ((try dsimp only); omega))
          repeat' ((conv => whnf); first
            | (with_reducible refine spB_dec ?_ ?_ <;> intro _ <;> (try (exfalso; first | contradiction | omega | (rename_i hz; refine hz ?_; simp; done) | (rename_i hz; simp at hz; done) | (simp only [LN] at *; omega))))
            | with_reducible refine wr_i64 (by first | omega | (simp only [LN] at *; omega)) ?_)
          all_goals (try (conv => whnf))
          all_goals try (show Nat.ble _ _ = true; rfl)
          all_goals try (exfalso; rename_i hz; cases hz; done)
          all_goals try (exfalso; (try simp only [LN] at *) <;> omega)
          all_goals first
            | ((refine Z.rnd_bi 2 [[_, _, _, _, _, _, _, _, _, _, .gsl _ ([e].map cE), _]] rfl rfl ⟨⟨Z.Imp.refl _, Z.Imp.refl _, Z.Imp.refl _, Z.Imp.refl _, Z.Imp.refl _, Z.Imp.refl _, Z.Imp.refl _, Z.Imp.refl _, Z.Imp.refl _, Z.Imp.refl _, Z.Imp.of_eq (congrArg (Ce.gsl _) rfl), Z.Imp.refl _, trivial⟩, trivial⟩ ?_); ((refine Z.rndK ((i + 1, 0, 0, 0, l, [e], false, w)) (fun s => [0, 1, 2, 3, s.idIn 2 10, 5]) rfl rfl rfl rfl ?_ ?_ ?_ ?_); (focus (repeat' (first | exact trivial | exact rfl | apply And.intro))); (focus (repeat' (first | exact trivial | exact WBb_sub rfl | exact Z.gB_sub rfl (congrArg (List.map cE) hta.1.symm) (ren_map fun _ => rfl) | (intro b hb; cases hb; first | rfl | (cases w <;> rfl)) | apply And.intro))); (focus (exact ⟨by (try dsimp only); omega, by (try dsimp only); omega, H2, HW, by simp⟩)); ((try dsimp only); omega)))))
end Go.Proofs.Ytoiadndmbppobaa
namespace Go.Proofs.Ytoiadndmbppobaa
open Go Go.RowKit Wx
set_option linter.unusedVariables false
set_option linter.unusedSimpArgs false
set_option maxHeartbeats 40000000
theorem r_send (rm : Int) (ls : List St) (hl : ls.length ≤ 9223372036854775807) (i B N T : Nat) (l : Int) (put : List El) (pe : Bool) (w : Option (List Pk × Nat)) (HI : i ≤ ls.length) (HB : i ≤ 50) (H : LInv rm i B N T l put (wl w)) (HW : wn w) (HP : pe = true ↔ put = []) (hi : i < ls.length) (kd n : Int) (keeps : Bool) (e : El) (pk : Pk) (hx : ls[i]? = some ⟨kd, n, keeps, e, pk⟩) (hux : 0 ≤ e.num ∧ 0 ≤ pk.sq ∧ 0 ≤ pk.lim ∧ 0 ≤ pk.e.num) (hib : ¬ i = 50) (h4 : ((IntKind.u64.wrap kd).tmod 11 = 2 ∨ (IntKind.u64.wrap kd).tmod 11 = 3))  {Q : Exit → Z.S → Prop} : Z.codeZ Try.prog tab 96 0 none (lbody Try.f9) ⟨gCH 27 (i, B, N, T, l, put, pe, w) ++ gFk 5 25 26 ls, gCK rm (i, B, N, T, l, put, pe, w) ++ [], 6⟩ (loopPost (gRnd rm 27 5 25 26 50 ls (i, B, N, T, l, put, pe, w)) Q) := by
  dsimp only [gCH, gFk, gCK, gRnd]
  rcases h4 with h4 | h4
  all_goals (
    have cse := send_con 7 ((B : Int) + 1) (put.drop B) l (endsL put) (by have h9 := H.hpl; simp only [List.length_take, List.length_drop]; omega) (fun e he => okEs_num H.hP e (List.mem_of_mem_drop he)) (by omega) H.hl0
    rw [H.sent] at cse
    dsimp only at cse
    have H2 := H.send
    have hQ9 := fun (p : Pk) hp => H.pks_ok (p := p) hp
    have hql := @pks_len 7 l ((B : Int) + 1) (put.drop B)
    generalize pks 7 l ((B : Int) + 1) (put.drop B) = Q9 at *
    have hqm : (List.map eE (put.drop B)).length = put.length - B := by rw [List.length_map, List.length_drop]
    have hbm : (List.map eE (bfL put N T)).length = N - T := by rw [List.length_map, bfL_len H2.hNP]
    have hq9 : (put.drop B).length = put.length - B := List.length_drop
    have hb9 := bfL_len (T := T) H2.hNP
    have hn9 := H2.hNP
    have hbn9 := H2.hBN
    have htn9 := H2.hTN
    have hR9 := (okR_all H2.hR).1
    have hpl9 := H2.hpl
    have hS9 := (okS_all H2.hS).1
    have H9 := H2.sub (w' := []) (fun p h => nomatch h) (Nat.zero_le _)
    have hq7 : Q9.length ≤ 8 := by rw [hq9] at hql; omega
    rcases w with _ | ⟨L, N9⟩
    · rcases Q9 with _ | ⟨q0, qs⟩
      · skip
        cases pe
        · have hp0 : 0 < put.length := pe_false HP
          have hpne : put ≠ [] := fun h9 => by simp [h9] at hp0
          repeat' ((conv => whnf); first
            | with_reducible first | refine spB_t ?_
            | ((with_reducible apply spB_cong); (focus (simp only [beq_self_eq_true, bne_self_eq_false, Bool.true_bne, Bool.false_bne, Bool.bne_true, Bool.bne_false, Bool.true_beq, Bool.false_beq, Bool.not_true, Bool.not_false, Bool.not_not, Int.reduceBEq, Int.reduceBNe, Int.reduceLE, Int.reduceLT, Int.reduceEq, decide_true, decide_false]; rfl)))
            | with_reducible first | refine spB_no (by decide) ?_
            | (with_reducible refine spB_dec ?_ ?_ <;> intro _ <;> (try (exfalso; first | contradiction | omega | (rename_i hz; refine hz ?_; simp; done) | (rename_i hz; simp at hz; done) | (simp only [LN] at *; omega))))
            | (with_reducible refine spB_beq ?_ ?_ <;> intro _ <;> (try (exfalso; first | contradiction | omega | (rename_i hz; refine hz ?_; simp; done) | (rename_i hz; simp at hz; done) | (simp only [LN] at *; omega))))
            | with_reducible first | refine Z.rowN_known hx ?_
            | ((with_reducible refine Z.vN_K h4 ?_ ?_); (focus rfl))
            | ((with_reducible refine posE_nil ?_ ?_); (focus rfl))
            | ((with_reducible apply ixN_litp); (focus (exact rfl)); (focus ((try simp only [LN] at *) <;> omega)))
            | with_reducible first | refine wr_mk _ rfl ?_
            | with_reducible refine nzN_mk (by omega) ?_
            | with_reducible first | refine Z.callZ_in tabOk 153 Try.f37 _ Try.func37 (by kernel_rfl) rfl rfl rfl ?_
            | ((first | (with_reducible refine Z.callZ_mk ?_ (cse) ?_)); (focus ((repeat' (first | exact trivial | exact rfl | apply And.intro)); done)))
            | ((with_reducible apply ex_and); exact rfl))
          all_goals (try (conv => whnf))
          all_goals try (show Nat.ble _ _ = true; rfl)
          all_goals try (exfalso; rename_i hz; first | exact Bool.noConfusion hz | exact hz.elim | exact hz rfl)
          all_goals try (exfalso; (try simp only [LN] at *) <;> omega)
          all_goals (
            refine Z.loopK tabOk (fun zq : Nat × Nat => [(54, .val (.int .i64 (zq.1 : Int)))]) (fun zq : Nat × Nat => ([(8, some (Z.Ob.b ⟨[[.v (.int .u32 7), .v (.int .u64 ((zq.2 : Int) + 1)), .ro true 5 ((bfL put zq.2 T).map eE), .v (.int .i64 rm)]], 4, 55, true⟩))] : Z.Kr)) (fun zq => zq.1 ≤ ([] : List Pk).length ∧ LInv rm (i + 1) B zq.2 T l put []) (fun zq => ([] : List Pk).length - zq.1) (0, N) 9 [(5, _), (11, _), (25, _), (26, _), (27, _), (52, _), (53, _)] ⟨rfl, rfl, rfl, rfl, rfl, rfl, rfl, trivial⟩ [(2, _), (3, _), (4, _), (5, _), (6, _), (7, _)] ⟨rfl, rfl, rfl, rfl, rfl, rfl, trivial⟩ ?_ ?_ rfl rfl ⟨Nat.zero_le _, H9⟩ ?_
            · repeat' (first | exact trivial | apply And.intro | exact ⟨_, rfl, Z.Imp.refl _⟩)
            · repeat' (first | exact trivial | exact (fun b hb => ⟨b, hb, Z.ImpO.refl b⟩) | apply And.intro)
            rintro ⟨j, M⟩ HINV
            dsimp only at HINV ⊢
            obtain ⟨HJ, HM⟩ := HINV
            by_cases hj : j < ([] : List Pk).length
            · obtain ⟨y9, hy9⟩ := getElem?_some' (xs := ([] : List Pk)) (i := j) hj
              obtain ⟨k9, hk9a, hk9b, hk9c, hk9d⟩ := hQ9 y9 (List.mem_of_getElem? hy9)
              have hyok9 : okP put rm M T y9 := by rw [hk9c]; exact ⟨rfl, .inl ⟨rfl, rfl, k9, rfl, hk9b⟩⟩
              have hyse9 : y9.se = 7 := by rw [hk9c]
              have hysq9 : y9.sq = (k9 : Int) + 1 := by rw [hk9c]
              have hykd9 : y9.kd ≠ 2 := by rw [hk9c]; show (1 : Int) ≠ 2; decide
              have hyn9 := hyok9.num HM.hP
              have che := hear_con 7 ((M : Int) + 1) (bfL put M T) rm y9 (by have h9 := HM.hpl; simp only [List.length_take, List.length_drop]; omega) (fun e he => okEs_num HM.hP e (List.mem_of_mem_take (List.mem_of_mem_drop he))) (by omega) hyn9.1 hyn9.2.2
              obtain ⟨M', hM9, hE9, HM2, hgot⟩ := HM.hear (.inl hyok9) hykd9
              rw [hE9] at che
              dsimp only at che
              have hg2 := hgot hyse9
              have hl8 := HM.hl
              have ht8 := HM.hTN
              have hR8 := (okR_all HM.hR).1
              have hbm8 : (List.map eE (bfL put M T)).length = M - T := by rw [List.length_map, bfL_len HM.hNP]
              have hbm7 : (List.map eE (bfL put M' T)).length = M' - T := by rw [List.length_map, bfL_len HM2.hNP]
              have ht7 := HM2.hTN
              by_cases hs9 : y9.sq = (M : Int) + 1
              · have hM8 : M' = M + 1 := hg2 hs9 (by omega)
                repeat' ((conv => whnf); first
                  | (with_reducible refine spB_dec ?_ ?_ <;> intro _ <;> (try (exfalso; first | contradiction | omega | (rename_i hz; refine hz ?_; simp; done) | (rename_i hz; simp at hz; done) | (simp only [LN] at *; omega)))))
                all_goals (try (conv => whnf))
                all_goals try (show Nat.ble _ _ = true; rfl)
                all_goals try (exfalso; rename_i hz; first | exact Bool.noConfusion hz | exact hz.elim | exact hz rfl)
                all_goals try (exfalso; (try simp only [LN] at *) <;> omega)
                all_goals first
                  | ((refine Z.rndK ((j + 1, M')) (fun s => [0, 1, 2, 3, 4, 5, 6, 7, 8]) rfl rfl rfl rfl ?_ ?_ ?_ ?_); (focus (repeat' (first | apply And.intro))); (focus (repeat' (first | apply And.intro))); (focus (exact ⟨by (try dsimp only); omega, HM2⟩)); ((try dsimp only); omega))
              · skip
                repeat' ((conv => whnf); first
                  | (with_reducible refine spB_dec ?_ ?_ <;> intro _ <;> (try (exfalso; first | contradiction | omega | (rename_i hz; refine hz ?_; simp; done) | (rename_i hz; simp at hz; done) | (simp only [LN] at *; omega)))))
                all_goals (try (conv => whnf))
                all_goals try (show Nat.ble _ _ = true; rfl)
                all_goals try (exfalso; rename_i hz; first | exact Bool.noConfusion hz | exact hz.elim | exact hz rfl)
                all_goals try (exfalso; (try simp only [LN] at *) <;> omega)
                all_goals first
                  | ((refine Z.rndK ((j + 1, M')) (fun s => [0, 1, 2, 3, 4, 5, 6, 7, 8]) rfl rfl rfl rfl ?_ ?_ ?_ ?_); (focus (repeat' (first | apply And.intro))); (focus (repeat' (first | apply And.intro))); (focus (exact ⟨by (try dsimp only); omega, HM2⟩)); ((try dsimp only); omega))
            repeat' ((conv => whnf); first
              | (with_reducible refine spB_dec ?_ ?_ <;> intro _ <;> (try (exfalso; first | contradiction | omega | (rename_i hz; refine hz ?_; simp; done) | (rename_i hz; simp at hz; done) | (simp only [LN] at *; omega))))
              | with_reducible refine wr_i64 (by first | omega | (simp only [LN] at *; omega)) ?_)
            all_goals (try (conv => whnf))
            all_goals try (show Nat.ble _ _ = true; rfl)
            all_goals try (exfalso; rename_i hz; first | exact Bool.noConfusion hz | exact hz.elim | exact hz rfl)
            all_goals try (exfalso; (try simp only [LN] at *) <;> omega)
            all_goals first
              | ((refine Z.rndK ((i + 1, B, N, T, l, put, false, none)) (fun s => [0, 1, 2, 3, 4, 5]) rfl rfl rfl rfl ?_ ?_ ?_ ?_); (focus (repeat' (first | exact trivial | exact rfl | apply And.intro))); (focus (repeat' (first | exact trivial | exact WBb_sub rfl | (intro b hb; cases hb; first | rfl | (cases w <;> rfl)) | exact Z.blk_sub rfl rfl (ren_map fun _ => rfl) | exact Z.gB_sub rfl rfl (ren_map fun _ => rfl) | apply And.intro))); (focus (exact ⟨by (try dsimp only); omega, by (try dsimp only); omega, H2, trivial, HP⟩)); ((try dsimp only); omega)))
        · obtain ⟨rfl, rfl, rfl, rfl⟩ := pe_true HP H
          repeat' ((conv => whnf); first
            | with_reducible first | refine spB_t ?_
            | ((with_reducible apply spB_cong); (focus (simp only [beq_self_eq_true, bne_self_eq_false, Bool.true_bne, Bool.false_bne, Bool.bne_true, Bool.bne_false, Bool.true_beq, Bool.false_beq, Bool.not_true, Bool.not_false, Bool.not_not, Int.reduceBEq, Int.reduceBNe, Int.reduceLE, Int.reduceLT, Int.reduceEq, decide_true, decide_false]; rfl)))
            | with_reducible first | refine spB_no (by decide) ?_
            | (with_reducible refine spB_dec ?_ ?_ <;> intro _ <;> (try (exfalso; first | contradiction | omega | (rename_i hz; refine hz ?_; simp; done) | (rename_i hz; simp at hz; done) | (simp only [LN] at *; omega))))
            | (with_reducible refine spB_beq ?_ ?_ <;> intro _ <;> (try (exfalso; first | contradiction | omega | (rename_i hz; refine hz ?_; simp; done) | (rename_i hz; simp at hz; done) | (simp only [LN] at *; omega))))
            | with_reducible first | refine Z.rowN_known hx ?_
            | ((with_reducible refine Z.vN_K h4 ?_ ?_); (focus rfl))
            | ((with_reducible refine posE_nil ?_ ?_); (focus rfl))
            | ((with_reducible apply ixN_litp); (focus (exact rfl)); (focus ((try simp only [LN] at *) <;> omega)))
            | with_reducible first | refine wr_mk _ rfl ?_
            | with_reducible refine nzN_mk (by omega) ?_
            | with_reducible first | refine Z.callZ_in tabOk 153 Try.f37 _ Try.func37 (by kernel_rfl) rfl rfl rfl ?_
            | ((first | (with_reducible refine Z.callZ_mk ?_ (cse) ?_)); (focus ((repeat' (first | exact trivial | exact rfl | apply And.intro)); done)))
            | ((with_reducible apply ex_and); exact rfl))
          all_goals (try (conv => whnf))
          all_goals try (show Nat.ble _ _ = true; rfl)
          all_goals try (exfalso; rename_i hz; first | exact Bool.noConfusion hz | exact hz.elim | exact hz rfl)
          all_goals try (exfalso; (try simp only [LN] at *) <;> omega)
          all_goals (
            refine Z.loopK tabOk (fun zq : Nat × Nat => [(54, .val (.int .i64 (zq.1 : Int)))]) (fun zq : Nat × Nat => ([(8, some (Z.Ob.b ⟨[[.v (.int .u32 7), .v (.int .u64 ((zq.2 : Int) + 1)), .ro true 5 ((bfL ([] : List El) zq.2 0).map eE), .v (.int .i64 rm)]], 4, 55, true⟩))] : Z.Kr)) (fun zq => zq.1 ≤ ([] : List Pk).length ∧ LInv rm (i + 1) 0 zq.2 0 l ([] : List El) []) (fun zq => ([] : List Pk).length - zq.1) (0, 0) 9 [(5, _), (11, _), (25, _), (26, _), (27, _), (52, _), (53, _)] ⟨rfl, rfl, rfl, rfl, rfl, rfl, rfl, trivial⟩ [(2, _), (3, _), (4, _), (5, _), (6, _), (7, _)] ⟨rfl, rfl, rfl, rfl, rfl, rfl, trivial⟩ ?_ ?_ rfl rfl ⟨Nat.zero_le _, H9⟩ ?_
            · repeat' (first | exact trivial | apply And.intro | exact ⟨_, rfl, Z.Imp.refl _⟩)
            · repeat' (first | exact trivial | exact (fun b hb => ⟨b, hb, Z.ImpO.refl b⟩) | apply And.intro)
            rintro ⟨j, M⟩ HINV
            dsimp only at HINV ⊢
            obtain ⟨HJ, HM⟩ := HINV
            by_cases hj : j < ([] : List Pk).length
            · obtain ⟨y9, hy9⟩ := getElem?_some' (xs := ([] : List Pk)) (i := j) hj
              obtain ⟨k9, hk9a, hk9b, hk9c, hk9d⟩ := hQ9 y9 (List.mem_of_getElem? hy9)
              simp at hk9b
            repeat' ((conv => whnf); first
              | (with_reducible refine spB_dec ?_ ?_ <;> intro _ <;> (try (exfalso; first | contradiction | omega | (rename_i hz; refine hz ?_; simp; done) | (rename_i hz; simp at hz; done) | (simp only [LN] at *; omega))))
              | with_reducible refine wr_i64 (by first | omega | (simp only [LN] at *; omega)) ?_)
            all_goals (try (conv => whnf))
            all_goals try (show Nat.ble _ _ = true; rfl)
            all_goals try (exfalso; rename_i hz; first | exact Bool.noConfusion hz | exact hz.elim | exact hz rfl)
            all_goals try (exfalso; (try simp only [LN] at *) <;> omega)
            all_goals first
              | ((refine Z.rndK ((i + 1, 0, 0, 0, l, [], true, none)) (fun s => [0, 1, 2, 3, 4, 5]) rfl rfl rfl rfl ?_ ?_ ?_ ?_); (focus (repeat' (first | exact trivial | exact rfl | apply And.intro))); (focus (repeat' (first | exact trivial | exact WBb_sub rfl | (intro b hb; cases hb; first | rfl | (cases w <;> rfl)) | (intro b hb; cases hb; done) | apply And.intro))); (focus (exact ⟨by (try dsimp only); omega, by (try dsimp only); omega, H2, trivial, HP⟩)); ((try dsimp only); omega)))
      · skip
        cases pe
        · have hp0 : 0 < put.length := pe_false HP
          have hpne : put ≠ [] := fun h9 => by simp [h9] at hp0
          repeat' ((conv => whnf); first
            | with_reducible first | refine spB_t ?_
            | ((with_reducible apply spB_cong); (focus (simp only [beq_self_eq_true, bne_self_eq_false, Bool.true_bne, Bool.false_bne, Bool.bne_true, Bool.bne_false, Bool.true_beq, Bool.false_beq, Bool.not_true, Bool.not_false, Bool.not_not, Int.reduceBEq, Int.reduceBNe, Int.reduceLE, Int.reduceLT, Int.reduceEq, decide_true, decide_false]; rfl)))
            | with_reducible first | refine spB_no (by decide) ?_ | refine spB_not ?_
            | (with_reducible refine spB_dec ?_ ?_ <;> intro _ <;> (try (exfalso; first | contradiction | omega | (rename_i hz; refine hz ?_; simp; done) | (rename_i hz; simp at hz; done) | (simp only [LN] at *; omega))))
            | (with_reducible refine spB_beq ?_ ?_ <;> intro _ <;> (try (exfalso; first | contradiction | omega | (rename_i hz; refine hz ?_; simp; done) | (rename_i hz; simp at hz; done) | (simp only [LN] at *; omega))))
            | with_reducible first | refine Z.rowN_known hx ?_
            | ((with_reducible refine Z.vN_K h4 ?_ ?_); (focus rfl))
            | ((with_reducible refine posE_pos ?_ ?_); (focus ((try simp only [LN] at *) <;> omega)))
            | ((with_reducible apply ixN_litp); (focus (exact rfl)); (focus ((try simp only [LN] at *) <;> omega)))
            | ((with_reducible refine apdN.mk ?_ ?_ ?_ ?_ ?_ ?_); (focus (first | (simp; done))); (focus (first | exact one_map2 (fun _ => rfl))); (focus ((try simp only [LN] at *) <;> omega)); (focus ((try simp only [LN] at *) <;> omega)); (focus ((try simp only [LN] at *) <;> omega)))
            | with_reducible first | refine wr_mk _ rfl ?_
            | with_reducible refine nzN_mk (by omega) ?_
            | with_reducible first | refine Z.callZ_in tabOk 153 Try.f37 _ Try.func37 (by kernel_rfl) rfl rfl rfl ?_
            | ((first | (with_reducible refine Z.callZ_mk ?_ (cse) ?_)); (focus ((repeat' (first | exact trivial | exact rfl | apply And.intro)); done)))
            | ((with_reducible apply ex_and); exact rfl))
          all_goals (try (conv => whnf))
          all_goals try (show Nat.ble _ _ = true; rfl)
          all_goals try (exfalso; rename_i hz; first | exact Bool.noConfusion hz | exact hz.elim | exact hz rfl)
          all_goals try (exfalso; (try simp only [LN] at *) <;> omega)
          all_goals (
            refine Z.loopK tabOk (fun zq : Nat × Nat => [(54, .val (.int .i64 (zq.1 : Int)))]) (fun zq : Nat × Nat => ([(9, some (Z.Ob.b ⟨[[.v (.int .u32 7), .v (.int .u64 ((zq.2 : Int) + 1)), .ro true 5 ((bfL put zq.2 T).map eE), .v (.int .i64 rm)]], 4, 55, true⟩)), (8, some (Z.Ob.b ⟨(padP (q0 :: qs).length (q0 :: qs)).map cP, 9, 35, false⟩))] : Z.Kr)) (fun zq => zq.1 ≤ (q0 :: qs).length ∧ LInv rm (i + 1) B zq.2 T l put []) (fun zq => (q0 :: qs).length - zq.1) (0, N) 10 [(5, _), (11, _), (25, _), (26, _), (27, _), (52, _), (53, _)] ⟨rfl, rfl, rfl, rfl, rfl, rfl, rfl, trivial⟩ [(2, _), (3, _), (4, _), (5, _), (6, _), (7, _)] ⟨rfl, rfl, rfl, rfl, rfl, rfl, trivial⟩ ?_ ?_ rfl rfl ⟨Nat.zero_le _, H9⟩ ?_
            · repeat' (first | exact trivial | apply And.intro | exact ⟨_, rfl, Z.Imp.refl _⟩)
            · repeat' (first | exact trivial | exact (fun b hb => ⟨b, hb, Z.ImpO.refl b⟩) | (intro b hb; cases hb; refine ⟨_, rfl, ⟨rfl, rfl, rfl⟩, Z.imp_eq ?_⟩; exact padP_src; done) | apply And.intro)
            rintro ⟨j, M⟩ HINV
            dsimp only at HINV ⊢
            obtain ⟨HJ, HM⟩ := HINV
            by_cases hj : j < (q0 :: qs).length
            · obtain ⟨y9, hy9⟩ := getElem?_some' (xs := (q0 :: qs)) (i := j) hj
              obtain ⟨k9, hk9a, hk9b, hk9c, hk9d⟩ := hQ9 y9 (List.mem_of_getElem? hy9)
              have hyok9 : okP put rm M T y9 := by rw [hk9c]; exact ⟨rfl, .inl ⟨rfl, rfl, k9, rfl, hk9b⟩⟩
              have hyse9 : y9.se = 7 := by rw [hk9c]
              have hysq9 : y9.sq = (k9 : Int) + 1 := by rw [hk9c]
              have hykd9 : y9.kd ≠ 2 := by rw [hk9c]; show (1 : Int) ≠ 2; decide
              have hyn9 := hyok9.num HM.hP
              have che := hear_con 7 ((M : Int) + 1) (bfL put M T) rm y9 (by have h9 := HM.hpl; simp only [List.length_take, List.length_drop]; omega) (fun e he => okEs_num HM.hP e (List.mem_of_mem_take (List.mem_of_mem_drop he))) (by omega) hyn9.1 hyn9.2.2
              obtain ⟨M', hM9, hE9, HM2, hgot⟩ := HM.hear (.inl hyok9) hykd9
              rw [hE9] at che
              dsimp only at che
              have hg2 := hgot hyse9
              have hl8 := HM.hl
              have ht8 := HM.hTN
              have hR8 := (okR_all HM.hR).1
              have hbm8 : (List.map eE (bfL put M T)).length = M - T := by rw [List.length_map, bfL_len HM.hNP]
              have hbm7 : (List.map eE (bfL put M' T)).length = M' - T := by rw [List.length_map, bfL_len HM2.hNP]
              have ht7 := HM2.hTN
              by_cases hs9 : y9.sq = (M : Int) + 1
              · have hM8 : M' = M + 1 := hg2 hs9 (by omega)
                repeat' ((conv => whnf); first
                  | with_reducible first | refine spB_t ?_
                  | ((with_reducible apply spB_cong); (focus (simp only [beq_self_eq_true, bne_self_eq_false, Bool.true_bne, Bool.false_bne, Bool.bne_true, Bool.bne_false, Bool.true_beq, Bool.false_beq, Bool.not_true, Bool.not_false, Bool.not_not, Int.reduceBEq, Int.reduceBNe, Int.reduceLE, Int.reduceLT, Int.reduceEq, decide_true, decide_false]; rfl)))
                  | with_reducible first | refine spB_no (by decide) ?_
                  | (with_reducible refine spB_dec ?_ ?_ <;> intro _ <;> (try (exfalso; first | contradiction | omega | (rename_i hz; refine hz ?_; simp; done) | (rename_i hz; simp at hz; done) | (simp only [LN] at *; omega))))
                  | (with_reducible refine spB_beq ?_ ?_ <;> intro _ <;> (try (exfalso; first | contradiction | omega | (rename_i hz; refine hz ?_; simp; done) | (rename_i hz; simp at hz; done) | (simp only [LN] at *; omega))))
                  | (with_reducible refine spB_bne ?_ ?_ <;> intro _ <;> (try (exfalso; first | contradiction | omega | (rename_i hz; refine hz ?_; simp; done) | (rename_i hz; simp at hz; done) | (simp only [LN] at *; omega))))
                  | with_reducible first | refine Z.rowN_known hy9 ?_
                  | ((with_reducible apply ixN_litp); (focus (exact rfl)); (focus ((try simp only [LN] at *) <;> omega)))
                  | with_reducible refine wr_i64 (by first | omega | (simp only [LN] at *; omega)) ?_
                  | with_reducible refine wr_u64 (by omega) ?_
                  | ((first | (with_reducible refine Z.callZ_mk ?_ (che) ?_)); (focus ((repeat' (first | exact trivial | exact rfl | apply And.intro)); done))))
                all_goals (try (conv => whnf))
                all_goals try (show Nat.ble _ _ = true; rfl)
                all_goals try (exfalso; rename_i hz; first | exact Bool.noConfusion hz | exact hz.elim | exact hz rfl)
                all_goals try (exfalso; (try simp only [LN] at *) <;> omega)
                all_goals first
                  | ((refine Z.rndK ((j + 1, M')) (fun s => [0, 1, 2, 3, 4, 5, 6, 7, 8, 9]) rfl rfl rfl rfl ?_ ?_ ?_ ?_); (focus (repeat' (first | exact trivial | exact rfl | apply And.intro))); (focus (repeat' (first | exact trivial | (intro b hb; cases hb; first | rfl | (cases w <;> rfl)) | (intro b hb; cases hb; done) | exact Z.blk_sub rfl rfl (ren_map fun _ => rfl) | exact Z.gB_sub rfl rfl (ren_map fun _ => rfl) | apply And.intro))); (focus (exact ⟨by (try dsimp only); omega, HM2⟩)); ((try dsimp only); omega))
              · skip
                repeat' ((conv => whnf); first
                  | ((with_reducible apply spB_cong); (focus (simp only [beq_self_eq_true, bne_self_eq_false, Bool.true_bne, Bool.false_bne, Bool.bne_true, Bool.bne_false, Bool.true_beq, Bool.false_beq, Bool.not_true, Bool.not_false, Bool.not_not, Int.reduceBEq, Int.reduceBNe, Int.reduceLE, Int.reduceLT, Int.reduceEq, decide_true, decide_false]; rfl)))
                  | with_reducible first | refine spB_no (by decide) ?_
                  | (with_reducible refine spB_dec ?_ ?_ <;> intro _ <;> (try (exfalso; first | contradiction | omega | (rename_i hz; refine hz ?_; simp; done) | (rename_i hz; simp at hz; done) | (simp only [LN] at *; omega))))
                  | (with_reducible refine spB_beq ?_ ?_ <;> intro _ <;> (try (exfalso; first | contradiction | omega | (rename_i hz; refine hz ?_; simp; done) | (rename_i hz; simp at hz; done) | (simp only [LN] at *; omega))))
                  | with_reducible first | refine Z.rowN_known hy9 ?_
                  | ((with_reducible apply ixN_litp); (focus (exact rfl)); (focus ((try simp only [LN] at *) <;> omega)))
                  | with_reducible refine wr_i64 (by first | omega | (simp only [LN] at *; omega)) ?_
                  | with_reducible refine wr_u64 (by omega) ?_
                  | ((first | (with_reducible refine Z.callZ_mk ?_ (che) ?_)); (focus ((repeat' (first | exact trivial | exact rfl | apply And.intro)); done))))
                all_goals (try (conv => whnf))
                all_goals try (show Nat.ble _ _ = true; rfl)
                all_goals try (exfalso; rename_i hz; first | exact Bool.noConfusion hz | exact hz.elim | exact hz rfl)
                all_goals try (exfalso; (try simp only [LN] at *) <;> omega)
                all_goals first
                  | ((refine Z.rndK ((j + 1, M')) (fun s => [0, 1, 2, 3, 4, 5, 6, 7, 8, 9]) rfl rfl rfl rfl ?_ ?_ ?_ ?_); (focus (repeat' (first | exact trivial | exact rfl | apply And.intro))); (focus (repeat' (first | exact trivial | (intro b hb; cases hb; first | rfl | (cases w <;> rfl)) | (intro b hb; cases hb; done) | exact Z.blk_sub rfl rfl (ren_map fun _ => rfl) | exact Z.gB_sub rfl rfl (ren_map fun _ => rfl) | apply And.intro))); (focus (exact ⟨by (try dsimp only); omega, HM2⟩)); ((try dsimp only); omega))
            repeat' ((conv => whnf); first
              | (with_reducible refine spB_dec ?_ ?_ <;> intro _ <;> (try (exfalso; first | contradiction | omega | (rename_i hz; refine hz ?_; simp; done) | (rename_i hz; simp at hz; done) | (simp only [LN] at *; omega))))
              | with_reducible refine wr_i64 (by first | omega | (simp only [LN] at *; omega)) ?_)
            all_goals (try (conv => whnf))
            all_goals try (show Nat.ble _ _ = true; rfl)
            all_goals try (exfalso; rename_i hz; first | exact Bool.noConfusion hz | exact hz.elim | exact hz rfl)
            all_goals try (exfalso; (try simp only [LN] at *) <;> omega)
            all_goals first
              | ((refine Z.rnd_bi 2 [[_, _, _, _, _, _, _, _, _, .osl _ 0 (q0 :: qs).length none, _, _]] rfl rfl ⟨⟨Z.Imp.refl _, Z.Imp.refl _, Z.Imp.refl _, Z.Imp.refl _, Z.Imp.refl _, Z.Imp.refl _, Z.Imp.refl _, Z.Imp.refl _, Z.Imp.refl _, gslo (by simp) (by simp), Z.Imp.refl _, Z.Imp.refl _, trivial⟩, trivial⟩ ?_); ((refine Z.rndK ((i + 1, B, N, T, l, put, false, (some (q0 :: qs, (q0 :: qs).length)))) (fun s => [0, 1, 2, s.idIn 2 9, 4, 5]) rfl rfl rfl rfl ?_ ?_ ?_ ?_); (focus (repeat' (first | exact trivial | exact rfl | apply And.intro))); (focus (repeat' (first | exact trivial | exact WBb_sub rfl | (intro b hb; cases hb; first | rfl | (cases w <;> rfl)) | exact Z.blk_sub rfl rfl (ren_map fun _ => rfl) | exact Z.gB_sub rfl rfl (ren_map fun _ => rfl) | apply And.intro))); (focus (exact ⟨by (try dsimp only); omega, by (try dsimp only); omega, H2, Nat.le_refl _, HP⟩)); ((try dsimp only); omega))))
        · obtain ⟨rfl, rfl, rfl, rfl⟩ := pe_true HP H
          repeat' ((conv => whnf); first
            | (with_reducible refine spB_dec ?_ ?_ <;> intro _ <;> (try (exfalso; first | contradiction | omega | (rename_i hz; refine hz ?_; simp; done) | (rename_i hz; simp at hz; done) | (simp only [LN] at *; omega)))))
          all_goals (try (conv => whnf))
          all_goals try (show Nat.ble _ _ = true; rfl)
          all_goals try (exfalso; rename_i hz; first | exact Bool.noConfusion hz | exact hz.elim | exact hz rfl)
          all_goals try (exfalso; (try simp only [LN] at *) <;> omega)
    · have hw9 : L.length ≤ N9 := HW
      have hpd : (padP N9 L).length = N9 := padP_len hw9
      have hwl9 : L.length ≤ 8 * i := H.hwl
      cases pe
      · have hp0 : 0 < put.length := pe_false HP
        have hpne : put ≠ [] := fun h9 => by simp [h9] at hp0
        repeat' ((conv => whnf); first
          | with_reducible first | refine spB_t ?_
          | ((with_reducible apply spB_cong); (focus (simp only [beq_self_eq_true, bne_self_eq_false, Bool.true_bne, Bool.false_bne, Bool.bne_true, Bool.bne_false, Bool.true_beq, Bool.false_beq, Bool.not_true, Bool.not_false, Bool.not_not, Int.reduceBEq, Int.reduceBNe, Int.reduceLE, Int.reduceLT, Int.reduceEq, decide_true, decide_false]; rfl)))
          | with_reducible first | refine spB_no (by decide) ?_ | refine spB_not ?_
          | (with_reducible refine spB_dec ?_ ?_ <;> intro _ <;> (try (exfalso; first | contradiction | omega | (rename_i hz; refine hz ?_; simp; done) | (rename_i hz; simp at hz; done) | (simp only [LN] at *; omega))))
          | (with_reducible refine spB_beq ?_ ?_ <;> intro _ <;> (try (exfalso; first | contradiction | omega | (rename_i hz; refine hz ?_; simp; done) | (rename_i hz; simp at hz; done) | (simp only [LN] at *; omega))))
          | with_reducible first | refine Z.rowN_known hx ?_
          | ((with_reducible refine Z.vN_K h4 ?_ ?_); (focus rfl))
          | ((with_reducible apply ixN_litp); (focus (exact rfl)); (focus ((try simp only [LN] at *) <;> omega)))
          | with_reducible first | refine apdE_n ?_
          | ((with_reducible refine apdN.mk ?_ ?_ ?_ ?_ ?_ ?_); (focus (first | (simp; done))); (focus (first | exact one_map2 (fun _ => rfl))); (focus ((try simp only [LN] at *) <;> omega)); (focus ((try simp only [LN] at *) <;> omega)); (focus ((try simp only [LN] at *) <;> omega)))
          | with_reducible first | refine wr_mk _ rfl ?_
          | with_reducible refine nzN_mk (by omega) ?_
          | with_reducible first | refine Z.callZ_in tabOk 153 Try.f37 _ Try.func37 (by kernel_rfl) rfl rfl rfl ?_
          | ((first | (with_reducible refine Z.callZ_mk ?_ (cse) ?_)); (focus ((repeat' (first | exact trivial | exact rfl | apply And.intro)); done)))
          | ((with_reducible apply ex_and); exact rfl))
        all_goals (try (conv => whnf))
        all_goals try (show Nat.ble _ _ = true; rfl)
        all_goals try (exfalso; rename_i hz; first | exact Bool.noConfusion hz | exact hz.elim | exact hz rfl)
        all_goals try (exfalso; (try simp only [LN] at *) <;> omega)
        all_goals (
          refine Z.loopK tabOk (fun zq : Nat × Nat => [(54, .val (.int .i64 (zq.1 : Int)))]) (fun zq : Nat × Nat => ([(9, some (Z.Ob.b ⟨[[.v (.int .u32 7), .v (.int .u64 ((zq.2 : Int) + 1)), .ro true 5 ((bfL put zq.2 T).map eE), .v (.int .i64 rm)]], 4, 55, true⟩)), (8, some (Z.Ob.b ⟨(padP (L ++ Q9).length (L ++ Q9)).map cP, 9, 35, false⟩))] : Z.Kr)) (fun zq => zq.1 ≤ Q9.length ∧ LInv rm (i + 1) B zq.2 T l put []) (fun zq => Q9.length - zq.1) (0, N) 10 [(5, _), (11, _), (25, _), (26, _), (27, _), (52, _), (53, _)] ⟨rfl, rfl, rfl, rfl, rfl, rfl, rfl, trivial⟩ [(2, _), (4, _), (5, _), (6, _), (7, _)] ⟨rfl, rfl, rfl, rfl, rfl, trivial⟩ ?_ ?_ rfl rfl ⟨Nat.zero_le _, H9⟩ ?_
          · repeat' (first | exact trivial | apply And.intro | exact ⟨_, rfl, Z.Imp.refl _⟩)
          · repeat' (first | exact trivial | exact (fun b hb => ⟨b, hb, Z.ImpO.refl b⟩) | (intro b hb; cases hb; refine ⟨_, rfl, ⟨rfl, rfl, rfl⟩, Z.imp_eq ?_⟩; exact padP_app rfl (map_ce fun _ => rfl); done) | apply And.intro)
          rintro ⟨j, M⟩ HINV
          dsimp only at HINV ⊢
          obtain ⟨HJ, HM⟩ := HINV
          by_cases hj : j < Q9.length
          · obtain ⟨y9, hy9⟩ := getElem?_some' (xs := Q9) (i := j) hj
            obtain ⟨k9, hk9a, hk9b, hk9c, hk9d⟩ := hQ9 y9 (List.mem_of_getElem? hy9)
            have hyok9 : okP put rm M T y9 := by rw [hk9c]; exact ⟨rfl, .inl ⟨rfl, rfl, k9, rfl, hk9b⟩⟩
            have hyse9 : y9.se = 7 := by rw [hk9c]
            have hysq9 : y9.sq = (k9 : Int) + 1 := by rw [hk9c]
            have hykd9 : y9.kd ≠ 2 := by rw [hk9c]; show (1 : Int) ≠ 2; decide
            have hyn9 := hyok9.num HM.hP
            have che := hear_con 7 ((M : Int) + 1) (bfL put M T) rm y9 (by have h9 := HM.hpl; simp only [List.length_take, List.length_drop]; omega) (fun e he => okEs_num HM.hP e (List.mem_of_mem_take (List.mem_of_mem_drop he))) (by omega) hyn9.1 hyn9.2.2
            obtain ⟨M', hM9, hE9, HM2, hgot⟩ := HM.hear (.inl hyok9) hykd9
            rw [hE9] at che
            dsimp only at che
            have hg2 := hgot hyse9
            have hl8 := HM.hl
            have ht8 := HM.hTN
            have hR8 := (okR_all HM.hR).1
            have hbm8 : (List.map eE (bfL put M T)).length = M - T := by rw [List.length_map, bfL_len HM.hNP]
            have hbm7 : (List.map eE (bfL put M' T)).length = M' - T := by rw [List.length_map, bfL_len HM2.hNP]
            have ht7 := HM2.hTN
            by_cases hs9 : y9.sq = (M : Int) + 1
            · have hM8 : M' = M + 1 := hg2 hs9 (by omega)
              repeat' ((conv => whnf); first
                | with_reducible first | refine spB_t ?_
                | ((with_reducible apply spB_cong); (focus (simp only [beq_self_eq_true, bne_self_eq_false, Bool.true_bne, Bool.false_bne, Bool.bne_true, Bool.bne_false, Bool.true_beq, Bool.false_beq, Bool.not_true, Bool.not_false, Bool.not_not, Int.reduceBEq, Int.reduceBNe, Int.reduceLE, Int.reduceLT, Int.reduceEq, decide_true, decide_false]; rfl)))
                | with_reducible first | refine spB_no (by decide) ?_
                | (with_reducible refine spB_dec ?_ ?_ <;> intro _ <;> (try (exfalso; first | contradiction | omega | (rename_i hz; refine hz ?_; simp; done) | (rename_i hz; simp at hz; done) | (simp only [LN] at *; omega))))
                | (with_reducible refine spB_beq ?_ ?_ <;> intro _ <;> (try (exfalso; first | contradiction | omega | (rename_i hz; refine hz ?_; simp; done) | (rename_i hz; simp at hz; done) | (simp only [LN] at *; omega))))
                | (with_reducible refine spB_bne ?_ ?_ <;> intro _ <;> (try (exfalso; first | contradiction | omega | (rename_i hz; refine hz ?_; simp; done) | (rename_i hz; simp at hz; done) | (simp only [LN] at *; omega))))
                | with_reducible first | refine Z.rowN_known hy9 ?_
                | ((with_reducible apply ixN_litp); (focus (exact rfl)); (focus ((try simp only [LN] at *) <;> omega)))
                | with_reducible refine wr_i64 (by first | omega | (simp only [LN] at *; omega)) ?_
                | with_reducible refine wr_u64 (by omega) ?_
                | ((first | (with_reducible refine Z.callZ_mk ?_ (che) ?_)); (focus ((repeat' (first | exact trivial | exact rfl | apply And.intro)); done))))
              all_goals (try (conv => whnf))
              all_goals try (show Nat.ble _ _ = true; rfl)
              all_goals try (exfalso; rename_i hz; first | exact Bool.noConfusion hz | exact hz.elim | exact hz rfl)
              all_goals try (exfalso; (try simp only [LN] at *) <;> omega)
              all_goals first
                | ((refine Z.rndK ((j + 1, M')) (fun s => [0, 1, 2, 3, 4, 5, 6, 7, 8, 9]) rfl rfl rfl rfl ?_ ?_ ?_ ?_); (focus (repeat' (first | exact trivial | exact rfl | apply And.intro))); (focus (repeat' (first | exact trivial | (intro b hb; cases hb; first | rfl | (cases w <;> rfl)) | exact Z.blk_sub rfl rfl (ren_map fun _ => rfl) | exact Z.gB_sub rfl rfl (ren_map fun _ => rfl) | apply And.intro))); (focus (exact ⟨by (try dsimp only); omega, HM2⟩)); ((try dsimp only); omega))
            · skip
              repeat' ((conv => whnf); first
                | ((with_reducible apply spB_cong); (focus (simp only [beq_self_eq_true, bne_self_eq_false, Bool.true_bne, Bool.false_bne, Bool.bne_true, Bool.bne_false, Bool.true_beq, Bool.false_beq, Bool.not_true, Bool.not_false, Bool.not_not, Int.reduceBEq, Int.reduceBNe, Int.reduceLE, Int.reduceLT, Int.reduceEq, decide_true, decide_false]; rfl)))
                | with_reducible first | refine spB_no (by decide) ?_
                | (with_reducible refine spB_dec ?_ ?_ <;> intro _ <;> (try (exfalso; first | contradiction | omega | (rename_i hz; refine hz ?_; simp; done) | (rename_i hz; simp at hz; done) | (simp only [LN] at *; omega))))
                | (with_reducible refine spB_beq ?_ ?_ <;> intro _ <;> (try (exfalso; first | contradiction | omega | (rename_i hz; refine hz ?_; simp; done) | (rename_i hz; simp at hz; done) | (simp only [LN] at *; omega))))
                | with_reducible first | refine Z.rowN_known hy9 ?_
                | ((with_reducible apply ixN_litp); (focus (exact rfl)); (focus ((try simp only [LN] at *) <;> omega)))
                | with_reducible refine wr_i64 (by first | omega | (simp only [LN] at *; omega)) ?_
                | with_reducible refine wr_u64 (by omega) ?_
                | ((first | (with_reducible refine Z.callZ_mk ?_ (che) ?_)); (focus ((repeat' (first | exact trivial | exact rfl | apply And.intro)); done))))
              all_goals (try (conv => whnf))
              all_goals try (show Nat.ble _ _ = true; rfl)
              all_goals try (exfalso; rename_i hz; first | exact Bool.noConfusion hz | exact hz.elim | exact hz rfl)
              all_goals try (exfalso; (try simp only [LN] at *) <;> omega)
              all_goals first
                | ((refine Z.rndK ((j + 1, M')) (fun s => [0, 1, 2, 3, 4, 5, 6, 7, 8, 9]) rfl rfl rfl rfl ?_ ?_ ?_ ?_); (focus (repeat' (first | exact trivial | exact rfl | apply And.intro))); (focus (repeat' (first | exact trivial | (intro b hb; cases hb; first | rfl | (cases w <;> rfl)) | exact Z.blk_sub rfl rfl (ren_map fun _ => rfl) | exact Z.gB_sub rfl rfl (ren_map fun _ => rfl) | apply And.intro))); (focus (exact ⟨by (try dsimp only); omega, HM2⟩)); ((try dsimp only); omega))
          repeat' ((conv => whnf); first
            | (with_reducible refine spB_dec ?_ ?_ <;> intro _ <;> (try (exfalso; first | contradiction | omega | (rename_i hz; refine hz ?_; simp; done) | (rename_i hz; simp at hz; done) | (simp only [LN] at *; omega))))
            | with_reducible refine wr_i64 (by first | omega | (simp only [LN] at *; omega)) ?_)
          all_goals (try (conv => whnf))
          all_goals try (show Nat.ble _ _ = true; rfl)
          all_goals try (exfalso; rename_i hz; first | exact Bool.noConfusion hz | exact hz.elim | exact hz rfl)
          all_goals try (exfalso; (try simp only [LN] at *) <;> omega)
          all_goals first
            | ((refine Z.rnd_bi 2 [[_, _, _, _, _, _, _, _, _, .osl _ 0 (L ++ Q9).length none, _, _]] rfl rfl ⟨⟨Z.Imp.refl _, Z.Imp.refl _, Z.Imp.refl _, Z.Imp.refl _, Z.Imp.refl _, Z.Imp.refl _, Z.Imp.refl _, Z.Imp.refl _, Z.Imp.refl _, Z.Imp.oslcn (by simp), Z.Imp.refl _, Z.Imp.refl _, trivial⟩, trivial⟩ ?_); ((refine Z.rndK ((i + 1, B, N, T, l, put, false, (some (L ++ Q9, (L ++ Q9).length)))) (fun s => [0, 1, 2, s.idIn 2 9, 4, 5]) rfl rfl rfl rfl ?_ ?_ ?_ ?_); (focus (repeat' (first | exact trivial | exact rfl | apply And.intro))); (focus (repeat' (first | exact trivial | exact WBb_sub rfl | (intro b hb; cases hb; first | rfl | (cases w <;> rfl)) | exact Z.blk_sub rfl rfl (ren_map fun _ => rfl) | exact Z.gB_sub rfl rfl (ren_map fun _ => rfl) | apply And.intro))); (focus (exact ⟨by (try dsimp only); omega, by (try dsimp only); omega, H2, Nat.le_refl _, HP⟩)); ((try dsimp only); omega))))
      · obtain ⟨rfl, rfl, rfl, rfl⟩ := pe_true HP H
        repeat' ((conv => whnf); first
          | with_reducible first | refine spB_t ?_
          | ((with_reducible apply spB_cong); (focus (simp only [beq_self_eq_true, bne_self_eq_false, Bool.true_bne, Bool.false_bne, Bool.bne_true, Bool.bne_false, Bool.true_beq, Bool.false_beq, Bool.not_true, Bool.not_false, Bool.not_not, Int.reduceBEq, Int.reduceBNe, Int.reduceLE, Int.reduceLT, Int.reduceEq, decide_true, decide_false]; rfl)))
          | with_reducible first | refine spB_no (by decide) ?_ | refine spB_not ?_
          | (with_reducible refine spB_dec ?_ ?_ <;> intro _ <;> (try (exfalso; first | contradiction | omega | (rename_i hz; refine hz ?_; simp; done) | (rename_i hz; simp at hz; done) | (simp only [LN] at *; omega))))
          | (with_reducible refine spB_beq ?_ ?_ <;> intro _ <;> (try (exfalso; first | contradiction | omega | (rename_i hz; refine hz ?_; simp; done) | (rename_i hz; simp at hz; done) | (simp only [LN] at *; omega))))
          | with_reducible first | refine Z.rowN_known hx ?_
          | ((with_reducible refine Z.vN_K h4 ?_ ?_); (focus rfl))
          | ((with_reducible apply ixN_litp); (focus (exact rfl)); (focus ((try simp only [LN] at *) <;> omega)))
          | with_reducible first | refine apdE_n ?_
          | ((with_reducible refine apdN.mk ?_ ?_ ?_ ?_ ?_ ?_); (focus (first | (simp; done))); (focus (first | exact one_map2 (fun _ => rfl))); (focus ((try simp only [LN] at *) <;> omega)); (focus ((try simp only [LN] at *) <;> omega)); (focus ((try simp only [LN] at *) <;> omega)))
          | with_reducible first | refine wr_mk _ rfl ?_
          | with_reducible refine nzN_mk (by omega) ?_
          | with_reducible first | refine Z.callZ_in tabOk 153 Try.f37 _ Try.func37 (by kernel_rfl) rfl rfl rfl ?_
          | ((first | (with_reducible refine Z.callZ_mk ?_ (cse) ?_)); (focus ((repeat' (first | exact trivial | exact rfl | apply And.intro)); done)))
          | ((with_reducible apply ex_and); exact rfl))
        all_goals (try (conv => whnf))
        all_goals try (show Nat.ble _ _ = true; rfl)
        all_goals try (exfalso; rename_i hz; first | exact Bool.noConfusion hz | exact hz.elim | exact hz rfl)
        all_goals try (exfalso; (try simp only [LN] at *) <;> omega)
        all_goals (
          refine Z.loopK tabOk (fun zq : Nat × Nat => [(54, .val (.int .i64 (zq.1 : Int)))]) (fun zq : Nat × Nat => ([(9, some (Z.Ob.b ⟨[[.v (.int .u32 7), .v (.int .u64 ((zq.2 : Int) + 1)), .ro true 5 ((bfL ([] : List El) zq.2 0).map eE), .v (.int .i64 rm)]], 4, 55, true⟩)), (8, some (Z.Ob.b ⟨(padP (L ++ Q9).length (L ++ Q9)).map cP, 9, 35, false⟩))] : Z.Kr)) (fun zq => zq.1 ≤ Q9.length ∧ LInv rm (i + 1) 0 zq.2 0 l ([] : List El) []) (fun zq => Q9.length - zq.1) (0, 0) 10 [(5, _), (11, _), (25, _), (26, _), (27, _), (52, _), (53, _)] ⟨rfl, rfl, rfl, rfl, rfl, rfl, rfl, trivial⟩ [(2, _), (4, _), (5, _), (6, _), (7, _)] ⟨rfl, rfl, rfl, rfl, rfl, trivial⟩ ?_ ?_ rfl rfl ⟨Nat.zero_le _, H9⟩ ?_
          · repeat' (first | exact trivial | apply And.intro | exact ⟨_, rfl, Z.Imp.refl _⟩)
          · repeat' (first | exact trivial | exact (fun b hb => ⟨b, hb, Z.ImpO.refl b⟩) | (intro b hb; cases hb; refine ⟨_, rfl, ⟨rfl, rfl, rfl⟩, Z.imp_eq ?_⟩; exact padP_app rfl (map_ce fun _ => rfl); done) | apply And.intro)
          rintro ⟨j, M⟩ HINV
          dsimp only at HINV ⊢
          obtain ⟨HJ, HM⟩ := HINV
          by_cases hj : j < Q9.length
          · obtain ⟨y9, hy9⟩ := getElem?_some' (xs := Q9) (i := j) hj
            obtain ⟨k9, hk9a, hk9b, hk9c, hk9d⟩ := hQ9 y9 (List.mem_of_getElem? hy9)
            simp at hk9b
          repeat' ((conv => whnf); first
            | (with_reducible refine spB_dec ?_ ?_ <;> intro _ <;> (try (exfalso; first | contradiction | omega | (rename_i hz; refine hz ?_; simp; done) | (rename_i hz; simp at hz; done) | (simp only [LN] at *; omega))))
            | with_reducible refine wr_i64 (by first | omega | (simp only [LN] at *; omega)) ?_)
          all_goals (try (conv => whnf))
          all_goals try (show Nat.ble _ _ = true; rfl)
          all_goals try (exfalso; rename_i hz; first | exact Bool.noConfusion hz | exact hz.elim | exact hz rfl)
          all_goals try (exfalso; (try simp only [LN] at *) <;> omega)
          all_goals first
            | ((refine Z.rnd_bi 2 [[_, _, _, _, _, _, _, _, _, .osl _ 0 (L ++ Q9).length none, _, _]] rfl rfl ⟨⟨Z.Imp.refl _, Z.Imp.refl _, Z.Imp.refl _, Z.Imp.refl _, Z.Imp.refl _, Z.Imp.refl _, Z.Imp.refl _, Z.Imp.refl _, Z.Imp.refl _, Z.Imp.oslcn (by simp), Z.Imp.refl _, Z.Imp.refl _, trivial⟩, trivial⟩ ?_); ((refine Z.rndK ((i + 1, 0, 0, 0, l, [], true, (some (L ++ Q9, (L ++ Q9).length)))) (fun s => [0, 1, 2, s.idIn 2 9, 4, 5]) rfl rfl rfl rfl ?_ ?_ ?_ ?_); (focus (repeat' (first | exact trivial | exact rfl | apply And.intro))); (focus (repeat' (first | exact trivial | exact WBb_sub rfl | (intro b hb; cases hb; first | rfl | (cases w <;> rfl)) | (intro b hb; cases hb; done) | apply And.intro))); (focus (exact ⟨by (try dsimp only); omega, by (try dsimp only); omega, H2, Nat.le_refl _, HP⟩)); ((try dsimp only); omega)))))
end Go.Proofs.Ytoiadndmbppobaa
