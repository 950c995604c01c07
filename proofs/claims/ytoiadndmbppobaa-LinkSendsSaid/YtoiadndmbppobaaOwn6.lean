import Derived.Test.YtoiadndmbppobaaLib3
import Derived.Test.YtoiadndmbppobaaLib5
import Derived.Test.YtoiadndmbppobaaLib4
import Derived.Test.YtoiadndmbppobaaRows
namespace Go.Proofs.Ytoiadndmbppobaa
open Go Go.RowKit Wx
set_option linter.unusedVariables false
set_option linter.unusedSimpArgs false
set_option maxHeartbeats 4000000
structure El where
  kd : Int
  src : Int
  key : Int
  val : Int
  num : Int
deriving DecidableEq
abbrev eE (x : El) : List RT := [RT.v (.int .i64 x.kd), RT.v (.int .i64 x.src), RT.v (.int .i64 x.key), RT.v (.int .i64 x.val), RT.v (.int .u64 x.num)]
abbrev cE (x : El) : List Ce := [Ce.v (.int .i64 x.kd), Ce.v (.int .i64 x.src), Ce.v (.int .i64 x.key), Ce.v (.int .i64 x.val), Ce.v (.int .u64 x.num)]
/-- A packet. -/
structure Pk where
  kd : Int
  se : Int
  sq : Int
  lim : Int
  e : El
deriving DecidableEq
abbrev eP (x : Pk) : List RT := [RT.v (.int .i64 x.kd), RT.v (.int .u32 x.se), RT.v (.int .u64 x.sq), RT.v (.int .u64 x.lim), RT.v (.int .i64 x.e.kd), RT.v (.int .i64 x.e.src), RT.v (.int .i64 x.e.key), RT.v (.int .i64 x.e.val), RT.v (.int .u64 x.e.num)]
abbrev cP (x : Pk) : List Ce := [Ce.v (.int .i64 x.kd), Ce.v (.int .u32 x.se), Ce.v (.int .u64 x.sq), Ce.v (.int .u64 x.lim), Ce.v (.int .i64 x.e.kd), Ce.v (.int .i64 x.e.src), Ce.v (.int .i64 x.e.key), Ce.v (.int .i64 x.e.val), Ce.v (.int .u64 x.e.num)]
structure Sn where
  n : Int
  b : Int
  q : List El
  l : Int
  d : Bool
structure Rc where
  n : Int
  nx : Int
  bf : List El
  rm : Int
def okE (e : El) : Bool := decide ((e.kd = 1 ∧ (0 ≤ e.src ∧ e.src < 8 ∧ 0 ≤ e.key ∧ e.key < 32) ∧ e.num = 0) ∨ (e.kd = 2 ∧ (e.src = 0 ∧ e.key = 0 ∧ e.val = 0) ∧ 0 < e.num ∧ e.num ≤ 4611686018427387904) ∨ (e.kd = 3 ∧ (e.src = 0 ∧ e.key = 0 ∧ e.val = 0) ∧ e.num = 0))
def okEs : List El → Bool
  | [] => true
  | e :: r => okE e && decide (e.kd = 3 → r = []) && okEs r
theorem okEs_at {l : List El} {i : Nat} {x : El} (h : l[i]? = some x) : okEs (l.drop i) = (okE x && decide (x.kd = 3 → l.length ≤ i + 1) && okEs (l.drop (i + 1))) := by
  rw [drop_cons h, okEs]
  congr 2
  have hl := (List.getElem?_eq_some_iff.1 h).1
  refine decide_eq_decide.2 ⟨fun h1 h2 => ?_, fun h1 h2 => ?_⟩
  · have := h1 h2
    have h3 : (l.drop (i + 1)).length = 0 := by rw [this]; rfl
    simp at h3; omega
  · exact List.drop_eq_nil_of_le (h1 h2)
/-- Is the last one an end? -/
def endsL (l : List El) : Bool := match l[l.length - 1]? with
  | some e => decide (e.kd = 3)
  | none => false
theorem endsL_at {l : List El} {x : El} (h : l[l.length - 1]? = some x) : endsL l = decide (x.kd = 3) := by unfold endsL; rw [h]
def okS (n b : Int) (q : List El) (l : Int) (d : Bool) : Bool := decide ((1 ≤ n ∧ n ≤ 2147483647) ∧ (1 ≤ b ∧ b ≤ 4611686018427387904) ∧ q.length ≤ 8 ∧ b + (q.length : Int) ≤ 4611686018427387905 ∧ l ≤ 4611686018427387904) && okEs q && (d || !endsL q)
def okR (n nx : Int) (bf : List El) (rm : Int) : Bool := decide ((1 ≤ n ∧ n ≤ 2147483647) ∧ (1 ≤ nx ∧ nx ≤ 4611686018427387905) ∧ (1 ≤ rm ∧ rm ≤ 8) ∧ (bf.length : Int) ≤ rm ∧ (bf.length : Int) < nx) && okEs bf
theorem okS_all {n b l : Int} {q : List El} {d : Bool} (h : okS n b q l d = true) : ((1 ≤ n ∧ n ≤ 2147483647) ∧ (1 ≤ b ∧ b ≤ 4611686018427387904) ∧ q.length ≤ 8 ∧ b + (q.length : Int) ≤ 4611686018427387905 ∧ l ≤ 4611686018427387904) ∧ okEs q = true ∧ (d = true ∨ endsL q = false) := by
  unfold okS at h
  simp only [Bool.and_eq_true, Bool.or_eq_true, Bool.not_eq_true', decide_eq_true_eq] at h
  exact ⟨h.1.1, h.1.2, h.2⟩
theorem okR_all {n nx rm : Int} {bf : List El} (h : okR n nx bf rm = true) : ((1 ≤ n ∧ n ≤ 2147483647) ∧ (1 ≤ nx ∧ nx ≤ 4611686018427387905) ∧ (1 ≤ rm ∧ rm ≤ 8) ∧ (bf.length : Int) ≤ rm ∧ (bf.length : Int) < nx) ∧ okEs bf = true := by
  unfold okR at h
  simp only [Bool.and_eq_true, decide_eq_true_eq] at h
  exact ⟨h.1, h.2⟩
def zS : Sn := ⟨0, 0, [], 0, false⟩
def zR : Rc := ⟨0, 0, [], 0⟩
def zE : El := ⟨0, 0, 0, 0, 0⟩
def putR (n b : Int) (q : List El) (l : Int) (d : Bool) (e : El) : Sn × Int :=
  bif okS n b q l d then bif okE e then bif d then (zS, 241) else if 8 ≤ q.length ∨ b + (q.length : Int) > 4611686018427387904 then (zS, 6) else (⟨n, b, q ++ [e], l, decide (e.kd = 3)⟩, 0) else (zS, 151) else (zS, 240)
/-- The packets for elements from the number s on, up to the limit. -/
def pks (n l : Int) : Int → List El → List Pk
  | _, [] => []
  | s, e :: r => if s ≤ l then ⟨1, n, s, 0, e⟩ :: pks n l (s + 1) r else []
def sendR (n b : Int) (q : List El) (l : Int) (d : Bool) : List Pk × Int := bif okS n b q l d then (pks n l b q, 0) else ([], 240)
def ackOf (n b : Int) (q : List El) (p : Pk) : Prop := p = ⟨2, n, p.sq, p.lim, zE⟩ ∧ b ≤ p.sq ∧ p.sq ≤ b + (q.length : Int) ∧ p.sq ≤ 4611686018427387904 ∧ p.lim ≤ 4611686018427387904
instance (n b : Int) (q : List El) (p : Pk) : Decidable (ackOf n b q p) := by unfold ackOf; infer_instance
def ackedR (n b : Int) (q : List El) (l : Int) (d : Bool) (p : Pk) : Sn × Int :=
  bif okS n b q l d then if ackOf n b q p then (⟨n, p.sq, q.drop (p.sq - b).toNat, max l p.lim, d⟩, 0) else (⟨n, b, q, l, d⟩, 0) else (zS, 240)
def dataOf (n nx : Int) (bf : List El) (rm : Int) (p : Pk) : Prop := p = ⟨1, n, nx, 0, p.e⟩ ∧ nx ≤ 4611686018427387904 ∧ okE p.e = true ∧ (bf.length : Int) < rm ∧ endsL bf = false
instance (n nx : Int) (bf : List El) (rm : Int) (p : Pk) : Decidable (dataOf n nx bf rm p) := by unfold dataOf; infer_instance
def takeR (n nx : Int) (bf : List El) (rm : Int) : Rc × El × Int :=
  bif okR n nx bf rm then (match bf with
    | [] => (zR, zE, 4)
    | e :: r => (⟨n, nx, r, rm⟩, e, 0)) else (zR, zE, 240)
end Go.Proofs.Ytoiadndmbppobaa
namespace Go.Proofs.Ytoiadndmbppobaa
open Go Go.RowKit Wx
set_option linter.unusedVariables false
set_option linter.unusedSimpArgs false
set_option maxHeartbeats 4000000
theorem checkE_con (e : El) (hu : 0 ≤ e.num) : Con Try.prog 52 [.agg [.v (.int .i64 e.kd), .v (.int .i64 e.src), .v (.int .i64 e.key), .v (.int .i64 e.val), .v (.int .u64 e.num)]] (fun rx rK rt => rx = .val (.int .i64 (bif okE e then 0 else 151)) ∧ rK = [] ∧ rt = 0) := by
  refine Z.con_ofF tabOk 40 Try.f52 _ Try.func52 (by kernel_rfl) rfl rfl rfl rfl ?_
  repeat' ((conv => whnf); first
    | with_reducible first | refine spB_t ?_
    | ((with_reducible apply spB_cong); (focus (simp only [beq_self_eq_true, bne_self_eq_false, Bool.true_bne, Bool.false_bne, Bool.bne_true, Bool.bne_false, Bool.true_beq, Bool.false_beq, Bool.not_true, Bool.not_false, Bool.not_not, Int.reduceBEq, Int.reduceBNe, Int.reduceLE, Int.reduceLT, Int.reduceEq, decide_true, decide_false]; rfl)))
    | with_reducible first | refine spB_no (by decide) ?_ | refine spB_not ?_
    | (with_reducible refine spB_dec ?_ ?_ <;> intro _ <;> (try (exfalso; first | contradiction | omega | (rename_i hz; with_reducible exact absurd rfl hz))))
    | (with_reducible refine spB_beq ?_ ?_ <;> intro _ <;> (try (exfalso; first | contradiction | omega | (rename_i hz; with_reducible exact absurd rfl hz))))
    | (with_reducible refine spB_mk ?_ ?_ <;> intro _ <;> (try (exfalso; first | contradiction | omega | (rename_i hz; with_reducible exact absurd rfl hz))))
    | with_reducible first | refine Z.callZ_in tabOk 21 Try.f63 _ Try.func63 (by kernel_rfl) rfl rfl rfl ?_
    | ((with_reducible apply ex_and); exact rfl))
  all_goals (try (conv => whnf))
  all_goals first
    | ((first | (with_reducible apply Z.retF1)); (focus (exact rfl)); (repeat' (first | exact trivial | (with_reducible apply Z.frz_one) | (with_reducible apply Z.fq_int) | apply And.intro)); (all_goals (try exact (fun _ => none))); all_goals (first | (rw [show okE e = true by (unfold okE; (try simp only [Bool.and_eq_true, Bool.and_eq_false_iff, Bool.and_true, beq_iff_eq, beq_eq_false_iff_ne, bne_iff_ne, Bool.not_eq_true, Bool.not_eq_false, ne_eq, Bool.false_eq_true, or_false] at *); first | exact decide_eq_true (by omega) | exact decide_eq_false (by omega))]; rfl) | (rw [show okE e = false by (unfold okE; (try simp only [Bool.and_eq_true, Bool.and_eq_false_iff, Bool.and_true, beq_iff_eq, beq_eq_false_iff_ne, bne_iff_ne, Bool.not_eq_true, Bool.not_eq_false, ne_eq, Bool.false_eq_true, or_false] at *); first | exact decide_eq_true (by omega) | exact decide_eq_false (by omega))]; rfl)))

theorem row_con (l : List El) (hl : l.length ≤ 9223372036854775807) (hu : ∀ e ∈ l, 0 ≤ e.num) : Con Try.prog 48 [.one (.ro false 5 (l.map eE))] (fun rx rK rt => rx = .val (.bool (okEs l)) ∧ rK = [] ∧ rt = 0) := by
  refine Z.con_ofF tabOk 28 Try.f48 _ Try.func48 (by kernel_rfl) rfl rfl rfl rfl ?_
  repeat' ((conv => whnf); first
    | with_reducible first | refine spB_t ?_)
  all_goals (try (conv => whnf))
  all_goals try (show Nat.ble _ _ = true; rfl)
  refine Z.loopK tabOk (fun zq : Nat => [(7, .val (.int .i64 (zq : Int)))]) (fun zq : Nat => ([] : Z.Kr)) (fun zq => zq ≤ l.length ∧ okEs l = okEs (l.drop zq)) (fun zq => l.length - zq) 0 0 [(0, _), (5, _), (6, _)] ⟨rfl, rfl, rfl, trivial⟩ [] trivial ?_ ?_ rfl rfl ⟨Nat.zero_le _, rfl⟩ ?_
  · repeat' (first | exact trivial | apply And.intro | exact ⟨_, rfl, Z.Imp.refl _⟩)
  · repeat' (first | exact trivial)
  rintro i HINV
  dsimp only at HINV ⊢
  obtain ⟨HI, HO⟩ := HINV
  by_cases hi : i < l.length
  · obtain ⟨x, hx⟩ := getElem?_some' (xs := l) (i := i) hi
    have ce := checkE_con x (hu x (List.mem_of_getElem? hx))
    have hat := okEs_at hx
    cases hok : okE x
    all_goals rw [hok] at ce hat
    all_goals simp only [cond_true, cond_false] at ce
    all_goals (
      repeat' ((conv => whnf); first
        | with_reducible first | refine spB_t ?_
        | ((with_reducible apply spB_cong); (focus (simp only [beq_self_eq_true, bne_self_eq_false, Bool.true_bne, Bool.false_bne, Bool.bne_true, Bool.bne_false, Bool.true_beq, Bool.false_beq, Bool.not_true, Bool.not_false, Bool.not_not, Int.reduceBEq, Int.reduceBNe, Int.reduceLE, Int.reduceLT, Int.reduceEq, decide_true, decide_false]; rfl)))
        | with_reducible first | refine spB_no (by decide) ?_
        | (with_reducible refine spB_dec ?_ ?_ <;> intro _ <;> (try (exfalso; first | contradiction | omega | (rename_i hz; refine hz ?_; simp; done) | (rename_i hz; simp at hz; done) | (simp only [LN] at *; omega))))
        | (with_reducible refine spB_beq ?_ ?_ <;> intro _ <;> (try (exfalso; first | contradiction | omega | (rename_i hz; refine hz ?_; simp; done) | (rename_i hz; simp at hz; done) | (simp only [LN] at *; omega))))
        | with_reducible first | refine Z.rowN_known hx ?_
        | ((with_reducible apply ixN_litp); (focus (exact rfl)); (focus ((try simp only [LN] at *) <;> omega)))
        | with_reducible refine wr_i64 (by first | omega | (simp only [LN] at *; omega)) ?_
        | ((first | (with_reducible refine Z.callZ_mk ?_ (ce) ?_)); (focus ((repeat' (first | exact trivial | exact rfl | apply And.intro)); done))))
      all_goals (try (conv => whnf)))
    all_goals try (show Nat.ble _ _ = true; rfl)
    all_goals first
      | ((refine Z.rndK ((i + 1)) (fun s => []) rfl rfl rfl rfl ?_ ?_ ?_ ?_); (focus (repeat' (first | exact trivial | exact rfl | apply And.intro))); (focus (repeat' (first | exact trivial))); (focus (exact ⟨by (try dsimp only); omega, by (try dsimp only); rw [HO, hat, decide_eq_true (fun h9 : x.kd = 3 => by (try simp only [LN] at *) <;> omega), Bool.true_and, Bool.true_and]⟩)); ((try dsimp only); omega))
      | ((first | (with_reducible apply Z.retF1)); (focus (exact rfl)); (repeat' (first | exact trivial | (with_reducible apply Z.frz_one) | (with_reducible apply Z.fq_bool) | apply And.intro)); (all_goals (try exact (fun _ => none))); all_goals (first | (rw [HO, hat]; rfl) | (rw [HO, hat, decide_eq_false (fun h9 => absurd (h9 (by assumption)) (by (try simp only [LN] at *) <;> omega))]; rfl)))
  have hil : i = l.length := by omega
  repeat' ((conv => whnf); first
    | (with_reducible refine spB_dec ?_ ?_ <;> intro _ <;> (try (exfalso; first | contradiction | omega | (rename_i hz; refine hz ?_; simp; done) | (rename_i hz; simp at hz; done) | (simp only [LN] at *; omega)))))
  all_goals (try (conv => whnf))
  all_goals try (show Nat.ble _ _ = true; rfl)
  all_goals first
    | ((first | (with_reducible apply Z.retF1)); (focus (exact rfl)); (repeat' (first | exact trivial | (with_reducible apply Z.frz_one) | (with_reducible apply Z.fq_bool) | apply And.intro)); (all_goals (try exact (fun _ => none))); all_goals (rw [HO, hil, List.drop_length]; rfl))

theorem ends_con (l : List El) (hl : l.length ≤ 9223372036854775807) : Con Try.prog 49 [.one (.ro false 5 (l.map eE))] (fun rx rK rt => rx = .val (.bool (endsL l)) ∧ rK = [] ∧ rt = 0) := by
  refine Z.con_ofF tabOk 16 Try.f49 _ Try.func49 (by kernel_rfl) rfl rfl rfl rfl ?_
  rcases Nat.eq_zero_or_pos l.length with h0 | h0
  · have he : l = [] := List.length_eq_zero_iff.1 h0
    subst he
    repeat' ((conv => whnf); first
      | with_reducible first | refine spB_no (by decide) ?_)
    all_goals (try (conv => whnf))
    all_goals try (show Nat.ble _ _ = true; rfl)
    all_goals first
      | ((first | (with_reducible apply Z.retF1)); (focus (exact rfl)); (repeat' (first | exact trivial | (with_reducible apply Z.frz_one) | (with_reducible apply Z.fq_bool) | exact rfl | apply And.intro)); (all_goals (try exact (fun _ => none))); all_goals (first | (unfold endsL; simp_all; done)))
  obtain ⟨x, hx⟩ := getElem?_some' (xs := l) (i := l.length - 1) (by omega)
  repeat' ((conv => whnf); first
    | with_reducible first | refine spB_t ?_
    | (with_reducible refine spB_dec ?_ ?_ <;> intro _ <;> (try (exfalso; first | contradiction | omega | (rename_i hz; refine hz ?_; simp; done) | (rename_i hz; simp at hz; done) | (simp only [LN] at *; omega))))
    | ((with_reducible refine ixN_mk (l.length - 1) ?_ ?_ ?_); (focus (first | ((try simp only [LN] at *) <;> omega))); (focus ((try simp only [LN] at *) <;> omega)))
    | with_reducible first | refine Z.rowN_known hx ?_
    | with_reducible refine wr_i64 (by first | omega | (simp only [LN] at *; omega)) ?_)
  all_goals (try (conv => whnf))
  all_goals try (show Nat.ble _ _ = true; rfl)
  all_goals first
    | ((first | (with_reducible apply Z.retF1)); (focus (exact rfl)); (repeat' (first | exact trivial | (with_reducible apply Z.frz_one) | (with_reducible apply Z.fq_bool) | apply And.intro)); (all_goals (try exact (fun _ => none))); all_goals (first | (rw [endsL_at hx]; rfl)))

theorem checkS_con (n b : Int) (q : List El) (l : Int) (d : Bool) (hq : q.length ≤ 9223372036854775807) (hu : ∀ e ∈ q, 0 ≤ e.num) (hb0 : 0 ≤ b) (hl0 : 0 ≤ l) : Con Try.prog 13 [.agg [.v (.int .u32 n), .v (.int .u64 b), .ro false 5 (q.map eE), .v (.int .u64 l), .v (.bool d)]] (fun rx rK rt => rx = .val (.int .i64 (bif okS n b q l d then 0 else 240)) ∧ rK = [] ∧ rt = 0) := by
  refine Z.con_ofF tabOk 50 Try.f13 _ Try.func13 (by kernel_rfl) rfl rfl rfl rfl ?_
  have cr := row_con q hq hu
  have ce2 := ends_con q hq
  have e1 : okS n b q l d = (decide ((1 ≤ n ∧ n ≤ 2147483647) ∧ (1 ≤ b ∧ b ≤ 4611686018427387904) ∧ q.length ≤ 8 ∧ b + (q.length : Int) ≤ 4611686018427387905 ∧ l ≤ 4611686018427387904) && okEs q && (d || !endsL q)) := rfl
  generalize okS n b q l d = K at *
  by_cases hP : ((1 ≤ n ∧ n ≤ 2147483647) ∧ (1 ≤ b ∧ b ≤ 4611686018427387904) ∧ q.length ≤ 8 ∧ b + (q.length : Int) ≤ 4611686018427387905 ∧ l ≤ 4611686018427387904)
  all_goals first | rw [decide_eq_true hP] at e1 | rw [decide_eq_false hP] at e1
  all_goals cases h1 : okEs q <;> cases h2 : endsL q <;> cases d
  all_goals rw [h1, h2] at e1
  all_goals rw [h1] at cr
  all_goals rw [h2] at ce2
  all_goals simp only [Bool.true_and, Bool.and_true, Bool.false_and, Bool.and_false, Bool.or_false, Bool.or_true, Bool.true_or, Bool.false_or, Bool.not_true, Bool.not_false] at e1
  all_goals subst e1
  all_goals (
    repeat' ((conv => whnf); first
      | with_reducible first | refine spB_t ?_
      | ((with_reducible apply spB_cong); (focus (simp only [beq_self_eq_true, bne_self_eq_false, Bool.true_bne, Bool.false_bne, Bool.bne_true, Bool.bne_false, Bool.true_beq, Bool.false_beq, Bool.not_true, Bool.not_false, Bool.not_not, Int.reduceBEq, Int.reduceBNe, Int.reduceLE, Int.reduceLT, Int.reduceEq, decide_true, decide_false]; rfl)))
      | with_reducible first | refine spB_no (by decide) ?_
      | (with_reducible refine spB_dec ?_ ?_ <;> intro _ <;> (try (exfalso; first | contradiction | omega | (rename_i hz; refine hz ?_; simp; done) | (rename_i hz; simp at hz; done) | (simp only [LN] at *; omega))))
      | with_reducible refine wr_u64 (by omega) ?_
      | with_reducible first | refine Z.callZ_in tabOk 9 Try.f46 _ Try.func46 (by kernel_rfl) rfl rfl rfl ?_ | refine Z.callZ_in tabOk 10 Try.f47 _ Try.func47 (by kernel_rfl) rfl rfl rfl ?_
      | ((first | (with_reducible refine Z.callZ_mk ?_ (cr) ?_) | (with_reducible refine Z.callZ_mk ?_ (ce2) ?_)); (focus ((repeat' (first | exact trivial | exact rfl | apply And.intro)); done)))
      | ((with_reducible apply ex_and); exact rfl))
    all_goals (try (conv => whnf)))
  all_goals try (show Nat.ble _ _ = true; rfl)
  all_goals first
    | ((first | (with_reducible apply Z.retF1)); (focus (exact rfl)); (repeat' (first | exact trivial | (with_reducible apply Z.frz_one) | (with_reducible apply Z.fq_int) | exact rfl | apply And.intro)); (all_goals (try exact (fun _ => none))); all_goals (rfl))

end Go.Proofs.Ytoiadndmbppobaa
namespace Go.Proofs.Ytoiadndmbppobaa
open Go Go.RowKit Wx
set_option linter.unusedVariables false
set_option linter.unusedSimpArgs false
set_option maxHeartbeats 4000000
theorem ack_yes {p : Pk} {n : Int} (h : p = ⟨2, n, p.sq, p.lim, zE⟩) : ∃ a c, p = ⟨2, n, a, c, ⟨0, 0, 0, 0, 0⟩⟩ := ⟨_, _, h⟩
theorem app_own {q : List El} {x : El} {n : Nat} {R S : List (List Ce)} (hR : R = q.map cE) (hn : n = q.length) (hS : S = [cE x]) : List.take n R ++ S = (q ++ [x]).map cE := by
  rw [hR, List.take_of_length_le (by simp [hn]), hS, List.map_append]; rfl
theorem ack_no {p : Pk} {n : Int} (h : (p.kd == 2 && (p.se == n && (true && (true && (p.e.kd == 0 && (p.e.src == 0 && (p.e.key == 0 && (p.e.val == 0 && (p.e.num == 0 && true))))))))) = true) : p = ⟨2, n, p.sq, p.lim, zE⟩ := by
  obtain ⟨a, b, c, d, e1, e2, e3, e4, e5⟩ := p
  simp only [Bool.and_eq_true, beq_iff_eq, Bool.true_and, Bool.and_true] at h
  obtain ⟨h1, h2, h3, h4, h5, h6, h7⟩ := h
  subst h1 h2 h3 h4 h5 h6 h7; rfl
theorem el_eq {x y : El} (h : (x.kd == y.kd && (x.src == y.src && (x.key == y.key && (x.val == y.val && (x.num == y.num && true))))) = true) : x = y := by
  cases x; cases y; simp_all
theorem copied_con (l : List El) (hl : l.length ≤ 1099511627776) : Con Try.prog 56 [.one (.ro false 5 (l.map eE))] (fun rx rK rt => rx = .c (.osl 0 0 l.length (some l.length)) ∧ rK = [(0, some ⟨l.map cE, 5, 33, false⟩)] ∧ rt = 1) := by
  refine Z.con_ofZ tabOk 11 Try.f56 _ Try.func56 (by kernel_rfl) rfl rfl rfl rfl ?_
  repeat' ((conv => whnf); first
    | ((with_reducible refine cpyN.mk ?_ ?_ ?_ ?_); (focus (first | (simp; done))); (focus (first | exact one_map2 (fun _ => rfl))); (focus ((try simp only [LN] at *) <;> omega)))
    | ((with_reducible refine Z.mkN_nat ?_ ?_ ?_ ?_); (focus ((try simp only [LN] at *) <;> omega)); (focus ((try simp only [LN] at *) <;> omega)); (focus ((try simp only [LN] at *) <;> omega))))
  all_goals (try (conv => whnf))
  all_goals try (show Nat.ble _ _ = true; rfl)
  all_goals first
    | (refine ret1b 0 (.c (.osl 0 0 l.length (some l.length))) (l.map cE) 5 33 false _ rfl ?_ rfl (Z.lay_copy (by simp) (by simp) (fun _ => rfl)) (ren_map fun _ => rfl) rfl (own_map fun _ => rfl) ⟨rfl, rfl, rfl⟩; (rw [show l.length = (l.map eE).length by simp]; rfl))

theorem low_drp {q : List El} {k n : Nat} {a : Nat} {R : List (List Ce)} (hR : R = q.map cE) (ha : a = k) (hn : n = q.length - k) : ∃ rows, Ce.ro false 5 ((q.drop k).map eE) = Ce.ro false 5 rows ∧ rows.length = n ∧ ((R.drop a).take n).map (List.map RT.of) = rows.map (List.map some) := by
  subst hR hn ha
  refine ⟨_, rfl, by simp, ?_⟩
  rw [← List.map_drop, List.take_of_length_le (by simp), List.map_map, List.map_map]
  exact List.map_congr_left fun x _ => rfl
theorem put_con (n b : Int) (q : List El) (l : Int) (d : Bool) (e : El) (hq : q.length ≤ 9223372036854775807) (hu : ∀ e ∈ q, 0 ≤ e.num) (hb0 : 0 ≤ b) (hl0 : 0 ≤ l) (he : 0 ≤ e.num) : Con Try.prog 14 [.agg [.v (.int .u32 n), .v (.int .u64 b), .ro false 5 (q.map eE), .v (.int .u64 l), .v (.bool d)], .agg [.v (.int .i64 e.kd), .v (.int .i64 e.src), .v (.int .i64 e.key), .v (.int .i64 e.val), .v (.int .u64 e.num)]] (fun rx rK rt => rx = .tup [.agg [.v (.int .u32 (putR n b q l d e).1.n), .v (.int .u64 (putR n b q l d e).1.b), .ro true 5 ((putR n b q l d e).1.q.map eE), .v (.int .u64 (putR n b q l d e).1.l), .v (.bool (putR n b q l d e).1.d)], .one (.v (.int .i64 (putR n b q l d e).2))] ∧ rK = [] ∧ rt = 0) := by
  refine Z.con_ofF tabOk 11 Try.f14 _ Try.func14 (by kernel_rfl) rfl rfl rfl rfl ?_
  have ck := checkS_con n b q l d hq hu hb0 hl0
  have ce := checkE_con e he
  unfold putR
  cases hk : okS n b q l d
  all_goals rw [hk] at ck
  all_goals simp only [cond_true, cond_false] at ck ⊢
  rotate_left
  · have hs := okS_all hk
    have cc := copied_con q (by omega)
    cases hoe : okE e
    all_goals rw [hoe] at ce
    all_goals simp only [cond_true, cond_false] at ce ⊢
    rotate_left
    · cases d
      all_goals simp only [cond_true, cond_false]
      · by_cases hf : 8 ≤ q.length ∨ b + (q.length : Int) > 4611686018427387904
        · rw [if_pos hf]
          repeat' ((conv => whnf); first
            | with_reducible first | refine spB_t ?_
            | ((with_reducible apply spB_cong); (focus (simp only [beq_self_eq_true, bne_self_eq_false, Bool.true_bne, Bool.false_bne, Bool.bne_true, Bool.bne_false, Bool.true_beq, Bool.false_beq, Bool.not_true, Bool.not_false, Bool.not_not, Int.reduceBEq, Int.reduceBNe, Int.reduceLE, Int.reduceLT, Int.reduceEq, decide_true, decide_false]; rfl)))
            | with_reducible first | refine spB_no (by decide) ?_
            | (with_reducible refine spB_dec ?_ ?_ <;> intro _ <;> (try (exfalso; first | contradiction | omega | (rename_i hz; refine hz ?_; simp; done) | (rename_i hz; simp at hz; done) | (simp only [LN] at *; omega))))
            | with_reducible refine wr_u64 (by omega) ?_
            | with_reducible first | refine Z.callZ_in tabOk 25 Try.f50 _ Try.func50 (by kernel_rfl) rfl rfl rfl ?_ | refine Z.callZ_in tabOk 43 Try.f51 _ Try.func51 (by kernel_rfl) rfl rfl rfl ?_ | refine Z.callZ_in tabOk 10 Try.f47 _ Try.func47 (by kernel_rfl) rfl rfl rfl ?_
            | ((first | (with_reducible refine Z.callZ_mk ?_ (ce) ?_) | (with_reducible refine Z.callZ_mk ?_ (ck) ?_) | (with_reducible refine Z.callZ_mk ?_ (cc) ?_)); (focus ((repeat' (first | exact trivial | exact rfl | apply And.intro)); done)))
            | ((with_reducible apply ex_and); exact rfl))
          all_goals (try (conv => whnf))
          all_goals try (show Nat.ble _ _ = true; rfl)
          all_goals first
            | ((first | (with_reducible apply Z.retF2)); (focus (exact rfl)); (repeat' (first | exact trivial | (with_reducible apply Z.frz_one) | (with_reducible apply Z.frz_agg) | (with_reducible apply Z.fq_int) | (with_reducible apply Z.fq_bool) | (exact Z.frz_nil) | exact rfl | apply And.intro)); (all_goals (try exact (fun _ => none))); all_goals (first | (simp; done)))
        · rw [if_neg hf]
          repeat' ((conv => whnf); first
            | ((with_reducible apply spB_cong); (focus (simp only [beq_self_eq_true, bne_self_eq_false, Bool.true_bne, Bool.false_bne, Bool.bne_true, Bool.bne_false, Bool.true_beq, Bool.false_beq, Bool.not_true, Bool.not_false, Bool.not_not, Int.reduceBEq, Int.reduceBNe, Int.reduceLE, Int.reduceLT, Int.reduceEq, decide_true, decide_false]; rfl)))
            | with_reducible first | refine spB_no (by decide) ?_
            | (with_reducible refine spB_dec ?_ ?_ <;> intro _ <;> (try (exfalso; first | contradiction | omega | (rename_i hz; refine hz ?_; simp; done) | (rename_i hz; simp at hz; done) | (simp only [LN] at *; omega))))
            | ((with_reducible refine apdE_k ?_); (with_reducible refine apkN.mk ⟨_, rfl, ?_⟩ ?_); (focus (simp; done)); (with_reducible refine apdN.mk ?_ ?_ ?_ ?_ ?_ ?_); (focus rfl); (focus (exact one_all (by rfl))); (focus (show _ ≤ (List.map _ _).length; simp; done)); (focus ((try simp only [LN] at *) <;> omega)); (focus ((try simp only [LN] at *) <;> omega)))
            | with_reducible refine wr_u64 (by omega) ?_
            | with_reducible first | refine Z.callZ_in tabOk 25 Try.f50 _ Try.func50 (by kernel_rfl) rfl rfl rfl ?_ | refine Z.callZ_in tabOk 43 Try.f51 _ Try.func51 (by kernel_rfl) rfl rfl rfl ?_ | refine Z.callZ_in tabOk 10 Try.f47 _ Try.func47 (by kernel_rfl) rfl rfl rfl ?_
            | ((first | (with_reducible refine Z.callZ_mk ?_ (ce) ?_) | (with_reducible refine Z.callZ_mk ?_ (ck) ?_) | (with_reducible refine Z.callZ_mk ?_ (cc) ?_)); (focus ((repeat' (first | exact trivial | exact rfl | apply And.intro)); done)))
            | ((with_reducible apply ex_and); exact rfl)
            | with_reducible first | refine Z.drawZ_rule tabOk mixOk ?_ | refine Z.apZ_mk (by kernel_rfl) ?_)
          all_goals (try (conv => whnf))
          all_goals try (show Nat.ble _ _ = true; rfl)
          all_goals first
            | ((first | (with_reducible apply Z.retF2)); (focus (exact rfl)); (repeat' (first | exact trivial | (refine Z.fq_osl (l := q ++ [e]) (f := cE) (ty := 33) (bx := false) ?_ ?_ (fun _ => rfl) ?_; (focus (exact congrArg (fun r => some (Blk.mk r 5 33 false)) (app_own (ren_map fun _ => rfl) (by simp) rfl))); (focus (((try simp only [LN] at *) <;> omega))); (focus (exact rfl))) | (with_reducible apply Z.frz_one) | (with_reducible apply Z.frz_agg) | (with_reducible apply Z.fq_int) | (with_reducible apply Z.fq_bool) | exact rfl | apply And.intro)); (all_goals (try exact (fun _ => none))); all_goals (first | (simp; done)))
      · skip
        repeat' ((conv => whnf); first
          | with_reducible first | refine spB_t ?_
          | ((with_reducible apply spB_cong); (focus (simp only [beq_self_eq_true, bne_self_eq_false, Bool.true_bne, Bool.false_bne, Bool.bne_true, Bool.bne_false, Bool.true_beq, Bool.false_beq, Bool.not_true, Bool.not_false, Bool.not_not, Int.reduceBEq, Int.reduceBNe, Int.reduceLE, Int.reduceLT, Int.reduceEq, decide_true, decide_false]; rfl)))
          | with_reducible first | refine spB_no (by decide) ?_
          | with_reducible first | refine Z.callZ_in tabOk 25 Try.f50 _ Try.func50 (by kernel_rfl) rfl rfl rfl ?_ | refine Z.callZ_in tabOk 43 Try.f51 _ Try.func51 (by kernel_rfl) rfl rfl rfl ?_
          | ((first | (with_reducible refine Z.callZ_mk ?_ (ce) ?_) | (with_reducible refine Z.callZ_mk ?_ (ck) ?_) | (with_reducible refine Z.callZ_mk ?_ (cc) ?_)); (focus ((repeat' (first | exact trivial | exact rfl | apply And.intro)); done)))
          | ((with_reducible apply ex_and); exact rfl))
        all_goals (try (conv => whnf))
        all_goals try (show Nat.ble _ _ = true; rfl)
        all_goals first
          | ((first | (with_reducible apply Z.retF2)); (focus (exact rfl)); (repeat' (first | exact trivial | (with_reducible apply Z.frz_one) | (with_reducible apply Z.frz_agg) | (with_reducible apply Z.fq_int) | (with_reducible apply Z.fq_bool) | (exact Z.frz_nil) | exact rfl | apply And.intro)); (all_goals (try exact (fun _ => none))); all_goals (first | (simp; done)))
    · skip
      repeat' ((conv => whnf); first
        | with_reducible first | refine spB_t ?_
        | ((with_reducible apply spB_cong); (focus (simp only [beq_self_eq_true, bne_self_eq_false, Bool.true_bne, Bool.false_bne, Bool.bne_true, Bool.bne_false, Bool.true_beq, Bool.false_beq, Bool.not_true, Bool.not_false, Bool.not_not, Int.reduceBEq, Int.reduceBNe, Int.reduceLE, Int.reduceLT, Int.reduceEq, decide_true, decide_false]; rfl)))
        | with_reducible first | refine spB_no (by decide) ?_
        | with_reducible first | refine Z.callZ_in tabOk 25 Try.f50 _ Try.func50 (by kernel_rfl) rfl rfl rfl ?_ | refine Z.callZ_in tabOk 43 Try.f51 _ Try.func51 (by kernel_rfl) rfl rfl rfl ?_
        | ((first | (with_reducible refine Z.callZ_mk ?_ (ce) ?_) | (with_reducible refine Z.callZ_mk ?_ (ck) ?_) | (with_reducible refine Z.callZ_mk ?_ (cc) ?_)); (focus ((repeat' (first | exact trivial | exact rfl | apply And.intro)); done)))
        | ((with_reducible apply ex_and); exact rfl))
      all_goals (try (conv => whnf))
      all_goals try (show Nat.ble _ _ = true; rfl)
      all_goals first
        | ((first | (with_reducible apply Z.retF2)); (focus (exact rfl)); (repeat' (first | exact trivial | (with_reducible apply Z.frz_one) | (with_reducible apply Z.frz_agg) | (with_reducible apply Z.fq_int) | (with_reducible apply Z.fq_bool) | (exact Z.frz_nil) | exact rfl | apply And.intro)); (all_goals (try exact (fun _ => none))); all_goals (first | (simp; done)))
  · skip
    repeat' ((conv => whnf); first
      | with_reducible first | refine spB_t ?_
      | ((with_reducible apply spB_cong); (focus (simp only [beq_self_eq_true, bne_self_eq_false, Bool.true_bne, Bool.false_bne, Bool.bne_true, Bool.bne_false, Bool.true_beq, Bool.false_beq, Bool.not_true, Bool.not_false, Bool.not_not, Int.reduceBEq, Int.reduceBNe, Int.reduceLE, Int.reduceLT, Int.reduceEq, decide_true, decide_false]; rfl)))
      | with_reducible first | refine Z.callZ_in tabOk 25 Try.f50 _ Try.func50 (by kernel_rfl) rfl rfl rfl ?_
      | ((first | (with_reducible refine Z.callZ_mk ?_ (ck) ?_)); (focus ((repeat' (first | exact trivial | exact rfl | apply And.intro)); done)))
      | ((with_reducible apply ex_and); exact rfl))
    all_goals (try (conv => whnf))
    all_goals try (show Nat.ble _ _ = true; rfl)
    all_goals first
      | ((first | (with_reducible apply Z.retF2)); (focus (exact rfl)); (repeat' (first | exact trivial | (with_reducible apply Z.frz_agg) | (with_reducible apply Z.fq_int) | (with_reducible apply Z.fq_bool) | (exact Z.frz_nil) | exact rfl | apply And.intro)); (all_goals (try exact (fun _ => none))); all_goals (first | (simp; done)))

end Go.Proofs.Ytoiadndmbppobaa
namespace Go.Proofs.Ytoiadndmbppobaa
open Go Go.RowKit Wx
set_option linter.unusedVariables false
set_option linter.unusedSimpArgs false
set_option maxHeartbeats 4000000
end Go.Proofs.Ytoiadndmbppobaa
namespace Go.Proofs.Ytoiadndmbppobaa
open Go Go.RowKit Wx
set_option linter.unusedVariables false
set_option linter.unusedSimpArgs false
set_option maxHeartbeats 4000000
end Go.Proofs.Ytoiadndmbppobaa
namespace Go.Proofs.Ytoiadndmbppobaa
open Go Go.RowKit Wx
set_option linter.unusedVariables false
set_option linter.unusedSimpArgs false
set_option maxHeartbeats 4000000
end Go.Proofs.Ytoiadndmbppobaa
namespace Go.Proofs.Ytoiadndmbppobaa
open Go Go.RowKit Wx
set_option linter.unusedVariables false
set_option linter.unusedSimpArgs false
set_option maxHeartbeats 4000000
theorem acked_con (n b : Int) (q : List El) (l : Int) (d : Bool) (p : Pk) (hq : q.length ≤ 9223372036854775807) (hu : ∀ e ∈ q, 0 ≤ e.num) (hb0 : 0 ≤ b) (hl0 : 0 ≤ l) (hp1 : 0 ≤ p.sq) (hp2 : 0 ≤ p.lim) : Con Try.prog 19 [.agg [.v (.int .u32 n), .v (.int .u64 b), .ro false 5 (q.map eE), .v (.int .u64 l), .v (.bool d)], .agg [.v (.int .i64 p.kd), .v (.int .u32 p.se), .v (.int .u64 p.sq), .v (.int .u64 p.lim), .v (.int .i64 p.e.kd), .v (.int .i64 p.e.src), .v (.int .i64 p.e.key), .v (.int .i64 p.e.val), .v (.int .u64 p.e.num)]] (fun rx rK rt => rx = .tup [.agg [.v (.int .u32 (ackedR n b q l d p).1.n), .v (.int .u64 (ackedR n b q l d p).1.b), .ro true 5 ((ackedR n b q l d p).1.q.map eE), .v (.int .u64 (ackedR n b q l d p).1.l), .v (.bool (ackedR n b q l d p).1.d)], .one (.v (.int .i64 (ackedR n b q l d p).2))] ∧ rK = [] ∧ rt = 0) := by
  refine Z.con_ofF tabOk 11 Try.f19 _ Try.func19 (by kernel_rfl) rfl rfl rfl rfl ?_
  have ck := checkS_con n b q l d hq hu hb0 hl0
  unfold ackedR
  cases hk : okS n b q l d
  all_goals rw [hk] at ck
  all_goals simp only [cond_true, cond_false] at ck ⊢
  · skip
    repeat' ((conv => whnf); first
      | with_reducible first | refine spB_t ?_
      | ((with_reducible apply spB_cong); (focus (simp only [beq_self_eq_true, bne_self_eq_false, Bool.true_bne, Bool.false_bne, Bool.bne_true, Bool.bne_false, Bool.true_beq, Bool.false_beq, Bool.not_true, Bool.not_false, Bool.not_not, Int.reduceBEq, Int.reduceBNe, Int.reduceLE, Int.reduceLT, Int.reduceEq, decide_true, decide_false]; rfl)))
      | with_reducible first | refine spB_yes (by decide) ?_ | refine spB_no (by decide) ?_ | refine spB_f ?_ | refine spB_not ?_ | refine spB_yes (by assumption) ?_ | refine spB_no (by assumption) ?_
      | (with_reducible refine spB_dec ?_ ?_ <;> intro _ <;> (try (exfalso; first | contradiction | omega | (rename_i hz; refine hz ?_; simp; done) | (rename_i hz; simp at hz; done) | (simp only [LN] at *; omega))))
      | (with_reducible refine spB_beq ?_ ?_ <;> intro _ <;> (try (exfalso; first | contradiction | omega | (rename_i hz; refine hz ?_; simp; done) | (rename_i hz; simp at hz; done) | (simp only [LN] at *; omega))))
      | (with_reducible refine spB_bne ?_ ?_ <;> intro _ <;> (try (exfalso; first | contradiction | omega | (rename_i hz; refine hz ?_; simp; done) | (rename_i hz; simp at hz; done) | (simp only [LN] at *; omega))))
      | (with_reducible refine spB_mk ?_ ?_ <;> intro _ <;> (try (exfalso; first | contradiction | omega | (rename_i hz; refine hz ?_; simp; done) | (rename_i hz; simp at hz; done) | (simp only [LN] at *; omega))))
      | ((with_reducible apply rowN_mk); (focus rfl))
      | ((with_reducible apply ixN_lit); (focus (exact rfl)); (focus (exact rfl)))
      | ((with_reducible apply ixN_litp); (focus (exact rfl)); (focus ((try simp only [LN] at *) <;> omega)))
      | ((with_reducible refine eqN_mk2 ?_ ?_); (focus rfl))
      | ((with_reducible refine posN_mk2 ?_ ?_); (focus (first | decide | ((try simp only [LN] at *) <;> omega))))
      | ((with_reducible refine slE_a ?_ ?_); (focus ((try simp only [LN] at *) <;> omega)))
      | ((with_reducible refine slE_b ?_ ?_); (focus ((try simp only [LN] at *) <;> omega)))
      | ((with_reducible refine slE_split ?_ ?_ ?_); (focus ((try simp only [LN] at *) <;> omega)); (all_goals intro _))
      | with_reducible refine wr_i64 (by first | omega | (simp only [LN] at *; omega)) ?_
      | with_reducible refine wr_u64 (by omega) ?_
      | with_reducible refine wr_u8 (by omega) ?_
      | with_reducible refine wr_u32 (by omega) ?_
      | with_reducible first | refine wr_mk _ rfl ?_
      | ((with_reducible refine ixN_nat ?_ ?_); (focus ((try simp only [LN] at *) <;> omega)))
      | ((with_reducible refine rowN_map ?_ ?_); (focus ((try simp only [LN] at *) <;> omega)); intro x hx)
      | with_reducible refine eqN_dec (by omega) ?_
      | with_reducible first | refine apN_mk (by kernel_rfl) ?_ | refine Z.callZ_in tabOk 25 Try.f50 _ Try.func50 (by kernel_rfl) rfl rfl rfl ?_ | refine Z.callZ_in tabOk 76 Try.f55 _ Try.func55 (by kernel_rfl) rfl rfl rfl ?_ | refine Z.callZ_in tabOk 10 Try.f47 _ Try.func47 (by kernel_rfl) rfl rfl rfl ?_
      | ((first | (with_reducible refine Z.conZ_mz ?_ (ck) ?_) | (with_reducible refine Z.callZ_mk ?_ (ck) ?_)); (focus ((repeat' (first | exact trivial | (refine low_drp (ren_map fun _ => rfl) ?_ ?_; (focus (simp; done)); (simp; done)) | exact rfl | exact Z.low_nil | exact Z.low_nil2 | exact low_osl (fun _ => rfl) | (refine Z.low_osln ?_ (fun _ => rfl); (simp only [List.length_map]; done)) | exact low_oslr (fun _ => rfl) | exact Z.low_gslm (by first | rfl | exact Z.kb_some rfl) (fun _ => rfl) | exact .inl rfl | exact .inr ⟨_, rfl⟩ | apply And.intro)); done)))
      | ((first | (with_reducible refine Z.conZ_mz ?_ (cc) ?_) | (with_reducible refine Z.callZ_mk ?_ (cc) ?_)); (focus ((repeat' (first | exact trivial | (refine low_drp (ren_map fun _ => rfl) ?_ ?_; (focus (simp; done)); (simp; done)) | exact rfl | exact Z.low_nil | exact Z.low_nil2 | exact low_osl (fun _ => rfl) | (refine Z.low_osln ?_ (fun _ => rfl); (simp only [List.length_map]; done)) | exact low_oslr (fun _ => rfl) | exact Z.low_gslm (by first | rfl | exact Z.kb_some rfl) (fun _ => rfl) | exact .inl rfl | exact .inr ⟨_, rfl⟩ | apply And.intro)); done)))
      | ((first | (with_reducible refine Z.conZ_mz ?_ (cc2) ?_) | (with_reducible refine Z.callZ_mk ?_ (cc2) ?_)); (focus ((repeat' (first | exact trivial | (refine low_drp (ren_map fun _ => rfl) ?_ ?_; (focus (simp; done)); (simp; done)) | exact rfl | exact Z.low_nil | exact Z.low_nil2 | exact low_osl (fun _ => rfl) | (refine Z.low_osln ?_ (fun _ => rfl); (simp only [List.length_map]; done)) | exact low_oslr (fun _ => rfl) | exact Z.low_gslm (by first | rfl | exact Z.kb_some rfl) (fun _ => rfl) | exact .inl rfl | exact .inr ⟨_, rfl⟩ | apply And.intro)); done)))
      | ((with_reducible refine eqN_mk2 ?_ ?_); (focus (exact Z.kb_some rfl)))
      | ((with_reducible apply ex_and); exact rfl)
      | with_reducible first | refine Z.drawZ_rule tabOk mixOk ?_ | refine Z.apZ_mk (by kernel_rfl) ?_
      | ((with_reducible refine Z.ConZ.red ?_); (try subst hlb); (apply Z.conZ_all); (focus (repeat (first | exact Z.FK.nil | (apply Z.FK.keep; exact rfl)))); (focus rfl); (focus rfl); (focus (repeat (first | exact trivial | (refine ⟨(fun o ho => (by first | (cases ho; rfl) | (cases ho; exact Z.inL_map fun _ => rfl) | (cases ho; exact Z.inL_mapr fun _ => rfl) | exact Z.inL_gB ho fun _ => rfl)), ?_⟩)))))
      | ((refine ⟨rfl, ?_, rfl⟩); (focus (repeat (first | exact Z.DK.nil | apply Z.DK.cons))))
      | (focus (exact (rfl : Nat.ble _ _ = true))))
    all_goals (try (conv => whnf))
    all_goals try (show Nat.ble _ _ = true; rfl)
    all_goals first
      | ((first | (with_reducible apply Z.retF1) | (with_reducible apply Z.retF2) | (with_reducible apply Z.retF0)); (focus (exact rfl)); (repeat' (first | exact trivial | (with_reducible apply Z.frz_one) | (with_reducible apply Z.frz_agg) | (with_reducible apply Z.fq_int) | (with_reducible apply Z.fq_bool) | (exact Z.frz_nil) | (exact Z.frz_osl0 rfl rfl rfl) | (with_reducible apply Z.fq_nil) | (with_reducible apply Z.fq_ro) | ((with_reducible apply Z.fq_gsl); (focus (first | rfl | exact Z.isB_map _ | exact Z.gB_snoc.symm)); (focus (exact fun _ => rfl))) | ((with_reducible apply Z.fq_osl); (focus (exact rfl)); (focus (first | exact rfl | (simp only [List.length_map, Nat.zero_add]; done) | ((try simp only [LN] at *) <;> omega))); (focus (exact fun _ => rfl))) | ((with_reducible apply Z.fq_src); (focus (exact rfl)); (focus (first | exact rfl | (simp only [List.length_map, Nat.zero_add]; done) | ((try simp only [LN] at *) <;> omega))); (focus (exact fun _ => rfl))) | exact rfl | ((apply Z.fq_osl); (focus (exact rfl)); (focus (first | exact rfl | (simp only [List.length_map, Nat.zero_add]; done) | ((try simp only [LN] at *) <;> omega))); (focus (exact fun _ => rfl))) | ((apply Z.fq_src); (focus (exact rfl)); (focus (first | exact rfl | (simp only [List.length_map, Nat.zero_add]; done) | ((try simp only [LN] at *) <;> omega))); (focus (exact fun _ => rfl))) | (apply Z.fq_ro) | (apply Z.fq_int) | (apply Z.fq_bool) | apply And.intro)); (all_goals (try exact (fun _ => none))); all_goals (first | rfl | (simp; done)))
      | (exfalso; rename_i hz; cases hz; done)
      | (exfalso; (try simp only [LN] at *) <;> omega)
      | (fail)
  have hs := okS_all hk
  have cc := copied_con q (by omega)
  by_cases ha : p = ⟨2, n, p.sq, p.lim, zE⟩
  · obtain ⟨a, c, hpe⟩ := ack_yes ha
    clear ha
    subst hpe
    dsimp only at hp1 hp2 ⊢
    by_cases hf : ackOf n b q ⟨2, n, a, c, ⟨0, 0, 0, 0, 0⟩⟩
    · rw [if_pos hf]
      obtain ⟨_, hf1, hf2, hf3, hf4⟩ := hf
      dsimp only at hf1 hf2 hf3 hf4 ⊢
      obtain ⟨k, hk2⟩ := Int.eq_ofNat_of_zero_le (show 0 ≤ a - b by omega)
      have hka : a = b + (k : Int) := by omega
      subst hka
      have e1 : (b + (k : Int) - b).toNat = k := by omega
      rw [e1]
      have cc2 := copied_con (q.drop k) (by rw [List.length_drop]; omega)
      rcases Nat.lt_or_ge k q.length with hkl | hkl
      rotate_left
      · have e2 : q.drop k = [] := List.drop_eq_nil_of_le hkl
        have hkq : k = q.length := by omega
        rw [e2] at cc2 ⊢
        repeat' ((conv => whnf); first
          | with_reducible first | refine spB_t ?_
          | ((with_reducible apply spB_cong); (focus (simp only [beq_self_eq_true, bne_self_eq_false, Bool.true_bne, Bool.false_bne, Bool.bne_true, Bool.bne_false, Bool.true_beq, Bool.false_beq, Bool.not_true, Bool.not_false, Bool.not_not, Int.reduceBEq, Int.reduceBNe, Int.reduceLE, Int.reduceLT, Int.reduceEq, decide_true, decide_false]; rfl)))
          | with_reducible first | refine spB_yes (by decide) ?_ | refine spB_no (by decide) ?_ | refine spB_f ?_ | refine spB_not ?_ | refine spB_yes (by assumption) ?_ | refine spB_no (by assumption) ?_
          | (with_reducible refine spB_dec ?_ ?_ <;> intro _ <;> (try (exfalso; first | contradiction | omega | (rename_i hz; refine hz ?_; simp; done) | (rename_i hz; simp at hz; done) | (simp only [LN] at *; omega))))
          | (with_reducible refine spB_beq ?_ ?_ <;> intro _ <;> (try (exfalso; first | contradiction | omega | (rename_i hz; refine hz ?_; simp; done) | (rename_i hz; simp at hz; done) | (simp only [LN] at *; omega))))
          | (with_reducible refine spB_bne ?_ ?_ <;> intro _ <;> (try (exfalso; first | contradiction | omega | (rename_i hz; refine hz ?_; simp; done) | (rename_i hz; simp at hz; done) | (simp only [LN] at *; omega))))
          | (with_reducible refine spB_mk ?_ ?_ <;> intro _ <;> (try (exfalso; first | contradiction | omega | (rename_i hz; refine hz ?_; simp; done) | (rename_i hz; simp at hz; done) | (simp only [LN] at *; omega))))
          | ((with_reducible refine Z.slN_lo k ?_ ?_ ?_); (focus (first | rfl | omega)); (focus ((try simp only [LN] at *) <;> omega)))
          | ((with_reducible apply rowN_mk); (focus rfl))
          | ((with_reducible apply ixN_lit); (focus (exact rfl)); (focus (exact rfl)))
          | ((with_reducible apply ixN_litp); (focus (exact rfl)); (focus ((try simp only [LN] at *) <;> omega)))
          | ((with_reducible refine eqN_mk2 ?_ ?_); (focus rfl))
          | ((with_reducible refine posN_mk2 ?_ ?_); (focus (first | decide | ((try simp only [LN] at *) <;> omega))))
          | ((with_reducible refine slE_a ?_ ?_); (focus ((try simp only [LN] at *) <;> omega)))
          | ((with_reducible refine slE_b ?_ ?_); (focus ((try simp only [LN] at *) <;> omega)))
          | ((with_reducible refine slE_split ?_ ?_ ?_); (focus ((try simp only [LN] at *) <;> omega)); (all_goals intro _))
          | with_reducible refine wr_i64 (by first | omega | (simp only [LN] at *; omega)) ?_
          | with_reducible refine wr_u64 (by omega) ?_
          | with_reducible refine wr_u8 (by omega) ?_
          | with_reducible refine wr_u32 (by omega) ?_
          | with_reducible first | refine wr_mk _ rfl ?_
          | ((with_reducible refine ixN_nat ?_ ?_); (focus ((try simp only [LN] at *) <;> omega)))
          | ((with_reducible refine rowN_map ?_ ?_); (focus ((try simp only [LN] at *) <;> omega)); intro x hx)
          | with_reducible refine eqN_dec (by omega) ?_
          | with_reducible first | refine apN_mk (by kernel_rfl) ?_ | refine Z.callZ_in tabOk 25 Try.f50 _ Try.func50 (by kernel_rfl) rfl rfl rfl ?_ | refine Z.callZ_in tabOk 76 Try.f55 _ Try.func55 (by kernel_rfl) rfl rfl rfl ?_ | refine Z.callZ_in tabOk 10 Try.f47 _ Try.func47 (by kernel_rfl) rfl rfl rfl ?_
          | ((first | (with_reducible refine Z.conZ_mz ?_ (ck) ?_) | (with_reducible refine Z.callZ_mk ?_ (ck) ?_)); (focus ((repeat' (first | exact trivial | (refine low_drp (ren_map fun _ => rfl) ?_ ?_; (focus (simp; done)); (simp; done)) | exact rfl | exact Z.low_nil | exact Z.low_nil2 | exact low_osl (fun _ => rfl) | (refine Z.low_osln ?_ (fun _ => rfl); (simp only [List.length_map]; done)) | exact low_oslr (fun _ => rfl) | exact Z.low_gslm (by first | rfl | exact Z.kb_some rfl) (fun _ => rfl) | exact .inl rfl | exact .inr ⟨_, rfl⟩ | apply And.intro)); done)))
          | ((first | (with_reducible refine Z.conZ_mz ?_ (cc) ?_) | (with_reducible refine Z.callZ_mk ?_ (cc) ?_)); (focus ((repeat' (first | exact trivial | (refine low_drp (ren_map fun _ => rfl) ?_ ?_; (focus (simp; done)); (simp; done)) | exact rfl | exact Z.low_nil | exact Z.low_nil2 | exact low_osl (fun _ => rfl) | (refine Z.low_osln ?_ (fun _ => rfl); (simp only [List.length_map]; done)) | exact low_oslr (fun _ => rfl) | exact Z.low_gslm (by first | rfl | exact Z.kb_some rfl) (fun _ => rfl) | exact .inl rfl | exact .inr ⟨_, rfl⟩ | apply And.intro)); done)))
          | ((first | (with_reducible refine Z.conZ_mz ?_ (cc2) ?_) | (with_reducible refine Z.callZ_mk ?_ (cc2) ?_)); (focus ((repeat' (first | exact trivial | (refine low_drp (ren_map fun _ => rfl) ?_ ?_; (focus (simp; done)); (simp; done)) | exact rfl | exact Z.low_nil | exact Z.low_nil2 | exact low_osl (fun _ => rfl) | (refine Z.low_osln ?_ (fun _ => rfl); (simp only [List.length_map]; done)) | exact low_oslr (fun _ => rfl) | exact Z.low_gslm (by first | rfl | exact Z.kb_some rfl) (fun _ => rfl) | exact .inl rfl | exact .inr ⟨_, rfl⟩ | apply And.intro)); done)))
          | ((with_reducible refine eqN_mk2 ?_ ?_); (focus (exact Z.kb_some rfl)))
          | ((with_reducible apply ex_and); exact rfl)
          | with_reducible first | refine Z.drawZ_rule tabOk mixOk ?_ | refine Z.apZ_mk (by kernel_rfl) ?_
          | ((with_reducible refine Z.ConZ.red ?_); (try subst hlb); (apply Z.conZ_all); (focus (repeat (first | exact Z.FK.nil | (apply Z.FK.keep; exact rfl)))); (focus rfl); (focus rfl); (focus (repeat (first | exact trivial | (refine ⟨(fun o ho => (by first | (cases ho; rfl) | (cases ho; exact Z.inL_map fun _ => rfl) | (cases ho; exact Z.inL_mapr fun _ => rfl) | exact Z.inL_gB ho fun _ => rfl)), ?_⟩)))))
          | ((refine ⟨rfl, ?_, rfl⟩); (focus (repeat (first | exact Z.DK.nil | apply Z.DK.cons))))
          | (focus (exact (rfl : Nat.ble _ _ = true))))
        all_goals (try (conv => whnf))
        all_goals try (show Nat.ble _ _ = true; rfl)
        all_goals try (exfalso; rename_i hz; cases hz; done)
        all_goals try (exfalso; (try simp only [LN] at *) <;> omega)
        all_goals first
          | ((first | (with_reducible apply Z.retF1) | (with_reducible apply Z.retF2) | (with_reducible apply Z.retF0)); (focus (exact rfl)); (repeat' (first | exact trivial | (refine Z.fq_osl (l := ([] : List El)) (f := cE) (ty := 33) (bx := false) ?_ ?_ (fun _ => rfl) ?_; (focus (exact congrArg (fun r => some (Blk.mk r 5 33 false)) (rfl))); (focus (((try simp only [LN] at *) <;> omega))); (focus (exact rfl))) | (with_reducible apply Z.frz_one) | (with_reducible apply Z.frz_agg) | (with_reducible apply Z.fq_int) | (with_reducible apply Z.fq_bool) | (exact Z.frz_nil) | (exact Z.frz_osl0 rfl rfl rfl) | (with_reducible apply Z.fq_nil) | (with_reducible apply Z.fq_ro) | ((with_reducible apply Z.fq_gsl); (focus (first | rfl | exact Z.isB_map _ | exact Z.gB_snoc.symm)); (focus (exact fun _ => rfl))) | ((with_reducible apply Z.fq_osl); (focus (exact rfl)); (focus (first | exact rfl | (simp only [List.length_map, Nat.zero_add]; done) | ((try simp only [LN] at *) <;> omega))); (focus (exact fun _ => rfl))) | ((with_reducible apply Z.fq_src); (focus (exact rfl)); (focus (first | exact rfl | (simp only [List.length_map, Nat.zero_add]; done) | ((try simp only [LN] at *) <;> omega))); (focus (exact fun _ => rfl))) | exact rfl | ((apply Z.fq_osl); (focus (exact rfl)); (focus (first | exact rfl | (simp only [List.length_map, Nat.zero_add]; done) | ((try simp only [LN] at *) <;> omega))); (focus (exact fun _ => rfl))) | ((apply Z.fq_src); (focus (exact rfl)); (focus (first | exact rfl | (simp only [List.length_map, Nat.zero_add]; done) | ((try simp only [LN] at *) <;> omega))); (focus (exact fun _ => rfl))) | (apply Z.fq_ro) | (apply Z.fq_int) | (apply Z.fq_bool) | apply And.intro)); (all_goals (try exact (fun _ => none))); all_goals (first | rfl | (simp; done)))
          | (exfalso; rename_i hz; cases hz; done)
          | (exfalso; (try simp only [LN] at *) <;> omega)
          | (fail)
      repeat' ((conv => whnf); first
        | with_reducible first | refine spB_t ?_
        | ((with_reducible apply spB_cong); (focus (simp only [beq_self_eq_true, bne_self_eq_false, Bool.true_bne, Bool.false_bne, Bool.bne_true, Bool.bne_false, Bool.true_beq, Bool.false_beq, Bool.not_true, Bool.not_false, Bool.not_not, Int.reduceBEq, Int.reduceBNe, Int.reduceLE, Int.reduceLT, Int.reduceEq, decide_true, decide_false]; rfl)))
        | with_reducible first | refine spB_yes (by decide) ?_ | refine spB_no (by decide) ?_ | refine spB_f ?_ | refine spB_not ?_ | refine spB_yes (by assumption) ?_ | refine spB_no (by assumption) ?_
        | (with_reducible refine spB_dec ?_ ?_ <;> intro _ <;> (try (exfalso; first | contradiction | omega | (rename_i hz; refine hz ?_; simp; done) | (rename_i hz; simp at hz; done) | (simp only [LN] at *; omega))))
        | (with_reducible refine spB_beq ?_ ?_ <;> intro _ <;> (try (exfalso; first | contradiction | omega | (rename_i hz; refine hz ?_; simp; done) | (rename_i hz; simp at hz; done) | (simp only [LN] at *; omega))))
        | (with_reducible refine spB_bne ?_ ?_ <;> intro _ <;> (try (exfalso; first | contradiction | omega | (rename_i hz; refine hz ?_; simp; done) | (rename_i hz; simp at hz; done) | (simp only [LN] at *; omega))))
        | (with_reducible refine spB_mk ?_ ?_ <;> intro _ <;> (try (exfalso; first | contradiction | omega | (rename_i hz; refine hz ?_; simp; done) | (rename_i hz; simp at hz; done) | (simp only [LN] at *; omega))))
        | ((with_reducible refine Z.slN_lo k ?_ ?_ ?_); (focus (first | rfl | omega)); (focus ((try simp only [LN] at *) <;> omega)))
        | ((with_reducible apply rowN_mk); (focus rfl))
        | ((with_reducible apply ixN_lit); (focus (exact rfl)); (focus (exact rfl)))
        | ((with_reducible apply ixN_litp); (focus (exact rfl)); (focus ((try simp only [LN] at *) <;> omega)))
        | ((with_reducible refine eqN_mk2 ?_ ?_); (focus rfl))
        | ((with_reducible refine posN_mk2 ?_ ?_); (focus (first | decide | ((try simp only [LN] at *) <;> omega))))
        | ((with_reducible refine slE_a ?_ ?_); (focus ((try simp only [LN] at *) <;> omega)))
        | ((with_reducible refine slE_b ?_ ?_); (focus ((try simp only [LN] at *) <;> omega)))
        | ((with_reducible refine slE_split ?_ ?_ ?_); (focus ((try simp only [LN] at *) <;> omega)); (all_goals intro _))
        | with_reducible refine wr_i64 (by first | omega | (simp only [LN] at *; omega)) ?_
        | with_reducible refine wr_u64 (by omega) ?_
        | with_reducible refine wr_u8 (by omega) ?_
        | with_reducible refine wr_u32 (by omega) ?_
        | with_reducible first | refine wr_mk _ rfl ?_
        | ((with_reducible refine ixN_nat ?_ ?_); (focus ((try simp only [LN] at *) <;> omega)))
        | ((with_reducible refine rowN_map ?_ ?_); (focus ((try simp only [LN] at *) <;> omega)); intro x hx)
        | with_reducible refine eqN_dec (by omega) ?_
        | with_reducible first | refine apN_mk (by kernel_rfl) ?_ | refine Z.callZ_in tabOk 25 Try.f50 _ Try.func50 (by kernel_rfl) rfl rfl rfl ?_ | refine Z.callZ_in tabOk 76 Try.f55 _ Try.func55 (by kernel_rfl) rfl rfl rfl ?_ | refine Z.callZ_in tabOk 10 Try.f47 _ Try.func47 (by kernel_rfl) rfl rfl rfl ?_
        | ((first | (with_reducible refine Z.conZ_mz ?_ (ck) ?_) | (with_reducible refine Z.callZ_mk ?_ (ck) ?_)); (focus ((repeat' (first | exact trivial | (refine low_drp (ren_map fun _ => rfl) ?_ ?_; (focus (simp; done)); (simp; done)) | exact rfl | exact Z.low_nil | exact Z.low_nil2 | exact low_osl (fun _ => rfl) | (refine Z.low_osln ?_ (fun _ => rfl); (simp only [List.length_map]; done)) | exact low_oslr (fun _ => rfl) | exact Z.low_gslm (by first | rfl | exact Z.kb_some rfl) (fun _ => rfl) | exact .inl rfl | exact .inr ⟨_, rfl⟩ | apply And.intro)); done)))
        | ((first | (with_reducible refine Z.conZ_mz ?_ (cc) ?_) | (with_reducible refine Z.callZ_mk ?_ (cc) ?_)); (focus ((repeat' (first | exact trivial | (refine low_drp (ren_map fun _ => rfl) ?_ ?_; (focus (simp; done)); (simp; done)) | exact rfl | exact Z.low_nil | exact Z.low_nil2 | exact low_osl (fun _ => rfl) | (refine Z.low_osln ?_ (fun _ => rfl); (simp only [List.length_map]; done)) | exact low_oslr (fun _ => rfl) | exact Z.low_gslm (by first | rfl | exact Z.kb_some rfl) (fun _ => rfl) | exact .inl rfl | exact .inr ⟨_, rfl⟩ | apply And.intro)); done)))
        | ((first | (with_reducible refine Z.conZ_mz ?_ (cc2) ?_) | (with_reducible refine Z.callZ_mk ?_ (cc2) ?_)); (focus ((repeat' (first | exact trivial | (refine low_drp (ren_map fun _ => rfl) ?_ ?_; (focus (simp; done)); (simp; done)) | exact rfl | exact Z.low_nil | exact Z.low_nil2 | exact low_osl (fun _ => rfl) | (refine Z.low_osln ?_ (fun _ => rfl); (simp only [List.length_map]; done)) | exact low_oslr (fun _ => rfl) | exact Z.low_gslm (by first | rfl | exact Z.kb_some rfl) (fun _ => rfl) | exact .inl rfl | exact .inr ⟨_, rfl⟩ | apply And.intro)); done)))
        | ((with_reducible refine eqN_mk2 ?_ ?_); (focus (exact Z.kb_some rfl)))
        | ((with_reducible apply ex_and); exact rfl)
        | with_reducible first | refine Z.drawZ_rule tabOk mixOk ?_ | refine Z.apZ_mk (by kernel_rfl) ?_
        | ((with_reducible refine Z.ConZ.red ?_); (try subst hlb); (apply Z.conZ_all); (focus (repeat (first | exact Z.FK.nil | (apply Z.FK.keep; exact rfl)))); (focus rfl); (focus rfl); (focus (repeat (first | exact trivial | (refine ⟨(fun o ho => (by first | (cases ho; rfl) | (cases ho; exact Z.inL_map fun _ => rfl) | (cases ho; exact Z.inL_mapr fun _ => rfl) | exact Z.inL_gB ho fun _ => rfl)), ?_⟩)))))
        | ((refine ⟨rfl, ?_, rfl⟩); (focus (repeat (first | exact Z.DK.nil | apply Z.DK.cons))))
        | (focus (exact (rfl : Nat.ble _ _ = true))))
      all_goals (try (conv => whnf))
      all_goals try (show Nat.ble _ _ = true; rfl)
      all_goals try (exfalso; rename_i hz; cases hz; done)
      all_goals try (exfalso; (try simp only [LN] at *) <;> omega)
      all_goals first
        | ((first | (with_reducible apply Z.retF1) | (with_reducible apply Z.retF2) | (with_reducible apply Z.retF0)); (focus (exact rfl)); (repeat' (first | exact trivial | (refine Z.fq_osl (l := q.drop k) (f := cE) (ty := 33) (bx := false) ?_ ?_ (fun _ => rfl) ?_; (focus (exact congrArg (fun r => some (Blk.mk r 5 33 false)) (ren_map fun _ => rfl))); (focus (((try simp only [LN] at *) <;> omega))); (focus (exact rfl))) | (with_reducible apply Z.frz_one) | (with_reducible apply Z.frz_agg) | (with_reducible apply Z.fq_int) | (with_reducible apply Z.fq_bool) | (exact Z.frz_nil) | (exact Z.frz_osl0 rfl rfl rfl) | (with_reducible apply Z.fq_nil) | (with_reducible apply Z.fq_ro) | ((with_reducible apply Z.fq_gsl); (focus (first | rfl | exact Z.isB_map _ | exact Z.gB_snoc.symm)); (focus (exact fun _ => rfl))) | ((with_reducible apply Z.fq_osl); (focus (exact rfl)); (focus (first | exact rfl | (simp only [List.length_map, Nat.zero_add]; done) | ((try simp only [LN] at *) <;> omega))); (focus (exact fun _ => rfl))) | ((with_reducible apply Z.fq_src); (focus (exact rfl)); (focus (first | exact rfl | (simp only [List.length_map, Nat.zero_add]; done) | ((try simp only [LN] at *) <;> omega))); (focus (exact fun _ => rfl))) | exact rfl | ((apply Z.fq_osl); (focus (exact rfl)); (focus (first | exact rfl | (simp only [List.length_map, Nat.zero_add]; done) | ((try simp only [LN] at *) <;> omega))); (focus (exact fun _ => rfl))) | ((apply Z.fq_src); (focus (exact rfl)); (focus (first | exact rfl | (simp only [List.length_map, Nat.zero_add]; done) | ((try simp only [LN] at *) <;> omega))); (focus (exact fun _ => rfl))) | (apply Z.fq_ro) | (apply Z.fq_int) | (apply Z.fq_bool) | apply And.intro)); (all_goals (try exact (fun _ => none))); all_goals (first | rfl | (simp; done)))
        | (exfalso; rename_i hz; cases hz; done)
        | (exfalso; (try simp only [LN] at *) <;> omega)
        | (fail)
    · rw [if_neg hf]
      repeat' ((conv => whnf); first
        | with_reducible first | refine spB_t ?_
        | ((with_reducible apply spB_cong); (focus (simp only [beq_self_eq_true, bne_self_eq_false, Bool.true_bne, Bool.false_bne, Bool.bne_true, Bool.bne_false, Bool.true_beq, Bool.false_beq, Bool.not_true, Bool.not_false, Bool.not_not, Int.reduceBEq, Int.reduceBNe, Int.reduceLE, Int.reduceLT, Int.reduceEq, decide_true, decide_false]; rfl)))
        | with_reducible first | refine spB_yes (by decide) ?_ | refine spB_no (by decide) ?_ | refine spB_f ?_ | refine spB_not ?_ | refine spB_yes (by assumption) ?_ | refine spB_no (by assumption) ?_
        | (with_reducible refine spB_dec ?_ ?_ <;> intro _ <;> (try (exfalso; first | contradiction | omega | (rename_i hz; refine hz ?_; simp; done) | (rename_i hz; simp at hz; done) | (simp only [LN] at *; omega))))
        | (with_reducible refine spB_beq ?_ ?_ <;> intro _ <;> (try (exfalso; first | contradiction | omega | (rename_i hz; refine hz ?_; simp; done) | (rename_i hz; simp at hz; done) | (simp only [LN] at *; omega))))
        | (with_reducible refine spB_bne ?_ ?_ <;> intro _ <;> (try (exfalso; first | contradiction | omega | (rename_i hz; refine hz ?_; simp; done) | (rename_i hz; simp at hz; done) | (simp only [LN] at *; omega))))
        | (with_reducible refine spB_mk ?_ ?_ <;> intro _ <;> (try (exfalso; first | contradiction | omega | (rename_i hz; refine hz ?_; simp; done) | (rename_i hz; simp at hz; done) | (simp only [LN] at *; omega))))
        | ((with_reducible apply rowN_mk); (focus rfl))
        | ((with_reducible apply ixN_lit); (focus (exact rfl)); (focus (exact rfl)))
        | ((with_reducible apply ixN_litp); (focus (exact rfl)); (focus ((try simp only [LN] at *) <;> omega)))
        | ((with_reducible refine eqN_mk2 ?_ ?_); (focus rfl))
        | ((with_reducible refine posN_mk2 ?_ ?_); (focus (first | decide | ((try simp only [LN] at *) <;> omega))))
        | ((with_reducible refine slE_a ?_ ?_); (focus ((try simp only [LN] at *) <;> omega)))
        | ((with_reducible refine slE_b ?_ ?_); (focus ((try simp only [LN] at *) <;> omega)))
        | ((with_reducible refine slE_split ?_ ?_ ?_); (focus ((try simp only [LN] at *) <;> omega)); (all_goals intro _))
        | with_reducible refine wr_i64 (by first | omega | (simp only [LN] at *; omega)) ?_
        | with_reducible refine wr_u64 (by omega) ?_
        | with_reducible refine wr_u8 (by omega) ?_
        | with_reducible refine wr_u32 (by omega) ?_
        | with_reducible first | refine wr_mk _ rfl ?_
        | ((with_reducible refine ixN_nat ?_ ?_); (focus ((try simp only [LN] at *) <;> omega)))
        | ((with_reducible refine rowN_map ?_ ?_); (focus ((try simp only [LN] at *) <;> omega)); intro x hx)
        | with_reducible refine eqN_dec (by omega) ?_
        | with_reducible first | refine apN_mk (by kernel_rfl) ?_ | refine Z.callZ_in tabOk 25 Try.f50 _ Try.func50 (by kernel_rfl) rfl rfl rfl ?_ | refine Z.callZ_in tabOk 76 Try.f55 _ Try.func55 (by kernel_rfl) rfl rfl rfl ?_ | refine Z.callZ_in tabOk 10 Try.f47 _ Try.func47 (by kernel_rfl) rfl rfl rfl ?_
        | ((first | (with_reducible refine Z.conZ_mz ?_ (ck) ?_) | (with_reducible refine Z.callZ_mk ?_ (ck) ?_)); (focus ((repeat' (first | exact trivial | (refine low_drp (ren_map fun _ => rfl) ?_ ?_; (focus (simp; done)); (simp; done)) | exact rfl | exact Z.low_nil | exact Z.low_nil2 | exact low_osl (fun _ => rfl) | (refine Z.low_osln ?_ (fun _ => rfl); (simp only [List.length_map]; done)) | exact low_oslr (fun _ => rfl) | exact Z.low_gslm (by first | rfl | exact Z.kb_some rfl) (fun _ => rfl) | exact .inl rfl | exact .inr ⟨_, rfl⟩ | apply And.intro)); done)))
        | ((first | (with_reducible refine Z.conZ_mz ?_ (cc) ?_) | (with_reducible refine Z.callZ_mk ?_ (cc) ?_)); (focus ((repeat' (first | exact trivial | (refine low_drp (ren_map fun _ => rfl) ?_ ?_; (focus (simp; done)); (simp; done)) | exact rfl | exact Z.low_nil | exact Z.low_nil2 | exact low_osl (fun _ => rfl) | (refine Z.low_osln ?_ (fun _ => rfl); (simp only [List.length_map]; done)) | exact low_oslr (fun _ => rfl) | exact Z.low_gslm (by first | rfl | exact Z.kb_some rfl) (fun _ => rfl) | exact .inl rfl | exact .inr ⟨_, rfl⟩ | apply And.intro)); done)))
        | ((first | (with_reducible refine Z.conZ_mz ?_ (cc2) ?_) | (with_reducible refine Z.callZ_mk ?_ (cc2) ?_)); (focus ((repeat' (first | exact trivial | (refine low_drp (ren_map fun _ => rfl) ?_ ?_; (focus (simp; done)); (simp; done)) | exact rfl | exact Z.low_nil | exact Z.low_nil2 | exact low_osl (fun _ => rfl) | (refine Z.low_osln ?_ (fun _ => rfl); (simp only [List.length_map]; done)) | exact low_oslr (fun _ => rfl) | exact Z.low_gslm (by first | rfl | exact Z.kb_some rfl) (fun _ => rfl) | exact .inl rfl | exact .inr ⟨_, rfl⟩ | apply And.intro)); done)))
        | ((with_reducible refine eqN_mk2 ?_ ?_); (focus (exact Z.kb_some rfl)))
        | ((with_reducible apply ex_and); exact rfl)
        | with_reducible first | refine Z.drawZ_rule tabOk mixOk ?_ | refine Z.apZ_mk (by kernel_rfl) ?_
        | ((with_reducible refine Z.ConZ.red ?_); (try subst hlb); (apply Z.conZ_all); (focus (repeat (first | exact Z.FK.nil | (apply Z.FK.keep; exact rfl)))); (focus rfl); (focus rfl); (focus (repeat (first | exact trivial | (refine ⟨(fun o ho => (by first | (cases ho; rfl) | (cases ho; exact Z.inL_map fun _ => rfl) | (cases ho; exact Z.inL_mapr fun _ => rfl) | exact Z.inL_gB ho fun _ => rfl)), ?_⟩)))))
        | ((refine ⟨rfl, ?_, rfl⟩); (focus (repeat (first | exact Z.DK.nil | apply Z.DK.cons))))
        | (focus (exact (rfl : Nat.ble _ _ = true))))
      all_goals (try (conv => whnf))
      all_goals try (show Nat.ble _ _ = true; rfl)
      all_goals first
        | ((first | (with_reducible apply Z.retF1) | (with_reducible apply Z.retF2) | (with_reducible apply Z.retF0)); (focus (exact rfl)); (repeat' (first | exact trivial | (refine Z.fq_osl (l := q) (f := cE) (ty := 33) (bx := false) ?_ ?_ (fun _ => rfl) ?_; (focus (exact congrArg (fun r => some (Blk.mk r 5 33 false)) (ren_map fun _ => rfl))); (focus (((try simp only [LN] at *) <;> omega))); (focus (exact rfl))) | (with_reducible apply Z.frz_one) | (with_reducible apply Z.frz_agg) | (with_reducible apply Z.fq_int) | (with_reducible apply Z.fq_bool) | (exact Z.frz_nil) | (exact Z.frz_osl0 rfl rfl rfl) | (with_reducible apply Z.fq_nil) | (with_reducible apply Z.fq_ro) | ((with_reducible apply Z.fq_gsl); (focus (first | rfl | exact Z.isB_map _ | exact Z.gB_snoc.symm)); (focus (exact fun _ => rfl))) | ((with_reducible apply Z.fq_osl); (focus (exact rfl)); (focus (first | exact rfl | (simp only [List.length_map, Nat.zero_add]; done) | ((try simp only [LN] at *) <;> omega))); (focus (exact fun _ => rfl))) | ((with_reducible apply Z.fq_src); (focus (exact rfl)); (focus (first | exact rfl | (simp only [List.length_map, Nat.zero_add]; done) | ((try simp only [LN] at *) <;> omega))); (focus (exact fun _ => rfl))) | exact rfl | ((apply Z.fq_osl); (focus (exact rfl)); (focus (first | exact rfl | (simp only [List.length_map, Nat.zero_add]; done) | ((try simp only [LN] at *) <;> omega))); (focus (exact fun _ => rfl))) | ((apply Z.fq_src); (focus (exact rfl)); (focus (first | exact rfl | (simp only [List.length_map, Nat.zero_add]; done) | ((try simp only [LN] at *) <;> omega))); (focus (exact fun _ => rfl))) | (apply Z.fq_ro) | (apply Z.fq_int) | (apply Z.fq_bool) | apply And.intro)); (all_goals (try exact (fun _ => none))); all_goals (first | rfl | (simp; done)))
        | (exfalso; refine hf ⟨rfl, ?_⟩; dsimp only; (try simp only [LN] at *) <;> omega)
        | (exfalso; rename_i hz; cases hz; done)
        | (exfalso; (try simp only [LN] at *) <;> omega)
        | (fail)
  · have hf : ¬ ackOf n b q p := fun h => ha h.1
    rw [if_neg hf]
    repeat' ((conv => whnf); first
      | with_reducible first | refine spB_t ?_
      | ((with_reducible apply spB_cong); (focus (simp only [beq_self_eq_true, bne_self_eq_false, Bool.true_bne, Bool.false_bne, Bool.bne_true, Bool.bne_false, Bool.true_beq, Bool.false_beq, Bool.not_true, Bool.not_false, Bool.not_not, Int.reduceBEq, Int.reduceBNe, Int.reduceLE, Int.reduceLT, Int.reduceEq, decide_true, decide_false]; rfl)))
      | with_reducible first | refine spB_yes (by decide) ?_ | refine spB_no (by decide) ?_ | refine spB_f ?_ | refine spB_not ?_ | refine spB_yes (by assumption) ?_ | refine spB_no (by assumption) ?_
      | (with_reducible refine spB_dec ?_ ?_ <;> intro _ <;> (try (exfalso; first | contradiction | omega | (rename_i hz; refine hz ?_; simp; done) | (rename_i hz; simp at hz; done) | (simp only [LN] at *; omega) | (exact ha (ack_no (by assumption))))))
      | (with_reducible refine spB_beq ?_ ?_ <;> intro _ <;> (try (exfalso; first | contradiction | omega | (rename_i hz; refine hz ?_; simp; done) | (rename_i hz; simp at hz; done) | (simp only [LN] at *; omega) | (exact ha (ack_no (by assumption))))))
      | (with_reducible refine spB_bne ?_ ?_ <;> intro _ <;> (try (exfalso; first | contradiction | omega | (rename_i hz; refine hz ?_; simp; done) | (rename_i hz; simp at hz; done) | (simp only [LN] at *; omega) | (exact ha (ack_no (by assumption))))))
      | (with_reducible refine spB_mk ?_ ?_ <;> intro _ <;> (try (exfalso; first | contradiction | omega | (rename_i hz; refine hz ?_; simp; done) | (rename_i hz; simp at hz; done) | (simp only [LN] at *; omega) | (exact ha (ack_no (by assumption))))))
      | ((with_reducible apply rowN_mk); (focus rfl))
      | ((with_reducible apply ixN_lit); (focus (exact rfl)); (focus (exact rfl)))
      | ((with_reducible apply ixN_litp); (focus (exact rfl)); (focus ((try simp only [LN] at *) <;> omega)))
      | ((with_reducible refine eqN_mk2 ?_ ?_); (focus rfl))
      | ((with_reducible refine posN_mk2 ?_ ?_); (focus (first | decide | ((try simp only [LN] at *) <;> omega))))
      | ((with_reducible refine slE_a ?_ ?_); (focus ((try simp only [LN] at *) <;> omega)))
      | ((with_reducible refine slE_b ?_ ?_); (focus ((try simp only [LN] at *) <;> omega)))
      | ((with_reducible refine slE_split ?_ ?_ ?_); (focus ((try simp only [LN] at *) <;> omega)); (all_goals intro _))
      | with_reducible refine wr_i64 (by first | omega | (simp only [LN] at *; omega)) ?_
      | with_reducible refine wr_u64 (by omega) ?_
      | with_reducible refine wr_u8 (by omega) ?_
      | with_reducible refine wr_u32 (by omega) ?_
      | with_reducible first | refine wr_mk _ rfl ?_
      | ((with_reducible refine ixN_nat ?_ ?_); (focus ((try simp only [LN] at *) <;> omega)))
      | ((with_reducible refine rowN_map ?_ ?_); (focus ((try simp only [LN] at *) <;> omega)); intro x hx)
      | with_reducible refine eqN_dec (by omega) ?_
      | with_reducible first | refine apN_mk (by kernel_rfl) ?_ | refine Z.callZ_in tabOk 25 Try.f50 _ Try.func50 (by kernel_rfl) rfl rfl rfl ?_ | refine Z.callZ_in tabOk 76 Try.f55 _ Try.func55 (by kernel_rfl) rfl rfl rfl ?_ | refine Z.callZ_in tabOk 10 Try.f47 _ Try.func47 (by kernel_rfl) rfl rfl rfl ?_
      | ((first | (with_reducible refine Z.conZ_mz ?_ (ck) ?_) | (with_reducible refine Z.callZ_mk ?_ (ck) ?_)); (focus ((repeat' (first | exact trivial | (refine low_drp (ren_map fun _ => rfl) ?_ ?_; (focus (simp; done)); (simp; done)) | exact rfl | exact Z.low_nil | exact Z.low_nil2 | exact low_osl (fun _ => rfl) | (refine Z.low_osln ?_ (fun _ => rfl); (simp only [List.length_map]; done)) | exact low_oslr (fun _ => rfl) | exact Z.low_gslm (by first | rfl | exact Z.kb_some rfl) (fun _ => rfl) | exact .inl rfl | exact .inr ⟨_, rfl⟩ | apply And.intro)); done)))
      | ((first | (with_reducible refine Z.conZ_mz ?_ (cc) ?_) | (with_reducible refine Z.callZ_mk ?_ (cc) ?_)); (focus ((repeat' (first | exact trivial | (refine low_drp (ren_map fun _ => rfl) ?_ ?_; (focus (simp; done)); (simp; done)) | exact rfl | exact Z.low_nil | exact Z.low_nil2 | exact low_osl (fun _ => rfl) | (refine Z.low_osln ?_ (fun _ => rfl); (simp only [List.length_map]; done)) | exact low_oslr (fun _ => rfl) | exact Z.low_gslm (by first | rfl | exact Z.kb_some rfl) (fun _ => rfl) | exact .inl rfl | exact .inr ⟨_, rfl⟩ | apply And.intro)); done)))
      | ((first | (with_reducible refine Z.conZ_mz ?_ (cc2) ?_) | (with_reducible refine Z.callZ_mk ?_ (cc2) ?_)); (focus ((repeat' (first | exact trivial | (refine low_drp (ren_map fun _ => rfl) ?_ ?_; (focus (simp; done)); (simp; done)) | exact rfl | exact Z.low_nil | exact Z.low_nil2 | exact low_osl (fun _ => rfl) | (refine Z.low_osln ?_ (fun _ => rfl); (simp only [List.length_map]; done)) | exact low_oslr (fun _ => rfl) | exact Z.low_gslm (by first | rfl | exact Z.kb_some rfl) (fun _ => rfl) | exact .inl rfl | exact .inr ⟨_, rfl⟩ | apply And.intro)); done)))
      | ((with_reducible refine eqN_mk2 ?_ ?_); (focus (exact Z.kb_some rfl)))
      | ((with_reducible apply ex_and); exact rfl)
      | with_reducible first | refine Z.drawZ_rule tabOk mixOk ?_ | refine Z.apZ_mk (by kernel_rfl) ?_
      | ((with_reducible refine Z.ConZ.red ?_); (try subst hlb); (apply Z.conZ_all); (focus (repeat (first | exact Z.FK.nil | (apply Z.FK.keep; exact rfl)))); (focus rfl); (focus rfl); (focus (repeat (first | exact trivial | (refine ⟨(fun o ho => (by first | (cases ho; rfl) | (cases ho; exact Z.inL_map fun _ => rfl) | (cases ho; exact Z.inL_mapr fun _ => rfl) | exact Z.inL_gB ho fun _ => rfl)), ?_⟩)))))
      | ((refine ⟨rfl, ?_, rfl⟩); (focus (repeat (first | exact Z.DK.nil | apply Z.DK.cons))))
      | (focus (exact (rfl : Nat.ble _ _ = true))))
    all_goals (try (conv => whnf))
    all_goals try (show Nat.ble _ _ = true; rfl)
    all_goals first
      | ((first | (with_reducible apply Z.retF1) | (with_reducible apply Z.retF2) | (with_reducible apply Z.retF0)); (focus (exact rfl)); (repeat' (first | exact trivial | (refine Z.fq_osl (l := q) (f := cE) (ty := 33) (bx := false) ?_ ?_ (fun _ => rfl) ?_; (focus (exact congrArg (fun r => some (Blk.mk r 5 33 false)) (ren_map fun _ => rfl))); (focus (((try simp only [LN] at *) <;> omega))); (focus (exact rfl))) | (with_reducible apply Z.frz_one) | (with_reducible apply Z.frz_agg) | (with_reducible apply Z.fq_int) | (with_reducible apply Z.fq_bool) | (exact Z.frz_nil) | (exact Z.frz_osl0 rfl rfl rfl) | (with_reducible apply Z.fq_nil) | (with_reducible apply Z.fq_ro) | ((with_reducible apply Z.fq_gsl); (focus (first | rfl | exact Z.isB_map _ | exact Z.gB_snoc.symm)); (focus (exact fun _ => rfl))) | ((with_reducible apply Z.fq_osl); (focus (exact rfl)); (focus (first | exact rfl | (simp only [List.length_map, Nat.zero_add]; done) | ((try simp only [LN] at *) <;> omega))); (focus (exact fun _ => rfl))) | ((with_reducible apply Z.fq_src); (focus (exact rfl)); (focus (first | exact rfl | (simp only [List.length_map, Nat.zero_add]; done) | ((try simp only [LN] at *) <;> omega))); (focus (exact fun _ => rfl))) | exact rfl | ((apply Z.fq_osl); (focus (exact rfl)); (focus (first | exact rfl | (simp only [List.length_map, Nat.zero_add]; done) | ((try simp only [LN] at *) <;> omega))); (focus (exact fun _ => rfl))) | ((apply Z.fq_src); (focus (exact rfl)); (focus (first | exact rfl | (simp only [List.length_map, Nat.zero_add]; done) | ((try simp only [LN] at *) <;> omega))); (focus (exact fun _ => rfl))) | (apply Z.fq_ro) | (apply Z.fq_int) | (apply Z.fq_bool) | apply And.intro)); (all_goals (try exact (fun _ => none))); all_goals (first | rfl | (simp; done)))
      | (exfalso; rename_i hz; cases hz; done)
      | (exfalso; (try simp only [LN] at *) <;> omega)
      | (exfalso; exact ha (ack_no (by assumption)))
      | (fail)

end Go.Proofs.Ytoiadndmbppobaa
namespace Go.Proofs.Ytoiadndmbppobaa
open Go Go.RowKit Wx
set_option linter.unusedVariables false
set_option linter.unusedSimpArgs false
set_option maxHeartbeats 4000000
/-! ### What holds of a link, step by step -/
theorem okEs_drop : ∀ {l : List El} (k : Nat), okEs l = true → okEs (l.drop k) = true
  | l, 0, h => by simpa using h
  | [], k + 1, _ => rfl
  | e :: r, k + 1, h => by
    rw [okEs, Bool.and_eq_true] at h
    exact okEs_drop k h.2
theorem okEs_take : ∀ {l : List El} (k : Nat), okEs l = true → okEs (l.take k) = true
  | l, 0, h => by simp [okEs]
  | [], k + 1, _ => by simp [okEs]
  | e :: r, k + 1, h => by
    rw [okEs, Bool.and_eq_true, Bool.and_eq_true, decide_eq_true_eq] at h
    rw [List.take_succ_cons, okEs, Bool.and_eq_true, Bool.and_eq_true, decide_eq_true_eq]
    exact ⟨⟨h.1.1, fun h3 => by rw [h.1.2 h3, List.take_nil]⟩, okEs_take k h.2⟩
theorem endsL_drop {l : List El} {k : Nat} (h : endsL (l.drop k) = true) : endsL l = true := by
  unfold endsL at h
  cases hx : (l.drop k)[(l.drop k).length - 1]? with
  | none => rw [hx] at h; cases h
  | some e =>
    rw [hx] at h
    have hl := (List.getElem?_eq_some_iff.1 hx).1
    rw [List.length_drop] at hl
    rw [List.getElem?_drop, List.length_drop, show k + (l.length - k - 1) = l.length - 1 by omega] at hx
    rw [endsL_at hx]; exact h
theorem okEs_mem : ∀ {l : List El} {k : Nat} {e : El}, okEs l = true → l[k]? = some e → okE e = true
  | [], k, e, _, h => by simp at h
  | x :: r, 0, e, h, hk => by
    rw [okEs, Bool.and_eq_true, Bool.and_eq_true] at h
    simp at hk; subst hk; exact h.1.1
  | x :: r, k + 1, e, h, hk => by
    rw [okEs, Bool.and_eq_true] at h
    exact okEs_mem h.2 (by simpa using hk)
theorem pks_len : ∀ {n l s : Int} {q : List El}, (pks n l s q).length ≤ q.length
  | n, l, s, [] => by simp [pks]
  | n, l, s, e :: r => by
    have := @pks_len n l (s + 1) r
    unfold pks
    split <;> simp <;> omega
abbrev bfL (put : List El) (N T : Nat) : List El := (put.take N).drop T
theorem bfL_len {put : List El} {N T : Nat} (h : N ≤ put.length) : (bfL put N T).length = N - T := by simp [bfL, Nat.min_eq_left h]
/-- May a packet be on its way? -/
def okP (put : List El) (rm : Int) (N T : Nat) (p : Pk) : Prop := p.se = 7 ∧ ((p.kd = 1 ∧ p.lim = 0 ∧ ∃ k : Nat, p.sq = (k : Int) + 1 ∧ put[k]? = some p.e) ∨ (p.kd = 2 ∧ (0 ≤ p.sq ∧ p.sq ≤ (N : Int) + 1) ∧ (0 ≤ p.lim ∧ p.lim ≤ (T : Int) + rm) ∧ p.e = zE))
structure LInv (rm : Int) (i B N T : Nat) (l : Int) (put : List El) (w : List Pk) : Prop where
  hS : okS 7 ((B : Int) + 1) (put.drop B) l (endsL put) = true
  hR : okR 7 ((N : Int) + 1) (bfL put N T) rm = true
  hP : okEs put = true
  hTN : T ≤ N
  hBN : B ≤ N
  hNP : N ≤ put.length
  hl0 : 0 ≤ l
  hl : l ≤ (T : Int) + rm
  hw : ∀ p ∈ w, okP put rm N T p
  hwl : w.length ≤ 8 * i
  hpl : put.length ≤ i
theorem LInv.more {rm : Int} {i B N T : Nat} {l : Int} {put : List El} {w : List Pk} (h : LInv rm i B N T l put w) : LInv rm (i + 1) B N T l put w :=
  { h with hwl := Nat.le_trans h.hwl (by omega), hpl := Nat.le_trans h.hpl (by omega) }
theorem okP.more {put put' : List El} {rm : Int} {N N' T T' : Nat} {p : Pk} (h : okP put rm N T p) (hp : ∀ (k : Nat) e, put[k]? = some e → put'[k]? = some e) (hN : N ≤ N') (hT : T ≤ T') : okP put' rm N' T' p := by
  obtain ⟨h1, h2⟩ := h
  refine ⟨h1, ?_⟩
  rcases h2 with ⟨a, b, k, c, d⟩ | ⟨a, b, c, d⟩
  · exact .inl ⟨a, b, k, c, hp k _ d⟩
  · exact .inr ⟨a, by omega, by omega, d⟩
section
variable {rm : Int} {i B N T : Nat} {l : Int} {put : List El} {w : List Pk} (h : LInv rm i B N T l put w)
include h
theorem LInv.sub {w' : List Pk} (hw : ∀ p ∈ w', p ∈ w) (hl : w'.length ≤ w.length) : LInv rm i B N T l put w' :=
  { h with hw := fun p hp => h.hw p (hw p hp), hwl := Nat.le_trans hl h.hwl }
theorem LInv.ack_ok : okP put rm N T ⟨2, 7, (N : Int) + 1, min ((T : Int) + rm) 4611686018427387904, zE⟩ := ⟨rfl, .inr ⟨rfl, ⟨by show 0 ≤ (N : Int) + 1; omega, Int.le_refl _⟩, ⟨by have := (okR_all h.hR).1; show 0 ≤ min _ _; omega, by show min _ _ ≤ _; omega⟩, rfl⟩⟩
theorem LInv.ack : LInv rm (i + 1) B N T l put (w ++ [⟨2, 7, (N : Int) + 1, min ((T : Int) + rm) 4611686018427387904, zE⟩]) :=
  { h with
    hw := fun p hp => by
      rcases List.mem_append.1 hp with hp | hp
      · exact h.hw p hp
      · rw [List.mem_singleton.1 hp]; exact h.ack_ok
    hwl := by have := h.hwl; simp; omega
    hpl := by have := h.hpl; omega }
/-- An ack comes. -/
theorem LInv.back {p : Pk} (hp : okP put rm N T p ∨ p.se ≠ 7) (hk : p.kd = 2) (h0 : 0 ≤ p.lim) : ∃ (B' : Nat) (l' : Int), ackedR 7 ((B : Int) + 1) (put.drop B) l (endsL put) p = (⟨7, (B' : Int) + 1, put.drop B', l', endsL put⟩, 0) ∧ LInv rm i B' N T l' put w ∧ (p = ⟨2, 7, (N : Int) + 1, min ((T : Int) + rm) 4611686018427387904, zE⟩ → (N : Int) + 1 ≤ 4611686018427387904 → B' = N ∧ min ((T : Int) + rm) 4611686018427387904 ≤ l') := by
  have hs := okS_all h.hS
  have hBN := h.hBN
  have hNP := h.hNP
  rw [List.length_drop] at hs
  unfold ackedR
  rw [h.hS, cond_true]
  split
  · rename_i ha
    obtain ⟨h1, h2, h3, h4, h5⟩ := ha
    rw [List.length_drop] at h3
    have hse : p.se = 7 := by rw [h1]
    rcases hp with hp | hp
    · obtain ⟨_, ⟨h6, _⟩ | ⟨_, h6, h7, _⟩⟩ := hp
      · omega
      obtain ⟨k, hk2⟩ := Int.eq_ofNat_of_zero_le (show 0 ≤ p.sq - 1 by omega)
      have e1 : (p.sq - ((B : Int) + 1)).toNat = k - B := by omega
      refine ⟨k, max l p.lim, ?_, ?_, ?_⟩
      · rw [e1, List.drop_drop, show B + (k - B) = k by omega, show p.sq = (k : Int) + 1 by omega]
      · exact { h with
          hS := by
            unfold okS
            rw [okEs_drop k h.hP, decide_eq_true (by rw [List.length_drop]; omega)]
            cases he : endsL (put.drop k)
            · simp
            · rw [endsL_drop he]; rfl
          hBN := by omega
          hl0 := by have := h.hl0; omega
          hl := by have := h.hl; omega }
      · intro hpe hmx
        have e2 : p.sq = (N : Int) + 1 := by rw [hpe]
        have e3 : p.lim = min ((T : Int) + rm) 4611686018427387904 := by rw [hpe]
        exact ⟨by omega, by omega⟩
    · exact absurd hse hp
  · rename_i ha
    refine ⟨B, l, rfl, h, fun hpe hmx => absurd ?_ ha⟩
    rw [hpe]
    refine ⟨rfl, by show _ ≤ (N : Int) + 1; omega, ?_, hmx, by show min _ _ ≤ _; omega⟩
    rw [List.length_drop]; show (N : Int) + 1 ≤ _; omega
theorem LInv.none (hT : T = N) : takeR 7 ((N : Int) + 1) (bfL put N T) rm = (zR, zE, 4) := by
  unfold takeR
  rw [h.hR, cond_true, show bfL put N T = [] from List.eq_nil_of_length_eq_zero (by rw [bfL_len h.hNP]; omega)]
theorem LInv.take {e : El} (hT : T < N) (he : put[T]? = some e) : takeR 7 ((N : Int) + 1) (bfL put N T) rm = (⟨7, (N : Int) + 1, bfL put N (T + 1), rm⟩, e, 0) ∧ LInv rm i B N (T + 1) l put w := by
  have hr := (okR_all h.hR).1
  have e1 : bfL put N T = e :: bfL put N (T + 1) := by
    unfold bfL
    exact drop_cons (by rw [List.getElem?_take_of_lt hT]; exact he)
  constructor
  · unfold takeR
    rw [h.hR, cond_true, e1]
  · exact { h with
      hR := by
        unfold okR
        rw [show okEs (bfL put N (T + 1)) = true from okEs_drop _ (okEs_take _ h.hP), decide_eq_true (by rw [bfL_len h.hNP] at hr ⊢; omega)]; rfl
      hTN := by omega
      hl := by have := h.hl; omega
      hw := fun p hp => (h.hw p hp).more (fun _ _ hk => hk) (Nat.le_refl _) (by omega) }
end
theorem okE_num {e : El} (h : okE e = true) : 0 ≤ e.num := by
  unfold okE at h
  have h := of_decide_eq_true h
  omega
theorem okP.num {put : List El} {rm : Int} {N T : Nat} {p : Pk} (h : okP put rm N T p) (hP : okEs put = true) : 0 ≤ p.sq ∧ 0 ≤ p.lim ∧ 0 ≤ p.e.num := by
  obtain ⟨_, ⟨_, a, k, b, c⟩ | ⟨_, a, b, c⟩⟩ := h
  · exact ⟨by omega, by omega, okE_num (okEs_mem hP c)⟩
  · exact ⟨a.1, b.1, by rw [c]; exact Int.le_refl _⟩
theorem u64_tm {n : Int} {L : Nat} (h : 0 < L) : ∃ k : Nat, (IntKind.u64.wrap n).tmod (L : Int) = (k : Int) ∧ k < L := by
  have h0 : 0 ≤ IntKind.u64.wrap n := by simp [IntKind.wrap, IntKind.bits, IntKind.signed]; omega
  obtain ⟨k, hk⟩ := Int.eq_ofNat_of_zero_le (Int.tmod_nonneg (L : Int) h0)
  refine ⟨k, hk, ?_⟩
  have := Int.tmod_lt_of_pos (IntKind.u64.wrap n) (show (0 : Int) < (L : Int) by omega)
  omega
/-! ### The state of both ends -/
structure St where
  kd : Int
  n : Int
  keeps : Bool
  e : El
  p : Pk
end Go.Proofs.Ytoiadndmbppobaa
namespace Go.Proofs.Ytoiadndmbppobaa
open Go Go.RowKit Wx
set_option linter.unusedVariables false
set_option linter.unusedSimpArgs false
set_option maxHeartbeats 4000000
theorem send_con (n b : Int) (q : List El) (l : Int) (d : Bool) (hq : q.length ≤ 9223372036854775807) (hu : ∀ e ∈ q, 0 ≤ e.num) (hb0 : 0 ≤ b) (hl0 : 0 ≤ l) : Con Try.prog 16 [.agg [.v (.int .u32 n), .v (.int .u64 b), .ro false 5 (q.map eE), .v (.int .u64 l), .v (.bool d)]] (fun rx rK rt => rx = .tup [.one (.ro true 9 ((sendR n b q l d).1.map eP)), .one (.v (.int .i64 (sendR n b q l d).2))] ∧ rK = [] ∧ rt = 0) := by
  refine Z.con_ofF tabOk 20 Try.f16 _ Try.func16 (by kernel_rfl) rfl rfl rfl rfl ?_
  have ck := checkS_con n b q l d hq hu hb0 hl0
  unfold sendR
  cases hk : okS n b q l d
  all_goals rw [hk] at ck
  all_goals simp only [cond_true, cond_false] at ck ⊢
  · skip
    repeat' ((conv => whnf); first
      | with_reducible first | refine spB_t ?_
      | ((with_reducible apply spB_cong); (focus (simp only [beq_self_eq_true, bne_self_eq_false, Bool.true_bne, Bool.false_bne, Bool.bne_true, Bool.bne_false, Bool.true_beq, Bool.false_beq, Bool.not_true, Bool.not_false, Bool.not_not, Int.reduceBEq, Int.reduceBNe, Int.reduceLE, Int.reduceLT, Int.reduceEq, decide_true, decide_false]; rfl)))
      | ((first | (with_reducible refine Z.callZ_mk ?_ (ck) ?_)); (focus ((repeat' (first | exact trivial | exact rfl | apply And.intro)); done))))
    all_goals (try (conv => whnf))
    all_goals try (show Nat.ble _ _ = true; rfl)
    all_goals first
      | ((first | (with_reducible apply Z.retF2)); (focus (exact rfl)); (repeat' (first | exact trivial | (with_reducible apply Z.frz_one) | (exact Z.frz_nil) | exact rfl | apply And.intro)); (all_goals (try exact (fun _ => none))); all_goals (first | (simp; done)))
  have hs := okS_all hk
  repeat' ((conv => whnf); first
    | ((with_reducible apply spB_cong); (focus (simp only [beq_self_eq_true, bne_self_eq_false, Bool.true_bne, Bool.false_bne, Bool.bne_true, Bool.bne_false, Bool.true_beq, Bool.false_beq, Bool.not_true, Bool.not_false, Bool.not_not, Int.reduceBEq, Int.reduceBNe, Int.reduceLE, Int.reduceLT, Int.reduceEq, decide_true, decide_false]; rfl)))
    | with_reducible first | refine spB_no (by decide) ?_
    | with_reducible first | refine Z.callZ_in tabOk 4 Try.f54 _ Try.func54 (by kernel_rfl) rfl rfl rfl ?_ | refine Z.callZ_in tabOk 34 Try.f65 _ Try.func65 (by kernel_rfl) rfl rfl rfl ?_
    | ((first | (with_reducible refine Z.callZ_mk ?_ (ck) ?_)); (focus ((repeat' (first | exact trivial | exact rfl | apply And.intro)); done)))
    | ((with_reducible apply ex_and); exact rfl)
    | ((with_reducible refine Z.RangeZ.red ?_); (refine Z.range_rule [(5, _), (13, _)] rfl ⟨rfl, rfl, trivial⟩ rfl rfl ?_); intro lb hlb))
  all_goals (try (conv => whnf))
  all_goals try (show Nat.ble _ _ = true; rfl)
  all_goals try (exfalso; rename_i hz; cases hz; done)
  all_goals try (exfalso; (try simp only [LN] at *) <;> omega)
  refine Z.loopK tabOk (fun zq : Nat × List Pk => [(9, .val (.int .i64 (zq.1 : Int)))]) (fun zq : Nat × List Pk => ([(1, some (Z.Ob.b ⟨[[.gsl 4 (zq.2.map cP)]], 1, 44, true⟩)), (4, (gB 9 35 (zq.2.map cP)).map Z.Ob.b)] : Z.Kr)) (fun zq => zq.1 ≤ q.length ∧ zq.2 ++ pks n l (b + (zq.1 : Int)) (q.drop zq.1) = pks n l b q) (fun zq => q.length - zq.1) (0, []) 5 [(0, _), (1, _), (7, _), (8, _)] ⟨rfl, rfl, rfl, rfl, trivial⟩ [(0, some _), (2, some _), (3, some _)] ⟨rfl, rfl, rfl, trivial⟩ ?_ ?_ rfl rfl ⟨Nat.zero_le _, by simp⟩ ?_
  · repeat' (first | exact trivial | apply And.intro | exact ⟨_, rfl, Z.Imp.refl _⟩)
  · repeat' (first | exact trivial | (intro b hb; cases hb; done) | (intro b hb; cases hb; refine ⟨_, rfl, ⟨rfl, rfl, rfl⟩, ?_⟩; (repeat' (first | exact trivial | apply And.intro | exact Z.Imp.nilg _)); done) | apply And.intro)
  rintro ⟨i, acc⟩ HINV
  dsimp only at HINV ⊢
  obtain ⟨HI, HA⟩ := HINV
  have hal := congrArg List.length HA
  have hpl := @pks_len n l b q
  rw [List.length_append] at hal
  by_cases hi : i < q.length
  · obtain ⟨x, hx⟩ := getElem?_some' (xs := q) (i := i) hi
    rw [drop_cons hx, pks] at HA
    by_cases hli : b + (i : Int) ≤ l
    · rw [if_pos hli] at HA
      repeat' ((conv => whnf); first
        | ((with_reducible apply spB_cong); (focus (simp only [beq_self_eq_true, bne_self_eq_false, Bool.true_bne, Bool.false_bne, Bool.bne_true, Bool.bne_false, Bool.true_beq, Bool.false_beq, Bool.not_true, Bool.not_false, Bool.not_not, Int.reduceBEq, Int.reduceBNe, Int.reduceLE, Int.reduceLT, Int.reduceEq, decide_true, decide_false]; rfl)))
        | with_reducible first | refine spB_no (by decide) ?_
        | (with_reducible refine spB_dec ?_ ?_ <;> intro _ <;> (try (exfalso; first | contradiction | omega | (rename_i hz; refine hz ?_; simp; done) | (rename_i hz; simp at hz; done) | (simp only [LN] at *; omega))))
        | with_reducible first | refine Z.rowN_known hx ?_
        | ((with_reducible refine posE_pos ?_ ?_); (focus ((try simp only [LN] at *) <;> omega)))
        | ((with_reducible apply ixN_litp); (focus (exact rfl)); (focus ((try simp only [LN] at *) <;> omega)))
        | ((with_reducible refine apdN.mk ?_ ?_ ?_ ?_ ?_ ?_); (focus (first | rfl)); (focus (first | exact one_all (by rfl))); (focus ((try simp only [LN] at *) <;> omega)); (focus ((try simp only [LN] at *) <;> omega)); (focus ((try simp only [LN] at *) <;> omega)))
        | with_reducible refine wr_i64 (by first | omega | (simp only [LN] at *; omega)) ?_
        | with_reducible refine wr_u64 (by omega) ?_
        | ((with_reducible refine eqN_mk2 ?_ ?_); (focus (exact Z.kb_some rfl)))
        | ((with_reducible refine Z.CallZ.yl ?_); subst hlb; refine Z.yield_rule tabOk _ _ rfl rfl rfl rfl ?_))
      all_goals (try (conv => whnf))
      all_goals try (show Nat.ble _ _ = true; rfl)
      all_goals first
        | ((refine Z.rndK ((i + 1, acc ++ [⟨1, n, b + (i : Int), 0, x⟩])) (fun s => [0, 1, 2, 3, s.idIn 1 0]) rfl rfl rfl rfl ?_ ?_ ?_ ?_); (focus (repeat' (first | exact trivial | exact rfl | apply And.intro))); (focus (repeat' (first | exact trivial | (intro b hb; cases hb; rfl) | (intro b hb; cases hb; rw [List.map_append (f := cP)]; rfl) | exact Z.gB_sub' rfl (by first | rfl | (rw [List.map_append]; rfl) | simp only [List.map_append, List.map_cons, List.map_nil]) (ren_map fun _ => rfl) | apply And.intro))); (focus (exact ⟨by (try dsimp only); omega, by (try dsimp only); rw [← HA, List.append_assoc]; simp [Int.add_assoc]⟩)); ((try dsimp only); omega))
    · rw [if_neg hli, List.append_nil] at HA
      subst HA
      repeat' ((conv => whnf); first
        | with_reducible first | refine spB_t ?_
        | (with_reducible refine spB_dec ?_ ?_ <;> intro _ <;> (try (exfalso; first | contradiction | omega | (rename_i hz; refine hz ?_; simp; done) | (rename_i hz; simp at hz; done) | (simp only [LN] at *; omega))))
        | with_reducible first | refine Z.rowN_known hx ?_
        | ((with_reducible apply ixN_litp); (focus (exact rfl)); (focus ((try simp only [LN] at *) <;> omega)))
        | with_reducible refine wr_u64 (by omega) ?_
        | ((with_reducible apply ex_and); exact rfl)
        | ((with_reducible refine Z.rngN.mk ?_); (try subst hlb)))
      all_goals (try (conv => whnf))
      all_goals try (show Nat.ble _ _ = true; rfl)
      all_goals first
        | ((first | (with_reducible apply Z.retF2)); (focus (exact rfl)); (repeat' (first | exact trivial | (with_reducible apply Z.frz_one) | (with_reducible apply Z.fq_int) | ((with_reducible apply Z.fq_gsl); (focus (first | exact Z.isB_map _)); (focus (exact fun _ => rfl))) | exact rfl | apply And.intro)); (all_goals (try exact (fun _ => none))); all_goals (first | (simp; done)))
  have hil : i = q.length := by omega
  subst hil
  rw [List.drop_length, pks, List.append_nil] at HA
  subst HA
  repeat' ((conv => whnf); first
    | (with_reducible refine spB_dec ?_ ?_ <;> intro _ <;> (try (exfalso; first | contradiction | omega | (rename_i hz; refine hz ?_; simp; done) | (rename_i hz; simp at hz; done) | (simp only [LN] at *; omega))))
    | ((with_reducible apply ex_and); exact rfl)
    | ((with_reducible refine Z.rngN.mk ?_); (try subst hlb)))
  all_goals (try (conv => whnf))
  all_goals try (show Nat.ble _ _ = true; rfl)
  all_goals first
    | ((first | (with_reducible apply Z.retF2)); (focus (exact rfl)); (repeat' (first | exact trivial | (with_reducible apply Z.frz_one) | (with_reducible apply Z.fq_int) | ((with_reducible apply Z.fq_gsl); (focus (first | exact Z.isB_map _)); (focus (exact fun _ => rfl))) | exact rfl | apply And.intro)); (all_goals (try exact (fun _ => none))); all_goals (first | (simp; done)))

end Go.Proofs.Ytoiadndmbppobaa
namespace Go.Proofs.Ytoiadndmbppobaa
open Go Go.RowKit Wx
set_option linter.unusedVariables false
set_option linter.unusedSimpArgs false
set_option maxHeartbeats 4000000
theorem wakes_con : Con Try.prog 10 [] (fun x K t => x = .val (.bool true) ∧ K = [] ∧ t = 0) := Y.con_run ftabOk tabOk mixOk 40 12 (by kernel_rfl) (by kernel_rfl)
end Go.Proofs.Ytoiadndmbppobaa
namespace Go.Proofs.Ytoiadndmbppobaa
open Go Go.RowKit Wx
set_option linter.unusedVariables false
set_option linter.unusedSimpArgs false
set_option maxHeartbeats 4000000
theorem rightE_con (e : El) (hu : 0 ≤ e.num) : Con Try.prog 53 [.agg [.v (.int .i64 e.kd), .v (.int .i64 e.src), .v (.int .i64 e.key), .v (.int .i64 e.val), .v (.int .u64 e.num)]] (fun rx rK rt => rx = .val (.bool (okE e)) ∧ rK = [] ∧ rt = 0) := by
  refine Z.con_ofF tabOk 41 Try.f53 _ Try.func53 (by kernel_rfl) rfl rfl rfl rfl ?_
  repeat' ((conv => whnf); first
    | with_reducible first | refine spB_t ?_
    | with_reducible first | refine spB_no (by decide) ?_ | refine spB_not ?_
    | (with_reducible refine spB_dec ?_ ?_ <;> intro _ <;> (try (exfalso; first | contradiction | omega | (rename_i hz; with_reducible exact absurd rfl hz))))
    | (with_reducible refine spB_beq ?_ ?_ <;> intro _ <;> (try (exfalso; first | contradiction | omega | (rename_i hz; with_reducible exact absurd rfl hz))))
    | (with_reducible refine spB_mk ?_ ?_ <;> intro _ <;> (try (exfalso; first | contradiction | omega | (rename_i hz; with_reducible exact absurd rfl hz))))
    | with_reducible first | refine Z.callZ_in tabOk 21 Try.f64 _ Try.func64 (by kernel_rfl) rfl rfl rfl ?_
    | ((with_reducible apply ex_and); exact rfl))
  all_goals (try (conv => whnf))
  all_goals first
    | ((first | (with_reducible apply Z.retF1)); (focus (exact rfl)); (repeat' (first | exact trivial | (with_reducible apply Z.frz_one) | (with_reducible apply Z.fq_bool) | apply And.intro)); (all_goals (try exact (fun _ => none))); all_goals (first | (rw [show okE e = true by (unfold okE; (try simp only [Bool.and_eq_true, Bool.and_eq_false_iff, Bool.and_true, beq_iff_eq, beq_eq_false_iff_ne, bne_iff_ne, Bool.not_eq_true, Bool.not_eq_false, ne_eq, Bool.false_eq_true, or_false] at *); first | exact decide_eq_true (by omega) | exact decide_eq_false (by omega))]) | (rw [show okE e = false by (unfold okE; (try simp only [Bool.and_eq_true, Bool.and_eq_false_iff, Bool.and_true, beq_iff_eq, beq_eq_false_iff_ne, bne_iff_ne, Bool.not_eq_true, Bool.not_eq_false, ne_eq, Bool.false_eq_true, or_false] at *); first | exact decide_eq_true (by omega) | exact decide_eq_false (by omega))]) | (by_cases hz : e.num = 0; (focus (rw [show (e.num == 0) = true by simpa using hz, show okE e = true by (unfold okE; (try simp only [Bool.and_eq_true, Bool.and_eq_false_iff, Bool.and_true, beq_iff_eq, beq_eq_false_iff_ne, bne_iff_ne, Bool.not_eq_true, Bool.not_eq_false, ne_eq, Bool.false_eq_true, or_false] at *); first | exact decide_eq_true (by omega) | exact decide_eq_false (by omega))])); (rw [show (e.num == 0) = false by simpa using hz, show okE e = false by (unfold okE; (try simp only [Bool.and_eq_true, Bool.and_eq_false_iff, Bool.and_true, beq_iff_eq, beq_eq_false_iff_ne, bne_iff_ne, Bool.not_eq_true, Bool.not_eq_false, ne_eq, Bool.false_eq_true, or_false] at *); first | exact decide_eq_true (by omega) | exact decide_eq_false (by omega))]))))

theorem rrow_con (l : List El) (hl : l.length ≤ 9223372036854775807) (hu : ∀ e ∈ l, 0 ≤ e.num) : Con Try.prog 44 [.one (.ro false 5 (l.map eE))] (fun rx rK rt => rx = .val (.bool (okEs l)) ∧ rK = [] ∧ rt = 0) := by
  refine Z.con_ofF tabOk 28 Try.f44 _ Try.func44 (by kernel_rfl) rfl rfl rfl rfl ?_
  repeat' ((conv => whnf); first
    | with_reducible first | refine spB_t ?_)
  all_goals (try (conv => whnf))
  all_goals try (show Nat.ble _ _ = true; rfl)
  refine Z.loopK tabOk (fun zq : Nat => [(7, .val (.int .i64 (zq : Int)))]) (fun zq : Nat => ([] : Z.Kr)) (fun zq => zq ≤ l.length ∧ okEs l = okEs (l.drop zq)) (fun zq => l.length - zq) 0 0 [(0, _), (5, _), (6, _)] ⟨rfl, rfl, rfl, trivial⟩ [] trivial ?_ ?_ rfl rfl ⟨Nat.zero_le _, rfl⟩ ?_
  · repeat' (first | exact trivial | apply And.intro | exact ⟨_, rfl, Z.Imp.refl _⟩)
  · repeat' (first | exact trivial)
  rintro i HINV
  dsimp only at HINV ⊢
  obtain ⟨HI, HO⟩ := HINV
  by_cases hi : i < l.length
  · obtain ⟨x, hx⟩ := getElem?_some' (xs := l) (i := i) hi
    have ce := rightE_con x (hu x (List.mem_of_getElem? hx))
    have hat := okEs_at hx
    cases hok : okE x
    all_goals rw [hok] at ce hat
    all_goals (
      repeat' ((conv => whnf); first
        | with_reducible first | refine spB_t ?_
        | ((with_reducible apply spB_cong); (focus (simp only [beq_self_eq_true, bne_self_eq_false, Bool.true_bne, Bool.false_bne, Bool.bne_true, Bool.bne_false, Bool.true_beq, Bool.false_beq, Bool.not_true, Bool.not_false, Bool.not_not, Int.reduceBEq, Int.reduceBNe, Int.reduceLE, Int.reduceLT, Int.reduceEq, decide_true, decide_false]; rfl)))
        | with_reducible first | refine spB_no (by decide) ?_
        | (with_reducible refine spB_dec ?_ ?_ <;> intro _ <;> (try (exfalso; first | contradiction | omega | (rename_i hz; refine hz ?_; simp; done) | (rename_i hz; simp at hz; done) | (simp only [LN] at *; omega))))
        | (with_reducible refine spB_beq ?_ ?_ <;> intro _ <;> (try (exfalso; first | contradiction | omega | (rename_i hz; refine hz ?_; simp; done) | (rename_i hz; simp at hz; done) | (simp only [LN] at *; omega))))
        | (with_reducible refine spB_bne ?_ ?_ <;> intro _ <;> (try (exfalso; first | contradiction | omega | (rename_i hz; refine hz ?_; simp; done) | (rename_i hz; simp at hz; done) | (simp only [LN] at *; omega))))
        | with_reducible first | refine Z.rowN_known hx ?_
        | ((with_reducible apply ixN_litp); (focus (exact rfl)); (focus ((try simp only [LN] at *) <;> omega)))
        | with_reducible refine wr_i64 (by first | omega | (simp only [LN] at *; omega)) ?_
        | ((first | (with_reducible refine Z.callZ_mk ?_ (ce) ?_)); (focus ((repeat' (first | exact trivial | exact rfl | apply And.intro)); done))))
      all_goals (try (conv => whnf)))
    all_goals try (show Nat.ble _ _ = true; rfl)
    all_goals first
      | ((refine Z.rndK ((i + 1)) (fun s => []) rfl rfl rfl rfl ?_ ?_ ?_ ?_); (focus (repeat' (first | exact trivial | exact rfl | apply And.intro))); (focus (repeat' (first | exact trivial))); (focus (exact ⟨by (try dsimp only); omega, by (try dsimp only); rw [HO, hat, decide_eq_true (fun h9 : x.kd = 3 => by (try simp only [LN] at *) <;> omega), Bool.true_and, Bool.true_and]⟩)); ((try dsimp only); omega))
      | ((first | (with_reducible apply Z.retF1)); (focus (exact rfl)); (repeat' (first | exact trivial | (with_reducible apply Z.frz_one) | (with_reducible apply Z.fq_bool) | apply And.intro)); (all_goals (try exact (fun _ => none))); all_goals (first | (rw [HO, hat]; rfl) | (rw [HO, hat, decide_eq_false (fun h9 => absurd (h9 (by assumption)) (by (try simp only [LN] at *) <;> omega))]; rfl)))
  have hil : i = l.length := by omega
  repeat' ((conv => whnf); first
    | (with_reducible refine spB_dec ?_ ?_ <;> intro _ <;> (try (exfalso; first | contradiction | omega | (rename_i hz; refine hz ?_; simp; done) | (rename_i hz; simp at hz; done) | (simp only [LN] at *; omega)))))
  all_goals (try (conv => whnf))
  all_goals try (show Nat.ble _ _ = true; rfl)
  all_goals first
    | ((first | (with_reducible apply Z.retF1)); (focus (exact rfl)); (repeat' (first | exact trivial | (with_reducible apply Z.frz_one) | (with_reducible apply Z.fq_bool) | apply And.intro)); (all_goals (try exact (fun _ => none))); all_goals (rw [HO, hil, List.drop_length]; rfl))

theorem rends_con (l : List El) (hl : l.length ≤ 9223372036854775807) : Con Try.prog 45 [.one (.ro false 5 (l.map eE))] (fun rx rK rt => rx = .val (.bool (endsL l)) ∧ rK = [] ∧ rt = 0) := by
  refine Z.con_ofF tabOk 16 Try.f45 _ Try.func45 (by kernel_rfl) rfl rfl rfl rfl ?_
  rcases Nat.eq_zero_or_pos l.length with h0 | h0
  · have he : l = [] := List.length_eq_zero_iff.1 h0
    subst he
    repeat' ((conv => whnf); first
      | with_reducible first | refine spB_no (by decide) ?_)
    all_goals (try (conv => whnf))
    all_goals try (show Nat.ble _ _ = true; rfl)
    all_goals first
      | ((first | (with_reducible apply Z.retF1)); (focus (exact rfl)); (repeat' (first | exact trivial | (with_reducible apply Z.frz_one) | (with_reducible apply Z.fq_bool) | exact rfl | apply And.intro)); (all_goals (try exact (fun _ => none))); all_goals (first | (unfold endsL; simp_all; done)))
  obtain ⟨x, hx⟩ := getElem?_some' (xs := l) (i := l.length - 1) (by omega)
  repeat' ((conv => whnf); first
    | with_reducible first | refine spB_t ?_
    | (with_reducible refine spB_dec ?_ ?_ <;> intro _ <;> (try (exfalso; first | contradiction | omega | (rename_i hz; refine hz ?_; simp; done) | (rename_i hz; simp at hz; done) | (simp only [LN] at *; omega))))
    | ((with_reducible refine ixN_mk (l.length - 1) ?_ ?_ ?_); (focus (first | ((try simp only [LN] at *) <;> omega))); (focus ((try simp only [LN] at *) <;> omega)))
    | with_reducible first | refine Z.rowN_known hx ?_
    | with_reducible refine wr_i64 (by first | omega | (simp only [LN] at *; omega)) ?_)
  all_goals (try (conv => whnf))
  all_goals try (show Nat.ble _ _ = true; rfl)
  all_goals first
    | ((first | (with_reducible apply Z.retF1)); (focus (exact rfl)); (repeat' (first | exact trivial | (with_reducible apply Z.frz_one) | (with_reducible apply Z.fq_bool) | apply And.intro)); (all_goals (try exact (fun _ => none))); all_goals (first | (rw [endsL_at hx]; rfl)))

theorem rightS_con (n b : Int) (q : List El) (l : Int) (d : Bool) (hq0 : q.length ≤ 1099511627776) (hu : ∀ e ∈ q, 0 ≤ e.num) (hb0 : 0 ≤ b) (hl0 : 0 ≤ l) (hq : q.length ≤ 9223372036854775807) : Con Try.prog 12 [.agg [.v (.int .u32 n), .v (.int .u64 b), .ro false 5 (q.map eE), .v (.int .u64 l), .v (.bool d)]] (fun rx rK rt => rx = .val (.bool (okS n b q l d)) ∧ rK = [] ∧ rt = 0) := by
  refine Z.con_ofF tabOk 52 Try.f12 _ Try.func12 (by kernel_rfl) rfl rfl rfl rfl ?_
  have cr := rrow_con q hq hu
  have ce2 := rends_con q hq
  have hqm : (List.map eE q).length = q.length := by simp
  have e1 : okS n b q l d = (decide ((1 ≤ n ∧ n ≤ 2147483647) ∧ (1 ≤ b ∧ b ≤ 4611686018427387904) ∧ q.length ≤ 8 ∧ b + (q.length : Int) ≤ 4611686018427387905 ∧ l ≤ 4611686018427387904) && okEs q && (d || !endsL q)) := rfl
  generalize okS n b q l d = K at *
  by_cases hP : ((1 ≤ n ∧ n ≤ 2147483647) ∧ (1 ≤ b ∧ b ≤ 4611686018427387904) ∧ q.length ≤ 8 ∧ b + (q.length : Int) ≤ 4611686018427387905 ∧ l ≤ 4611686018427387904)
  all_goals first | rw [decide_eq_true hP] at e1 | rw [decide_eq_false hP] at e1
  all_goals cases h1 : okEs q <;> cases h2 : endsL q <;> cases d
  all_goals rw [h1, h2] at e1
  all_goals rw [h1] at cr
  all_goals rw [h2] at ce2
  all_goals simp only [Bool.true_and, Bool.and_true, Bool.false_and, Bool.and_false, Bool.or_false, Bool.or_true, Bool.true_or, Bool.false_or, Bool.not_true, Bool.not_false] at e1
  all_goals subst e1
  all_goals (
    repeat' ((conv => whnf); first
      | with_reducible first | refine spB_t ?_
      | ((with_reducible apply spB_cong); (focus (simp only [beq_self_eq_true, bne_self_eq_false, Bool.true_bne, Bool.false_bne, Bool.bne_true, Bool.bne_false, Bool.true_beq, Bool.false_beq, Bool.not_true, Bool.not_false, Bool.not_not, Int.reduceBEq, Int.reduceBNe, Int.reduceLE, Int.reduceLT, Int.reduceEq, decide_true, decide_false]; rfl)))
      | with_reducible first | refine spB_no (by decide) ?_ | refine spB_not ?_
      | (with_reducible refine spB_dec ?_ ?_ <;> intro _ <;> (try (exfalso; first | contradiction | omega | (rename_i hz; refine hz ?_; simp; done) | (rename_i hz; simp at hz; done) | (simp only [LN] at *; omega))))
      | with_reducible refine wr_u64 (by omega) ?_
      | with_reducible first | refine Z.callZ_in tabOk 9 Try.f43 _ Try.func43 (by kernel_rfl) rfl rfl rfl ?_
      | ((first | (with_reducible refine Z.callZ_mk ?_ (cr) ?_) | (with_reducible refine Z.callZ_mk ?_ (ce2) ?_)); (focus ((repeat' (first | exact trivial | exact rfl | apply And.intro)); done)))
      | ((with_reducible apply ex_and); exact rfl))
    all_goals (try (conv => whnf)))
  all_goals try (show Nat.ble _ _ = true; rfl)
  all_goals first
    | ((first | (with_reducible apply Z.retF1)); (focus (exact rfl)); (repeat' (first | exact trivial | (with_reducible apply Z.frz_one) | (with_reducible apply Z.fq_bool) | exact rfl | apply And.intro)); (all_goals (try exact (fun _ => none))); all_goals (rfl))

end Go.Proofs.Ytoiadndmbppobaa
namespace Go.Proofs.Ytoiadndmbppobaa
open Go Go.RowKit Wx
set_option linter.unusedVariables false
set_option linter.unusedSimpArgs false
set_option maxHeartbeats 4000000
theorem pk_eq {x y : Pk} (h : (x.kd == y.kd && (x.se == y.se && (x.sq == y.sq && (x.lim == y.lim && (x.e.kd == y.e.kd && (x.e.src == y.e.src && (x.e.key == y.e.key && (x.e.val == y.e.val && (x.e.num == y.e.num && true))))))))) = true) : x = y := by
  obtain ⟨a, b, c, d, ⟨e, f, g, i, j⟩⟩ := x
  obtain ⟨a', b', c', d', ⟨e', f', g', i', j'⟩⟩ := y
  simp_all
abbrev sh (q : List El) : List El := q.take (min q.length 9)
theorem sh_len (q : List El) : (sh q).length ≤ 9 := by simp only [sh, List.length_take]; omega
theorem sh_id {q : List El} (h : q.length ≤ 9) : sh q = q := by unfold sh; rw [List.take_of_length_le (by omega)]
theorem elems_con (l : List El) (hl : l.length ≤ 1099511627776) : Con Try.prog 42 [.one (.ro false 5 (l.map eE))] (fun rx rK rt => rx = .c (.ro true 5 (l.map eE)) ∧ rK = [] ∧ rt = 0) := by
  refine Z.con_ofF tabOk 6 Try.f42 _ Try.func42 (by kernel_rfl) rfl rfl rfl rfl ?_
  repeat' ((conv => whnf); first
    | with_reducible first | refine apdE_n ?_
    | ((with_reducible refine apdN.mk ?_ ?_ ?_ ?_ ?_ ?_); (focus (first | (simp; done))); (focus (first | exact one_map2 (fun _ => rfl))); (focus ((try simp only [LN] at *) <;> omega)); (focus ((try simp only [LN] at *) <;> omega)); (focus ((try simp only [LN] at *) <;> omega))))
  all_goals (try (conv => whnf))
  all_goals try (show Nat.ble _ _ = true; rfl)
  all_goals first
    | ((first | (with_reducible apply Z.retF1)); (focus (exact rfl)); (repeat' (first | exact trivial | (refine Z.fq_osl (l := l) (f := cE) (ty := 33) (bx := false) ?_ ?_ (fun _ => rfl) ?_; (focus (exact congrArg (fun r => some (Blk.mk r 5 33 false)) (map_ce fun _ => rfl))); (focus (((try simp only [LN] at *) <;> omega))); (focus (exact rfl))) | (with_reducible apply Z.frz_one) | apply And.intro)); (all_goals (try exact (fun _ => none))); all_goals (first | (simp; done)))

theorem sender_con (n b : Int) (q : List El) (l : Int) (d : Bool) (hq : q.length ≤ 9223372036854775807) : Con Try.prog 11 [.agg [.v (.int .u32 n), .v (.int .u64 b), .ro false 5 (q.map eE), .v (.int .u64 l), .v (.bool d)]] (fun rx rK rt => rx = .pl (.agg [.v (.int .u32 n), .v (.int .u64 b), .ro true 5 ((sh q).map eE), .v (.int .u64 l), .v (.bool d)]) ∧ rK = [] ∧ rt = 0) := by
  refine Z.con_ofF tabOk 13 Try.f11 _ Try.func11 (by kernel_rfl) rfl rfl rfl rfl ?_
  have cel := elems_con (sh q) (by have := sh_len q; omega)
  have hsh : (sh q).map eE = (((q.map eE).drop 0).take (min q.length 9 - 0)) := by rw [List.drop_zero, Nat.sub_zero, List.map_take]
  rw [hsh] at cel ⊢
  repeat' ((conv => whnf); first
    | ((with_reducible refine slN_hi (min q.length 9) ?_ ?_ ?_); (focus ((try simp only [LN] at *) <;> omega)); (focus ((try simp only [LN] at *) <;> omega)))
    | ((first | (with_reducible refine Z.callZ_mk ?_ (cel) ?_)); (focus ((repeat' (first | exact trivial | exact rfl | apply And.intro)); done))))
  all_goals (try (conv => whnf))
  all_goals try (show Nat.ble _ _ = true; rfl)
  all_goals first
    | ((first | (with_reducible apply Z.retF1)); (focus (exact rfl)); (repeat' (first | exact trivial | (with_reducible apply Z.frz_agg) | (with_reducible apply Z.fq_int) | (with_reducible apply Z.fq_bool) | exact rfl | apply And.intro)); (all_goals (try exact (fun _ => none))); all_goals (first | (simp; done)))

theorem same05_con (a b : List El) (hla : a.length ≤ 9223372036854775807)  : Con Try.prog 57 [.one (.ro false 5 (a.map eE)), .one (.ro false 5 (b.map eE))] (fun rx rK rt => rx = .val (.bool (decide (a = b))) ∧ rK = [] ∧ rt = 0) := by
  refine Z.con_ofF tabOk 26 Try.f57 _ Try.func57 (by kernel_rfl) rfl rfl rfl rfl ?_
  repeat' ((conv => whnf); first
    | (with_reducible refine spB_bne ?_ ?_ <;> intro _ <;> (try (exfalso; first | contradiction | omega | (rename_i hz; with_reducible exact absurd rfl hz)))))
  all_goals (try (conv => whnf))
  all_goals try ((first | (with_reducible apply Z.retF1)); (focus (exact rfl)); (repeat' (first | exact trivial | (with_reducible apply Z.frz_one) | (with_reducible apply Z.fq_bool) | apply And.intro)); (all_goals (try exact (fun _ => none))); all_goals (exact bool_f (ne_len (by simp only [LN] at *; omega))))
  refine Z.loopK tabOk (fun zq : Nat => [(5, .val (.int .i64 (zq : Int)))]) (fun zq : Nat => ([] : Z.Kr)) (fun zq => zq ≤ a.length ∧ a.length = b.length ∧ a.take zq = b.take zq) (fun zq => a.length - zq) 0 0 [(0, _), (1, _)] ⟨rfl, rfl, trivial⟩ [] trivial ?_ ?_ rfl rfl ⟨Nat.zero_le _, by simp only [LN] at *; omega, rfl⟩ ?_
  · repeat' (first | exact trivial | apply And.intro | exact ⟨_, rfl, Z.Imp.refl _⟩)
  · repeat' (first | exact trivial)
  rintro i HINV
  dsimp only at HINV ⊢
  obtain ⟨HI, HL, HT⟩ := HINV
  repeat' ((conv => whnf); first
    | with_reducible first | refine spB_not ?_
    | (with_reducible refine spB_dec ?_ ?_ <;> intro _ <;> (try (exfalso; first | contradiction | omega | (rename_i hz; with_reducible exact absurd rfl hz))))
    | (with_reducible refine spB_mk ?_ ?_ <;> intro _ <;> (try (exfalso; first | contradiction | omega | (rename_i hz; with_reducible exact absurd rfl hz))))
    | ((with_reducible apply ixN_litp); (focus (exact rfl)); (focus ((try simp only [LN] at *) <;> omega)))
    | with_reducible refine wr_i64 (by first | omega | (simp only [LN] at *; omega)) ?_
    | ((with_reducible refine rowN_map ?_ ?_); (focus ((try simp only [LN] at *) <;> omega)); intro x hx)
    | with_reducible first | refine Z.drawZ_rule tabOk mixOk ?_ | refine Z.apZ_mk (by kernel_rfl) ?_)
  all_goals (try (conv => whnf))
  all_goals first
    | ((refine Z.rndK (i + 1) (fun s => []) rfl rfl rfl rfl ?_ ?_ ?_ ?_); (focus (repeat' (first | exact trivial | exact rfl | apply And.intro))); (focus (repeat' (first | exact trivial))); (focus (refine ⟨by simp only [LN] at *; omega, HL, eq_step HT (by assumption) (by assumption) ?_⟩; (first | exact el_eq (by assumption)))); (try simp only [LN] at *); (try dsimp only); omega)
    | ((first | (with_reducible apply Z.retF1)); (focus (exact rfl)); (repeat' (first | exact trivial | (with_reducible apply Z.frz_one) | (with_reducible apply Z.fq_bool) | apply And.intro)); (all_goals (try exact (fun _ => none))); all_goals (first | exact bool_t (eq_end HL HT (by simp only [LN] at *; omega)) | (refine bool_f (ne_at (by assumption) (by assumption) ?_); intro e; subst e; first | contradiction | (simp_all; done))))

theorem samep_con (a b : List Pk) (hla : a.length ≤ 9223372036854775807)  : Con Try.prog 17 [.one (.ro false 9 (a.map eP)), .one (.ro false 9 (b.map eP))] (fun rx rK rt => rx = .val (.bool (decide (a = b))) ∧ rK = [] ∧ rt = 0) := by
  refine Z.con_ofF tabOk 26 Try.f17 _ Try.func17 (by kernel_rfl) rfl rfl rfl rfl ?_
  repeat' ((conv => whnf); first
    | (with_reducible refine spB_bne ?_ ?_ <;> intro _ <;> (try (exfalso; first | contradiction | omega | (rename_i hz; with_reducible exact absurd rfl hz)))))
  all_goals (try (conv => whnf))
  all_goals try ((first | (with_reducible apply Z.retF1)); (focus (exact rfl)); (repeat' (first | exact trivial | (with_reducible apply Z.frz_one) | (with_reducible apply Z.fq_bool) | apply And.intro)); (all_goals (try exact (fun _ => none))); all_goals (exact bool_f (ne_len (by simp only [LN] at *; omega))))
  refine Z.loopK tabOk (fun zq : Nat => [(13, .val (.int .i64 (zq : Int)))]) (fun zq : Nat => ([] : Z.Kr)) (fun zq => zq ≤ a.length ∧ a.length = b.length ∧ a.take zq = b.take zq) (fun zq => a.length - zq) 0 0 [(0, _), (1, _), (12, _)] ⟨rfl, rfl, rfl, trivial⟩ [] trivial ?_ ?_ rfl rfl ⟨Nat.zero_le _, by simp only [LN] at *; omega, rfl⟩ ?_
  · repeat' (first | exact trivial | apply And.intro | exact ⟨_, rfl, Z.Imp.refl _⟩)
  · repeat' (first | exact trivial)
  rintro i HINV
  dsimp only at HINV ⊢
  obtain ⟨HI, HL, HT⟩ := HINV
  repeat' ((conv => whnf); first
    | with_reducible first | refine spB_not ?_
    | (with_reducible refine spB_dec ?_ ?_ <;> intro _ <;> (try (exfalso; first | contradiction | omega | (rename_i hz; with_reducible exact absurd rfl hz))))
    | (with_reducible refine spB_mk ?_ ?_ <;> intro _ <;> (try (exfalso; first | contradiction | omega | (rename_i hz; with_reducible exact absurd rfl hz))))
    | ((with_reducible apply ixN_litp); (focus (exact rfl)); (focus ((try simp only [LN] at *) <;> omega)))
    | with_reducible refine wr_i64 (by first | omega | (simp only [LN] at *; omega)) ?_
    | ((with_reducible refine rowN_map ?_ ?_); (focus ((try simp only [LN] at *) <;> omega)); intro x hx)
    | with_reducible first | refine Z.drawZ_rule tabOk mixOk ?_ | refine Z.apZ_mk (by kernel_rfl) ?_)
  all_goals (try (conv => whnf))
  all_goals first
    | ((refine Z.rndK (i + 1) (fun s => []) rfl rfl rfl rfl ?_ ?_ ?_ ?_); (focus (repeat' (first | exact trivial | exact rfl | apply And.intro))); (focus (repeat' (first | exact trivial))); (focus (refine ⟨by simp only [LN] at *; omega, HL, eq_step HT (by assumption) (by assumption) ?_⟩; (first | exact pk_eq (by assumption)))); (try simp only [LN] at *); (try dsimp only); omega)
    | ((first | (with_reducible apply Z.retF1)); (focus (exact rfl)); (repeat' (first | exact trivial | (with_reducible apply Z.frz_one) | (with_reducible apply Z.fq_bool) | apply And.intro)); (all_goals (try exact (fun _ => none))); all_goals (first | exact bool_t (eq_end HL HT (by simp only [LN] at *; omega)) | (refine bool_f (ne_at (by assumption) (by assumption) ?_); intro e; subst e; first | contradiction | (simp_all; done))))

theorem sameS_con (n b : Int) (p : List El) (l : Int) (d : Bool) (n2 b2 : Int) (q : List El) (l2 : Int) (d2 : Bool) (hp : p.length ≤ 9223372036854775807) : Con Try.prog 21 [.agg [.v (.int .u32 n), .v (.int .u64 b), .ro false 5 (p.map eE), .v (.int .u64 l), .v (.bool d)], .agg [.v (.int .u32 n2), .v (.int .u64 b2), .ro false 5 (q.map eE), .v (.int .u64 l2), .v (.bool d2)]] (fun rx rK rt => rx = .val (.bool (decide (n = n2 ∧ b = b2 ∧ l = l2 ∧ d = d2 ∧ p = q))) ∧ rK = [] ∧ rt = 0) := by
  refine Z.con_ofF tabOk 38 Try.f21 _ Try.func21 (by kernel_rfl) rfl rfl rfl rfl ?_
  have cs := same05_con p q hp
  generalize hD : decide (p = q) = D at *
  have e1 : decide (n = n2 ∧ b = b2 ∧ l = l2 ∧ d = d2 ∧ p = q) = (decide (n = n2 ∧ b = b2 ∧ l = l2 ∧ d = d2) && D) := by rw [← hD]; exact Bool.eq_iff_iff.2 (by simp only [Bool.and_eq_true, decide_eq_true_eq]; constructor <;> (intro h; simp_all; done))
  rw [e1]
  clear e1 hD
  cases D
  all_goals (
    repeat' ((conv => whnf); first
      | with_reducible first | refine spB_t ?_
      | with_reducible first | refine spB_no (by decide) ?_
      | (with_reducible refine spB_beq ?_ ?_ <;> intro _ <;> (try (exfalso; first | contradiction | omega | (rename_i hz; refine hz ?_; simp; done) | (rename_i hz; simp at hz; done) | (simp only [LN] at *; omega))))
      | ((first | (with_reducible refine Z.callZ_mk ?_ (cs) ?_)); (focus ((repeat' (first | exact trivial | exact rfl | apply And.intro)); done))))
    all_goals (try (conv => whnf)))
  all_goals try (show Nat.ble _ _ = true; rfl)
  all_goals first
    | ((first | (with_reducible apply Z.retF1)); (focus (exact rfl)); (repeat' (first | exact trivial | (with_reducible apply Z.frz_one) | (with_reducible apply Z.fq_bool) | (apply Z.fq_bool) | apply And.intro)); (all_goals (try exact (fun _ => none))); all_goals (first | (simp; done) | (simp_all; done)))

end Go.Proofs.Ytoiadndmbppobaa
namespace Go.Proofs.Ytoiadndmbppobaa
open Go Go.RowKit Wx
set_option linter.unusedVariables false
set_option linter.unusedSimpArgs false
set_option maxHeartbeats 4000000
theorem pks_nil : ∀ {n l s : Int} {q : List El}, l < s → pks n l s q = []
  | n, l, s, [], _ => rfl
  | n, l, s, e :: r, h => by rw [pks, if_neg (by omega)]
theorem elemsO_con (l : List El) (hl : l.length ≤ 1099511627776) : Con Try.prog 42 [.one (.ro false 5 (l.map eE))] (fun rx rK rt => rx = .c (.osl 0 0 l.length none) ∧ rK = [(0, some ⟨l.map cE, 5, 33, false⟩)] ∧ rt = 1) := by
  refine Z.con_ofZ tabOk 6 Try.f42 _ Try.func42 (by kernel_rfl) rfl rfl rfl rfl ?_
  repeat' ((conv => whnf); first
    | with_reducible first | refine apdE_n ?_
    | ((with_reducible refine apdN.mk ?_ ?_ ?_ ?_ ?_ ?_); (focus (first | (simp; done))); (focus (first | exact one_map2 (fun _ => rfl))); (focus ((try simp only [LN] at *) <;> omega)); (focus ((try simp only [LN] at *) <;> omega)); (focus ((try simp only [LN] at *) <;> omega))))
  all_goals (try (conv => whnf))
  all_goals try (show Nat.ble _ _ = true; rfl)
  all_goals first
    | (refine ret1b 1 (.c (.osl 0 0 l.length none)) (l.map cE) 5 33 false _ rfl ?_ (by rfl) (by first | exact map_ce fun _ => rfl | (rw [List.take_zero, List.nil_append]; exact map_ce fun _ => rfl)) (ren_map fun _ => rfl) rfl (own_map fun _ => rfl) ⟨rfl, rfl, rfl⟩; (rw [show l.length = 0 + (l.map eE).length by simp]; rfl))

theorem rput_con (n b : Int) (q : List El) (l : Int) (d : Bool) (e : El) (hq : q.length ≤ 9223372036854775807) (hu : ∀ e ∈ q, 0 ≤ e.num) (hb0 : 0 ≤ b) (hl0 : 0 ≤ l) (hk : okS n b q l d = true) (he : 0 ≤ e.num) : Con Try.prog 15 [.agg [.v (.int .u32 n), .v (.int .u64 b), .ro false 5 (q.map eE), .v (.int .u64 l), .v (.bool d)], .agg [.v (.int .i64 e.kd), .v (.int .i64 e.src), .v (.int .i64 e.key), .v (.int .i64 e.val), .v (.int .u64 e.num)]] (fun rx rK rt => rx = .tup [.agg [.v (.int .u32 (putR n b q l d e).1.n), .v (.int .u64 (putR n b q l d e).1.b), .ro true 5 ((putR n b q l d e).1.q.map eE), .v (.int .u64 (putR n b q l d e).1.l), .v (.bool (putR n b q l d e).1.d)], .one (.v (.int .i64 (putR n b q l d e).2))] ∧ rK = [] ∧ rt = 0) := by
  refine Z.con_ofF tabOk 43 Try.f15 _ Try.func15 (by kernel_rfl) rfl rfl rfl rfl ?_
  have hs := okS_all hk
  have ce := rightE_con e he
  have cel := elemsO_con q (by omega)
  have hqm : (List.map eE q).length = q.length := by simp
  unfold putR
  rw [hk]
  simp only [cond_true]
  cases hoe : okE e
  all_goals rw [hoe] at ce
  all_goals simp only [cond_true, cond_false]
  rotate_left
  · cases d
    all_goals simp only [cond_true, cond_false]
    · by_cases hf : 8 ≤ q.length ∨ b + (q.length : Int) > 4611686018427387904
      · rw [if_pos hf]
        repeat' ((conv => whnf); first
          | with_reducible first | refine spB_t ?_
          | ((with_reducible apply spB_cong); (focus (simp only [beq_self_eq_true, bne_self_eq_false, Bool.true_bne, Bool.false_bne, Bool.bne_true, Bool.bne_false, Bool.true_beq, Bool.false_beq, Bool.not_true, Bool.not_false, Bool.not_not, Int.reduceBEq, Int.reduceBNe, Int.reduceLE, Int.reduceLT, Int.reduceEq, decide_true, decide_false]; rfl)))
          | with_reducible first | refine spB_no (by decide) ?_
          | (with_reducible refine spB_dec ?_ ?_ <;> intro _ <;> (try (exfalso; first | contradiction | omega | (rename_i hz; refine hz ?_; simp; done) | (rename_i hz; simp at hz; done) | (simp only [LN] at *; omega))))
          | (with_reducible refine spB_beq ?_ ?_ <;> intro _ <;> (try (exfalso; first | contradiction | omega | (rename_i hz; refine hz ?_; simp; done) | (rename_i hz; simp at hz; done) | (simp only [LN] at *; omega))))
          | with_reducible refine wr_u64 (by omega) ?_
          | ((first | (with_reducible refine Z.callZ_mk ?_ (ce) ?_)); (focus ((repeat' (first | exact trivial | exact rfl | apply And.intro)); done))))
        all_goals (try (conv => whnf))
        all_goals try (show Nat.ble _ _ = true; rfl)
        all_goals first
          | ((first | (with_reducible apply Z.retF2)); (focus (exact rfl)); (repeat' (first | exact trivial | (with_reducible apply Z.frz_one) | (with_reducible apply Z.frz_agg) | (with_reducible apply Z.fq_int) | (with_reducible apply Z.fq_bool) | (exact Z.frz_nil) | exact rfl | apply And.intro)); (all_goals (try exact (fun _ => none))); all_goals (first | (simp; done)))
      · rw [if_neg hf]
        repeat' ((conv => whnf); first
          | ((with_reducible apply spB_cong); (focus (simp only [beq_self_eq_true, bne_self_eq_false, Bool.true_bne, Bool.false_bne, Bool.bne_true, Bool.bne_false, Bool.true_beq, Bool.false_beq, Bool.not_true, Bool.not_false, Bool.not_not, Int.reduceBEq, Int.reduceBNe, Int.reduceLE, Int.reduceLT, Int.reduceEq, decide_true, decide_false]; rfl)))
          | with_reducible first | refine spB_no (by decide) ?_
          | (with_reducible refine spB_dec ?_ ?_ <;> intro _ <;> (try (exfalso; first | contradiction | omega | (rename_i hz; refine hz ?_; simp; done) | (rename_i hz; simp at hz; done) | (simp only [LN] at *; omega))))
          | (with_reducible refine spB_beq ?_ ?_ <;> intro _ <;> (try (exfalso; first | contradiction | omega | (rename_i hz; refine hz ?_; simp; done) | (rename_i hz; simp at hz; done) | (simp only [LN] at *; omega))))
          | ((with_reducible refine apdN.mk ?_ ?_ ?_ ?_ ?_ ?_); (focus rfl); (focus (exact one_all (by rfl))); (focus (show _ ≤ (List.map _ _).length; simp; done)); (focus ((try simp only [LN] at *) <;> omega)); (focus ((try simp only [LN] at *) <;> omega)))
          | with_reducible first | refine apdE_n ?_
          | with_reducible refine wr_u64 (by omega) ?_
          | ((first | (with_reducible refine Z.conZ_mz ?_ (cel) ?_) | (with_reducible refine Z.callZ_mk ?_ (ce) ?_)); (focus ((repeat' (first | exact trivial | exact rfl | apply And.intro)); done)))
          | with_reducible first | refine Z.drawZ_rule tabOk mixOk ?_ | refine Z.apZ_mk (by kernel_rfl) ?_)
        all_goals (try (conv => whnf))
        all_goals try (show Nat.ble _ _ = true; rfl)
        all_goals first
          | ((first | (with_reducible apply Z.retF2)); (focus (exact rfl)); (repeat' (first | exact trivial | (refine Z.fq_osl (l := q ++ [e]) (f := cE) (ty := 33) (bx := false) ?_ ?_ (fun _ => rfl) ?_; (focus (exact congrArg (fun r => some (Blk.mk r 5 33 false)) (app_own (ren_map fun _ => rfl) (by simp) rfl))); (focus (((try simp only [LN] at *) <;> omega))); (focus (exact rfl))) | (with_reducible apply Z.frz_one) | (with_reducible apply Z.frz_agg) | (with_reducible apply Z.fq_int) | (with_reducible apply Z.fq_bool) | exact rfl | apply And.intro)); (all_goals (try exact (fun _ => none))); all_goals (first | (simp; done)))
    · skip
      repeat' ((conv => whnf); first
        | with_reducible first | refine spB_t ?_
        | ((with_reducible apply spB_cong); (focus (simp only [beq_self_eq_true, bne_self_eq_false, Bool.true_bne, Bool.false_bne, Bool.bne_true, Bool.bne_false, Bool.true_beq, Bool.false_beq, Bool.not_true, Bool.not_false, Bool.not_not, Int.reduceBEq, Int.reduceBNe, Int.reduceLE, Int.reduceLT, Int.reduceEq, decide_true, decide_false]; rfl)))
        | with_reducible first | refine spB_no (by decide) ?_
        | ((first | (with_reducible refine Z.callZ_mk ?_ (ce) ?_)); (focus ((repeat' (first | exact trivial | exact rfl | apply And.intro)); done))))
      all_goals (try (conv => whnf))
      all_goals try (show Nat.ble _ _ = true; rfl)
      all_goals first
        | ((first | (with_reducible apply Z.retF2)); (focus (exact rfl)); (repeat' (first | exact trivial | (with_reducible apply Z.frz_one) | (with_reducible apply Z.frz_agg) | (with_reducible apply Z.fq_int) | (with_reducible apply Z.fq_bool) | (exact Z.frz_nil) | exact rfl | apply And.intro)); (all_goals (try exact (fun _ => none))); all_goals (first | (simp; done)))
  · skip
    repeat' ((conv => whnf); first
      | with_reducible first | refine spB_t ?_
      | ((with_reducible apply spB_cong); (focus (simp only [beq_self_eq_true, bne_self_eq_false, Bool.true_bne, Bool.false_bne, Bool.bne_true, Bool.bne_false, Bool.true_beq, Bool.false_beq, Bool.not_true, Bool.not_false, Bool.not_not, Int.reduceBEq, Int.reduceBNe, Int.reduceLE, Int.reduceLT, Int.reduceEq, decide_true, decide_false]; rfl)))
      | ((first | (with_reducible refine Z.callZ_mk ?_ (ce) ?_)); (focus ((repeat' (first | exact trivial | exact rfl | apply And.intro)); done))))
    all_goals (try (conv => whnf))
    all_goals try (show Nat.ble _ _ = true; rfl)
    all_goals first
      | ((first | (with_reducible apply Z.retF2)); (focus (exact rfl)); (repeat' (first | exact trivial | (with_reducible apply Z.frz_one) | (with_reducible apply Z.frz_agg) | (with_reducible apply Z.fq_int) | (with_reducible apply Z.fq_bool) | (exact Z.frz_nil) | exact rfl | apply And.intro)); (all_goals (try exact (fun _ => none))); all_goals (first | (simp; done)))

theorem rsend_con (n b : Int) (q : List El) (l : Int) (d : Bool) (hq : q.length ≤ 9223372036854775807) (hu : ∀ e ∈ q, 0 ≤ e.num) (hb0 : 0 ≤ b) (hl0 : 0 ≤ l) (hk : okS n b q l d = true) : Con Try.prog 18 [.agg [.v (.int .u32 n), .v (.int .u64 b), .ro false 5 (q.map eE), .v (.int .u64 l), .v (.bool d)]] (fun rx rK rt => rx = .c (.ro true 9 ((pks n l b q).map eP)) ∧ rK = [] ∧ rt = 0) := by
  refine Z.con_ofF tabOk 34 Try.f18 _ Try.func18 (by kernel_rfl) rfl rfl rfl rfl ?_
  have hs := okS_all hk
  repeat' ((conv => whnf); first
    | with_reducible first | refine spB_t ?_)
  all_goals (try (conv => whnf))
  all_goals try (show Nat.ble _ _ = true; rfl)
  all_goals try (exfalso; rename_i hz; cases hz; done)
  all_goals try (exfalso; (try simp only [LN] at *) <;> omega)
  refine Z.loopK tabOk (fun zq : Nat × List Pk => [(10, .val (.int .i64 (zq.1 : Int))), (3, .c (.gsl 1 (zq.2.map cP)))]) (fun zq : Nat × List Pk => ([(1, (gB 9 35 (zq.2.map cP)).map Z.Ob.b)] : Z.Kr)) (fun zq => zq.1 ≤ q.length ∧ zq.2 ++ pks n l (b + (zq.1 : Int)) (q.drop zq.1) = pks n l b q) (fun zq => q.length - zq.1) (0, []) 2 [(1, _), (8, _), (9, _)] ⟨rfl, rfl, rfl, trivial⟩ [(0, some _)] ⟨rfl, trivial⟩ ?_ ?_ rfl rfl ⟨Nat.zero_le _, by simp⟩ ?_
  · repeat' (first | exact trivial | apply And.intro | exact ⟨_, rfl, Z.Imp.refl _⟩ | exact ⟨_, rfl, Z.Imp.nilg _⟩)
  · repeat' (first | exact trivial | (intro b hb; cases hb; done) | apply And.intro)
  rintro ⟨i, acc⟩ HINV
  dsimp only at HINV ⊢
  obtain ⟨HI, HA⟩ := HINV
  have hal := congrArg List.length HA
  have hpl := @pks_len n l b q
  rw [List.length_append] at hal
  by_cases hi : i < q.length
  · obtain ⟨x, hx⟩ := getElem?_some' (xs := q) (i := i) hi
    rw [drop_cons hx, pks] at HA
    by_cases hli : b + (i : Int) ≤ l
    · rw [if_pos hli] at HA
      repeat' ((conv => whnf); first
        | (with_reducible refine spB_dec ?_ ?_ <;> intro _ <;> (try (exfalso; first | contradiction | omega | (rename_i hz; refine hz ?_; simp; done) | (rename_i hz; simp at hz; done) | (simp only [LN] at *; omega))))
        | with_reducible first | refine Z.rowN_known hx ?_
        | ((with_reducible refine posE_pos ?_ ?_); (focus ((try simp only [LN] at *) <;> omega)))
        | ((with_reducible apply ixN_litp); (focus (exact rfl)); (focus ((try simp only [LN] at *) <;> omega)))
        | ((with_reducible refine apdN.mk ?_ ?_ ?_ ?_ ?_ ?_); (focus (first | rfl)); (focus (first | exact one_all (by rfl))); (focus ((try simp only [LN] at *) <;> omega)); (focus ((try simp only [LN] at *) <;> omega)); (focus ((try simp only [LN] at *) <;> omega)))
        | with_reducible refine wr_i64 (by first | omega | (simp only [LN] at *; omega)) ?_
        | with_reducible refine wr_u64 (by omega) ?_
        | ((with_reducible refine eqN_mk2 ?_ ?_); (focus (exact Z.kb_some rfl))))
      all_goals (try (conv => whnf))
      all_goals try (show Nat.ble _ _ = true; rfl)
      all_goals first
        | ((refine Z.rndK ((i + 1, acc ++ [⟨1, n, b + (i : Int), 0, x⟩])) (fun s => [0, s.idAt 3]) rfl rfl rfl rfl ?_ ?_ ?_ ?_); (focus (repeat' (first | exact trivial | exact rfl | (rw [List.map_append (f := cP)]; exact rfl) | apply And.intro))); (focus (repeat' (first | exact trivial | (intro b hb; cases hb; rfl) | exact Z.gB_sub' rfl (by first | rfl | (rw [List.map_append]; rfl) | simp only [List.map_append, List.map_cons, List.map_nil]) (ren_map fun _ => rfl) | apply And.intro))); (focus (exact ⟨by (try dsimp only); omega, by (try dsimp only); rw [← HA, List.append_assoc]; simp [Int.add_assoc]⟩)); ((try dsimp only); omega))
    · rw [if_neg hli, List.append_nil] at HA
      repeat' ((conv => whnf); first
        | (with_reducible refine spB_dec ?_ ?_ <;> intro _ <;> (try (exfalso; first | contradiction | omega | (rename_i hz; refine hz ?_; simp; done) | (rename_i hz; simp at hz; done) | (simp only [LN] at *; omega))))
        | with_reducible first | refine Z.rowN_known hx ?_
        | ((with_reducible apply ixN_litp); (focus (exact rfl)); (focus ((try simp only [LN] at *) <;> omega)))
        | with_reducible refine wr_i64 (by first | omega | (simp only [LN] at *; omega)) ?_
        | with_reducible refine wr_u64 (by omega) ?_)
      all_goals (try (conv => whnf))
      all_goals try (show Nat.ble _ _ = true; rfl)
      all_goals first
        | ((refine Z.rndK ((i + 1, acc)) (fun s => [0, s.idAt 3]) rfl rfl rfl rfl ?_ ?_ ?_ ?_); (focus (repeat' (first | exact trivial | exact rfl | apply And.intro))); (focus (repeat' (first | exact trivial | (intro b hb; cases hb; rfl) | exact Z.gB_sub rfl rfl (ren_map fun _ => rfl) | apply And.intro))); (focus (exact ⟨by (try dsimp only); omega, by (try dsimp only); rw [pks_nil (by omega), List.append_nil]; exact HA⟩)); ((try dsimp only); omega))
  have hil : i = q.length := by omega
  subst hil
  rw [List.drop_length, pks, List.append_nil] at HA
  subst HA
  repeat' ((conv => whnf); first
    | (with_reducible refine spB_dec ?_ ?_ <;> intro _ <;> (try (exfalso; first | contradiction | omega | (rename_i hz; refine hz ?_; simp; done) | (rename_i hz; simp at hz; done) | (simp only [LN] at *; omega)))))
  all_goals (try (conv => whnf))
  all_goals try (show Nat.ble _ _ = true; rfl)
  all_goals first
    | ((first | (with_reducible apply Z.retF1)); (focus (exact rfl)); (repeat' (first | exact trivial | (with_reducible apply Z.frz_one) | ((with_reducible apply Z.fq_gsl); (focus (first | exact Z.isB_map _)); (focus (exact fun _ => rfl))) | exact rfl | apply And.intro)); (all_goals (try exact (fun _ => none))); all_goals (first | (simp; done)))

theorem ack_no2 {p : Pk} {n : Int} (h1 : p.kd = 2) (h2 : p.se = n) (h3 : (p.e.kd == 0 && (p.e.src == 0 && (p.e.key == 0 && (p.e.val == 0 && (p.e.num == 0 && true))))) = true) : p = ⟨2, n, p.sq, p.lim, zE⟩ := by
  obtain ⟨a, b, c, d, e1, e2, e3, e4, e5⟩ := p
  simp only [Bool.and_eq_true, beq_iff_eq, Bool.and_true] at h1 h2 h3
  obtain ⟨h3, h4, h5, h6, h7⟩ := h3
  subst h1 h2 h3 h4 h5 h6 h7; rfl
theorem racked_yes (n b : Int) (q : List El) (l : Int) (d : Bool) (k : Nat) (c : Int) (hq : q.length ≤ 9223372036854775807) (hu : ∀ e ∈ q, 0 ≤ e.num) (hb0 : 0 ≤ b) (hl0 : 0 ≤ l) (hk : okS n b q l d = true) (hc : 0 ≤ c) (hf1 : (k : Int) ≤ q.length) (hf3 : b + (k : Int) ≤ 4611686018427387904) (hf4 : c ≤ 4611686018427387904) : Con Try.prog 20 [.agg [.v (.int .u32 n), .v (.int .u64 b), .ro false 5 (q.map eE), .v (.int .u64 l), .v (.bool d)], .agg [.v (.int .i64 2), .v (.int .u32 n), .v (.int .u64 (b + (k : Int))), .v (.int .u64 c), .v (.int .i64 0), .v (.int .i64 0), .v (.int .i64 0), .v (.int .i64 0), .v (.int .u64 0)]] (fun rx rK rt => rx = .pl (.agg [.v (.int .u32 n), .v (.int .u64 (b + (k : Int))), .ro true 5 ((q.drop k).map eE), .v (.int .u64 (max l c)), .v (.bool d)]) ∧ rK = [] ∧ rt = 0) := by
  refine Z.con_ofF tabOk 74 Try.f20 _ Try.func20 (by kernel_rfl) rfl rfl rfl rfl ?_
  have hs := okS_all hk
  have hqm : (List.map eE q).length = q.length := by simp
  have cel := elems_con (q.drop k) (by rw [List.length_drop]; omega)
  have hdr2 : (q.drop k).map eE = ((q.map eE).drop k).take ((q.map eE).length - k) := by rw [← List.map_drop, List.take_of_length_le (by simp)]
  rw [hdr2] at cel ⊢
  repeat' ((conv => whnf); first
    | with_reducible first | refine spB_t ?_
    | ((with_reducible apply spB_cong); (focus (simp only [beq_self_eq_true, bne_self_eq_false, Bool.true_bne, Bool.false_bne, Bool.bne_true, Bool.bne_false, Bool.true_beq, Bool.false_beq, Bool.not_true, Bool.not_false, Bool.not_not, Int.reduceBEq, Int.reduceBNe, Int.reduceLE, Int.reduceLT, Int.reduceEq, decide_true, decide_false]; rfl)))
    | with_reducible first | refine spB_no (by decide) ?_
    | (with_reducible refine spB_dec ?_ ?_ <;> intro _ <;> (try (exfalso; first | contradiction | omega | (rename_i hz; refine hz ?_; simp; done) | (rename_i hz; simp at hz; done) | (simp only [LN] at *; omega))))
    | ((with_reducible refine wr_u64 ?_ ?_); (focus (simp only [List.length_map]; omega)))
    | ((with_reducible refine Z.slN_lo k ?_ ?_ ?_); (focus (first | omega)); (focus ((try simp only [LN] at *) <;> omega)))
    | with_reducible refine wr_u64 (by omega) ?_
    | ((first | (with_reducible refine Z.conZ_mz ?_ (cel) ?_)); (focus ((repeat' (first | exact trivial | exact rfl | apply And.intro)); done)))
    | with_reducible first | refine Z.drawZ_rule tabOk mixOk ?_ | refine Z.apZ_mk (by kernel_rfl) ?_)
  all_goals (try (conv => whnf))
  all_goals try (show Nat.ble _ _ = true; rfl)
  all_goals try (exfalso; rename_i hz; cases hz; done)
  all_goals try (exfalso; (try simp only [LN] at *) <;> omega)
  all_goals first
    | ((first | (with_reducible apply Z.retF1)); (focus (exact rfl)); (repeat' (first | exact trivial | (with_reducible apply Z.frz_agg) | (with_reducible apply Z.fq_int) | (with_reducible apply Z.fq_bool) | exact rfl | apply And.intro)); (all_goals (try exact (fun _ => none))); all_goals (first | (simp; done)))

end Go.Proofs.Ytoiadndmbppobaa
namespace Go.Proofs.Ytoiadndmbppobaa
open Go Go.RowKit Wx
set_option linter.unusedVariables false
set_option linter.unusedSimpArgs false
set_option maxHeartbeats 4000000
theorem put_own (n b : Int) (q : List El) (l : Int) (e : El) (hq : q.length ≤ 9223372036854775807) (hu : ∀ e ∈ q, 0 ≤ e.num) (hb0 : 0 ≤ b) (hl0 : 0 ≤ l) (hk : okS n b q l false = true) (he : 0 ≤ e.num) (hoe : okE e = true) (hf : ¬ (8 ≤ q.length ∨ b + (q.length : Int) > 4611686018427387904)) : Con Try.prog 14 [.agg [.v (.int .u32 n), .v (.int .u64 b), .ro false 5 (q.map eE), .v (.int .u64 l), .v (.bool false)], .agg [.v (.int .i64 e.kd), .v (.int .i64 e.src), .v (.int .i64 e.key), .v (.int .i64 e.val), .v (.int .u64 e.num)]] (fun rx rK rt => rx = .tup [.agg [.v (.int .u32 n), .v (.int .u64 b), .osl 0 0 (q.length + 1) none, .v (.int .u64 l), .v (.bool (decide (e.kd = 3)))], .one (.v (.int .i64 0))] ∧ rK = [(0, some ⟨(q ++ [e]).map cE, 5, 33, false⟩)] ∧ rt = 1) := by
  refine Z.con_ofZ tabOk 11 Try.f14 _ Try.func14 (by kernel_rfl) rfl rfl rfl rfl ?_
  have ck := checkS_con n b q l false hq hu hb0 hl0
  have ce := checkE_con e he
  rw [hk] at ck
  rw [hoe] at ce
  simp only [cond_true] at ck ce
  have hs := okS_all hk
  have cc := copied_con q (by omega)
  repeat' ((conv => whnf); first
    | ((with_reducible apply spB_cong); (focus (simp only [beq_self_eq_true, bne_self_eq_false, Bool.true_bne, Bool.false_bne, Bool.bne_true, Bool.bne_false, Bool.true_beq, Bool.false_beq, Bool.not_true, Bool.not_false, Bool.not_not, Int.reduceBEq, Int.reduceBNe, Int.reduceLE, Int.reduceLT, Int.reduceEq, decide_true, decide_false]; rfl)))
    | with_reducible first | refine spB_no (by decide) ?_
    | (with_reducible refine spB_dec ?_ ?_ <;> intro _ <;> (try (exfalso; first | contradiction | omega | (rename_i hz; refine hz ?_; simp; done) | (rename_i hz; simp at hz; done) | (simp only [LN] at *; omega))))
    | ((with_reducible refine apdE_k ?_); (with_reducible refine apkN.mk ⟨_, rfl, ?_⟩ ?_); (focus (simp; done)); (with_reducible refine apdN.mk ?_ ?_ ?_ ?_ ?_ ?_); (focus rfl); (focus (exact one_all (by rfl))); (focus (show _ ≤ (List.map _ _).length; simp; done)); (focus ((try simp only [LN] at *) <;> omega)); (focus ((try simp only [LN] at *) <;> omega)))
    | with_reducible refine wr_u64 (by omega) ?_
    | with_reducible first | refine Z.callZ_in tabOk 25 Try.f50 _ Try.func50 (by kernel_rfl) rfl rfl rfl ?_ | refine Z.callZ_in tabOk 43 Try.f51 _ Try.func51 (by kernel_rfl) rfl rfl rfl ?_ | refine Z.callZ_in tabOk 10 Try.f47 _ Try.func47 (by kernel_rfl) rfl rfl rfl ?_
    | ((first | (with_reducible refine Z.callZ_mk ?_ (ce) ?_) | (with_reducible refine Z.callZ_mk ?_ (ck) ?_) | (with_reducible refine Z.callZ_mk ?_ (cc) ?_)); (focus ((repeat' (first | exact trivial | exact rfl | apply And.intro)); done)))
    | ((with_reducible apply ex_and); exact rfl)
    | with_reducible first | refine Z.drawZ_rule tabOk mixOk ?_ | refine Z.apZ_mk (by kernel_rfl) ?_)
  all_goals (try (conv => whnf))
  all_goals try (show Nat.ble _ _ = true; rfl)
  all_goals try (exfalso; rename_i hz; cases hz; done)
  all_goals try (exfalso; (try simp only [LN] at *) <;> omega)
  all_goals first
    | (refine ret1b 8 (.tup [.agg [.v (.int .u32 n), .v (.int .u64 b), .osl 0 0 (q.length + 1) none, .v (.int .u64 l), .v (.bool (decide (e.kd = 3)))], .one (.v (.int .i64 0))]) ((q ++ [e]).map cE) 5 33 false _ rfl ?_ (by rfl) (app_own (ren_map fun _ => rfl) (by simp) rfl) (ren_map fun _ => rfl) rfl (own_map fun _ => rfl) ⟨rfl, rfl, rfl⟩; first | rfl | (simp; done))

end Go.Proofs.Ytoiadndmbppobaa
namespace Go.Proofs.Ytoiadndmbppobaa
open Go Go.RowKit Wx
set_option linter.unusedVariables false
set_option linter.unusedSimpArgs false
set_option maxHeartbeats 4000000
theorem acked_same (n b : Int) (q : List El) (l : Int) (d : Bool) (p : Pk) (hq : q.length ≤ 9223372036854775807) (hu : ∀ e ∈ q, 0 ≤ e.num) (hb0 : 0 ≤ b) (hl0 : 0 ≤ l) (hk : okS n b q l d = true) (hp1 : 0 ≤ p.sq) (hp2 : 0 ≤ p.lim) (hf : ¬ ackOf n b q p) : Con Try.prog 19 [.agg [.v (.int .u32 n), .v (.int .u64 b), .ro false 5 (q.map eE), .v (.int .u64 l), .v (.bool d)], .agg [.v (.int .i64 p.kd), .v (.int .u32 p.se), .v (.int .u64 p.sq), .v (.int .u64 p.lim), .v (.int .i64 p.e.kd), .v (.int .i64 p.e.src), .v (.int .i64 p.e.key), .v (.int .i64 p.e.val), .v (.int .u64 p.e.num)]] (fun rx rK rt => rx = .tup [.agg [.v (.int .u32 n), .v (.int .u64 b), .osl 0 0 q.length (some q.length), .v (.int .u64 l), .v (.bool d)], .one (.v (.int .i64 0))] ∧ rK = [(0, some ⟨(q).map cE, 5, 33, false⟩)] ∧ rt = 1) := by
  refine Z.con_ofZ tabOk 11 Try.f19 _ Try.func19 (by kernel_rfl) rfl rfl rfl rfl ?_
  have ck := checkS_con n b q l d hq hu hb0 hl0
  rw [hk] at ck
  simp only [cond_true] at ck
  have hs := okS_all hk
  have cc := copied_con q (by omega)
  by_cases ha : p = ⟨2, n, p.sq, p.lim, zE⟩
  · obtain ⟨a, c, hpe⟩ := ack_yes ha
    clear ha
    subst hpe
    dsimp only at hp1 hp2
    repeat' ((conv => whnf); first
      | with_reducible first | refine spB_t ?_
      | ((with_reducible apply spB_cong); (focus (simp only [beq_self_eq_true, bne_self_eq_false, Bool.true_bne, Bool.false_bne, Bool.bne_true, Bool.bne_false, Bool.true_beq, Bool.false_beq, Bool.not_true, Bool.not_false, Bool.not_not, Int.reduceBEq, Int.reduceBNe, Int.reduceLE, Int.reduceLT, Int.reduceEq, decide_true, decide_false]; rfl)))
      | with_reducible first | refine spB_yes (by decide) ?_ | refine spB_no (by decide) ?_ | refine spB_f ?_ | refine spB_not ?_ | refine spB_yes (by assumption) ?_ | refine spB_no (by assumption) ?_
      | (with_reducible refine spB_dec ?_ ?_ <;> intro _ <;> (try (exfalso; first | contradiction | omega | (rename_i hz; refine hz ?_; simp; done) | (rename_i hz; simp at hz; done) | (simp only [LN] at *; omega))))
      | (with_reducible refine spB_beq ?_ ?_ <;> intro _ <;> (try (exfalso; first | contradiction | omega | (rename_i hz; refine hz ?_; simp; done) | (rename_i hz; simp at hz; done) | (simp only [LN] at *; omega))))
      | (with_reducible refine spB_bne ?_ ?_ <;> intro _ <;> (try (exfalso; first | contradiction | omega | (rename_i hz; refine hz ?_; simp; done) | (rename_i hz; simp at hz; done) | (simp only [LN] at *; omega))))
      | (with_reducible refine spB_mk ?_ ?_ <;> intro _ <;> (try (exfalso; first | contradiction | omega | (rename_i hz; refine hz ?_; simp; done) | (rename_i hz; simp at hz; done) | (simp only [LN] at *; omega))))
      | ((with_reducible apply rowN_mk); (focus rfl))
      | ((with_reducible apply ixN_lit); (focus (exact rfl)); (focus (exact rfl)))
      | ((with_reducible apply ixN_litp); (focus (exact rfl)); (focus ((try simp only [LN] at *) <;> omega)))
      | ((with_reducible refine eqN_mk2 ?_ ?_); (focus rfl))
      | ((with_reducible refine posN_mk2 ?_ ?_); (focus (first | decide | ((try simp only [LN] at *) <;> omega))))
      | ((with_reducible refine slE_a ?_ ?_); (focus ((try simp only [LN] at *) <;> omega)))
      | ((with_reducible refine slE_b ?_ ?_); (focus ((try simp only [LN] at *) <;> omega)))
      | ((with_reducible refine slE_split ?_ ?_ ?_); (focus ((try simp only [LN] at *) <;> omega)); (all_goals intro _))
      | with_reducible refine wr_i64 (by first | omega | (simp only [LN] at *; omega)) ?_
      | with_reducible refine wr_u64 (by omega) ?_
      | with_reducible refine wr_u8 (by omega) ?_
      | with_reducible refine wr_u32 (by omega) ?_
      | with_reducible first | refine wr_mk _ rfl ?_
      | ((with_reducible refine ixN_nat ?_ ?_); (focus ((try simp only [LN] at *) <;> omega)))
      | ((with_reducible refine rowN_map ?_ ?_); (focus ((try simp only [LN] at *) <;> omega)); intro x hx)
      | with_reducible refine eqN_dec (by omega) ?_
      | with_reducible first | refine apN_mk (by kernel_rfl) ?_ | refine Z.callZ_in tabOk 25 Try.f50 _ Try.func50 (by kernel_rfl) rfl rfl rfl ?_ | refine Z.callZ_in tabOk 76 Try.f55 _ Try.func55 (by kernel_rfl) rfl rfl rfl ?_ | refine Z.callZ_in tabOk 10 Try.f47 _ Try.func47 (by kernel_rfl) rfl rfl rfl ?_
      | ((first | (with_reducible refine Z.conZ_mz ?_ (ck) ?_) | (with_reducible refine Z.callZ_mk ?_ (ck) ?_)); (focus ((repeat' (first | exact trivial | (refine low_drp (ren_map fun _ => rfl) ?_ ?_; (focus (simp; done)); (simp; done)) | exact rfl | exact Z.low_nil | exact Z.low_nil2 | exact low_osl (fun _ => rfl) | (refine Z.low_osln ?_ (fun _ => rfl); (simp only [List.length_map]; done)) | exact low_oslr (fun _ => rfl) | exact Z.low_gslm (by first | rfl | exact Z.kb_some rfl) (fun _ => rfl) | exact .inl rfl | exact .inr ⟨_, rfl⟩ | apply And.intro)); done)))
      | ((first | (with_reducible refine Z.conZ_mz ?_ (cc) ?_) | (with_reducible refine Z.callZ_mk ?_ (cc) ?_)); (focus ((repeat' (first | exact trivial | (refine low_drp (ren_map fun _ => rfl) ?_ ?_; (focus (simp; done)); (simp; done)) | exact rfl | exact Z.low_nil | exact Z.low_nil2 | exact low_osl (fun _ => rfl) | (refine Z.low_osln ?_ (fun _ => rfl); (simp only [List.length_map]; done)) | exact low_oslr (fun _ => rfl) | exact Z.low_gslm (by first | rfl | exact Z.kb_some rfl) (fun _ => rfl) | exact .inl rfl | exact .inr ⟨_, rfl⟩ | apply And.intro)); done)))
      | ((first | (with_reducible refine Z.conZ_mz ?_ (cc2) ?_) | (with_reducible refine Z.callZ_mk ?_ (cc2) ?_)); (focus ((repeat' (first | exact trivial | (refine low_drp (ren_map fun _ => rfl) ?_ ?_; (focus (simp; done)); (simp; done)) | exact rfl | exact Z.low_nil | exact Z.low_nil2 | exact low_osl (fun _ => rfl) | (refine Z.low_osln ?_ (fun _ => rfl); (simp only [List.length_map]; done)) | exact low_oslr (fun _ => rfl) | exact Z.low_gslm (by first | rfl | exact Z.kb_some rfl) (fun _ => rfl) | exact .inl rfl | exact .inr ⟨_, rfl⟩ | apply And.intro)); done)))
      | ((with_reducible refine eqN_mk2 ?_ ?_); (focus (exact Z.kb_some rfl)))
      | ((with_reducible apply ex_and); exact rfl)
      | with_reducible first | refine Z.drawZ_rule tabOk mixOk ?_ | refine Z.apZ_mk (by kernel_rfl) ?_
      | ((with_reducible refine Z.ConZ.red ?_); (try subst hlb); (apply Z.conZ_all); (focus (repeat (first | exact Z.FK.nil | (apply Z.FK.keep; exact rfl)))); (focus rfl); (focus rfl); (focus (repeat (first | exact trivial | (refine ⟨(fun o ho => (by first | (cases ho; rfl) | (cases ho; exact Z.inL_map fun _ => rfl) | (cases ho; exact Z.inL_mapr fun _ => rfl) | exact Z.inL_gB ho fun _ => rfl)), ?_⟩)))))
      | ((refine ⟨rfl, ?_, rfl⟩); (focus (repeat (first | exact Z.DK.nil | apply Z.DK.cons))))
      | (focus (exact (rfl : Nat.ble _ _ = true))))
    all_goals (try (conv => whnf))
    all_goals try (show Nat.ble _ _ = true; rfl)
    all_goals try (exfalso; rename_i hz; cases hz; done)
    all_goals try (exfalso; (try simp only [LN] at *) <;> omega)
    all_goals first
      | (refine ret1b 5 (.tup [.agg [.v (.int .u32 n), .v (.int .u64 b), .osl 0 0 q.length (some q.length), .v (.int .u64 l), .v (.bool d)], .one (.v (.int .i64 0))]) (q.map cE) 5 33 false _ rfl ?_ (by rfl) (ren_map fun _ => rfl) (ren_map fun _ => rfl) rfl (own_map fun _ => rfl) ⟨rfl, rfl, rfl⟩; first | rfl | (simp; done))
      | (refine ret1b 6 (.tup [.agg [.v (.int .u32 n), .v (.int .u64 b), .osl 0 0 q.length (some q.length), .v (.int .u64 l), .v (.bool d)], .one (.v (.int .i64 0))]) (q.map cE) 5 33 false _ rfl ?_ (by rfl) (ren_map fun _ => rfl) (ren_map fun _ => rfl) rfl (own_map fun _ => rfl) ⟨rfl, rfl, rfl⟩; first | rfl | (simp; done))
      | (refine ret1b 7 (.tup [.agg [.v (.int .u32 n), .v (.int .u64 b), .osl 0 0 q.length (some q.length), .v (.int .u64 l), .v (.bool d)], .one (.v (.int .i64 0))]) (q.map cE) 5 33 false _ rfl ?_ (by rfl) (ren_map fun _ => rfl) (ren_map fun _ => rfl) rfl (own_map fun _ => rfl) ⟨rfl, rfl, rfl⟩; first | rfl | (simp; done))
      | (refine ret1b 8 (.tup [.agg [.v (.int .u32 n), .v (.int .u64 b), .osl 0 0 q.length (some q.length), .v (.int .u64 l), .v (.bool d)], .one (.v (.int .i64 0))]) (q.map cE) 5 33 false _ rfl ?_ (by rfl) (ren_map fun _ => rfl) (ren_map fun _ => rfl) rfl (own_map fun _ => rfl) ⟨rfl, rfl, rfl⟩; first | rfl | (simp; done))
      | (refine ret1b 9 (.tup [.agg [.v (.int .u32 n), .v (.int .u64 b), .osl 0 0 q.length (some q.length), .v (.int .u64 l), .v (.bool d)], .one (.v (.int .i64 0))]) (q.map cE) 5 33 false _ rfl ?_ (by rfl) (ren_map fun _ => rfl) (ren_map fun _ => rfl) rfl (own_map fun _ => rfl) ⟨rfl, rfl, rfl⟩; first | rfl | (simp; done))
      | (refine ret1b 10 (.tup [.agg [.v (.int .u32 n), .v (.int .u64 b), .osl 0 0 q.length (some q.length), .v (.int .u64 l), .v (.bool d)], .one (.v (.int .i64 0))]) (q.map cE) 5 33 false _ rfl ?_ (by rfl) (ren_map fun _ => rfl) (ren_map fun _ => rfl) rfl (own_map fun _ => rfl) ⟨rfl, rfl, rfl⟩; first | rfl | (simp; done))
      | (exfalso; refine hf ⟨rfl, ?_⟩; dsimp only; (try simp only [LN] at *) <;> omega)
      | (exfalso; exact ha (ack_no (by assumption)))
      | (exfalso; rename_i hz; cases hz; done)
      | (exfalso; (try simp only [LN] at *) <;> omega)
      | (fail)
  repeat' ((conv => whnf); first
    | with_reducible first | refine spB_t ?_
    | ((with_reducible apply spB_cong); (focus (simp only [beq_self_eq_true, bne_self_eq_false, Bool.true_bne, Bool.false_bne, Bool.bne_true, Bool.bne_false, Bool.true_beq, Bool.false_beq, Bool.not_true, Bool.not_false, Bool.not_not, Int.reduceBEq, Int.reduceBNe, Int.reduceLE, Int.reduceLT, Int.reduceEq, decide_true, decide_false]; rfl)))
    | with_reducible first | refine spB_yes (by decide) ?_ | refine spB_no (by decide) ?_ | refine spB_f ?_ | refine spB_not ?_ | refine spB_yes (by assumption) ?_ | refine spB_no (by assumption) ?_
    | (with_reducible refine spB_dec ?_ ?_ <;> intro _ <;> (try (exfalso; first | contradiction | omega | (rename_i hz; refine hz ?_; simp; done) | (rename_i hz; simp at hz; done) | (simp only [LN] at *; omega) | (exact ha (ack_no (by assumption))))))
    | (with_reducible refine spB_beq ?_ ?_ <;> intro _ <;> (try (exfalso; first | contradiction | omega | (rename_i hz; refine hz ?_; simp; done) | (rename_i hz; simp at hz; done) | (simp only [LN] at *; omega) | (exact ha (ack_no (by assumption))))))
    | (with_reducible refine spB_bne ?_ ?_ <;> intro _ <;> (try (exfalso; first | contradiction | omega | (rename_i hz; refine hz ?_; simp; done) | (rename_i hz; simp at hz; done) | (simp only [LN] at *; omega) | (exact ha (ack_no (by assumption))))))
    | (with_reducible refine spB_mk ?_ ?_ <;> intro _ <;> (try (exfalso; first | contradiction | omega | (rename_i hz; refine hz ?_; simp; done) | (rename_i hz; simp at hz; done) | (simp only [LN] at *; omega) | (exact ha (ack_no (by assumption))))))
    | ((with_reducible apply rowN_mk); (focus rfl))
    | ((with_reducible apply ixN_lit); (focus (exact rfl)); (focus (exact rfl)))
    | ((with_reducible apply ixN_litp); (focus (exact rfl)); (focus ((try simp only [LN] at *) <;> omega)))
    | ((with_reducible refine eqN_mk2 ?_ ?_); (focus rfl))
    | ((with_reducible refine posN_mk2 ?_ ?_); (focus (first | decide | ((try simp only [LN] at *) <;> omega))))
    | ((with_reducible refine slE_a ?_ ?_); (focus ((try simp only [LN] at *) <;> omega)))
    | ((with_reducible refine slE_b ?_ ?_); (focus ((try simp only [LN] at *) <;> omega)))
    | ((with_reducible refine slE_split ?_ ?_ ?_); (focus ((try simp only [LN] at *) <;> omega)); (all_goals intro _))
    | with_reducible refine wr_i64 (by first | omega | (simp only [LN] at *; omega)) ?_
    | with_reducible refine wr_u64 (by omega) ?_
    | with_reducible refine wr_u8 (by omega) ?_
    | with_reducible refine wr_u32 (by omega) ?_
    | with_reducible first | refine wr_mk _ rfl ?_
    | ((with_reducible refine ixN_nat ?_ ?_); (focus ((try simp only [LN] at *) <;> omega)))
    | ((with_reducible refine rowN_map ?_ ?_); (focus ((try simp only [LN] at *) <;> omega)); intro x hx)
    | with_reducible refine eqN_dec (by omega) ?_
    | with_reducible first | refine apN_mk (by kernel_rfl) ?_ | refine Z.callZ_in tabOk 25 Try.f50 _ Try.func50 (by kernel_rfl) rfl rfl rfl ?_ | refine Z.callZ_in tabOk 76 Try.f55 _ Try.func55 (by kernel_rfl) rfl rfl rfl ?_ | refine Z.callZ_in tabOk 10 Try.f47 _ Try.func47 (by kernel_rfl) rfl rfl rfl ?_
    | ((first | (with_reducible refine Z.conZ_mz ?_ (ck) ?_) | (with_reducible refine Z.callZ_mk ?_ (ck) ?_)); (focus ((repeat' (first | exact trivial | (refine low_drp (ren_map fun _ => rfl) ?_ ?_; (focus (simp; done)); (simp; done)) | exact rfl | exact Z.low_nil | exact Z.low_nil2 | exact low_osl (fun _ => rfl) | (refine Z.low_osln ?_ (fun _ => rfl); (simp only [List.length_map]; done)) | exact low_oslr (fun _ => rfl) | exact Z.low_gslm (by first | rfl | exact Z.kb_some rfl) (fun _ => rfl) | exact .inl rfl | exact .inr ⟨_, rfl⟩ | apply And.intro)); done)))
    | ((first | (with_reducible refine Z.conZ_mz ?_ (cc) ?_) | (with_reducible refine Z.callZ_mk ?_ (cc) ?_)); (focus ((repeat' (first | exact trivial | (refine low_drp (ren_map fun _ => rfl) ?_ ?_; (focus (simp; done)); (simp; done)) | exact rfl | exact Z.low_nil | exact Z.low_nil2 | exact low_osl (fun _ => rfl) | (refine Z.low_osln ?_ (fun _ => rfl); (simp only [List.length_map]; done)) | exact low_oslr (fun _ => rfl) | exact Z.low_gslm (by first | rfl | exact Z.kb_some rfl) (fun _ => rfl) | exact .inl rfl | exact .inr ⟨_, rfl⟩ | apply And.intro)); done)))
    | ((first | (with_reducible refine Z.conZ_mz ?_ (cc2) ?_) | (with_reducible refine Z.callZ_mk ?_ (cc2) ?_)); (focus ((repeat' (first | exact trivial | (refine low_drp (ren_map fun _ => rfl) ?_ ?_; (focus (simp; done)); (simp; done)) | exact rfl | exact Z.low_nil | exact Z.low_nil2 | exact low_osl (fun _ => rfl) | (refine Z.low_osln ?_ (fun _ => rfl); (simp only [List.length_map]; done)) | exact low_oslr (fun _ => rfl) | exact Z.low_gslm (by first | rfl | exact Z.kb_some rfl) (fun _ => rfl) | exact .inl rfl | exact .inr ⟨_, rfl⟩ | apply And.intro)); done)))
    | ((with_reducible refine eqN_mk2 ?_ ?_); (focus (exact Z.kb_some rfl)))
    | ((with_reducible apply ex_and); exact rfl)
    | with_reducible first | refine Z.drawZ_rule tabOk mixOk ?_ | refine Z.apZ_mk (by kernel_rfl) ?_
    | ((with_reducible refine Z.ConZ.red ?_); (try subst hlb); (apply Z.conZ_all); (focus (repeat (first | exact Z.FK.nil | (apply Z.FK.keep; exact rfl)))); (focus rfl); (focus rfl); (focus (repeat (first | exact trivial | (refine ⟨(fun o ho => (by first | (cases ho; rfl) | (cases ho; exact Z.inL_map fun _ => rfl) | (cases ho; exact Z.inL_mapr fun _ => rfl) | exact Z.inL_gB ho fun _ => rfl)), ?_⟩)))))
    | ((refine ⟨rfl, ?_, rfl⟩); (focus (repeat (first | exact Z.DK.nil | apply Z.DK.cons))))
    | (focus (exact (rfl : Nat.ble _ _ = true))))
  all_goals (try (conv => whnf))
  all_goals try (show Nat.ble _ _ = true; rfl)
  all_goals try (exfalso; rename_i hz; cases hz; done)
  all_goals try (exfalso; (try simp only [LN] at *) <;> omega)
  all_goals first
    | (refine ret1b 5 (.tup [.agg [.v (.int .u32 n), .v (.int .u64 b), .osl 0 0 q.length (some q.length), .v (.int .u64 l), .v (.bool d)], .one (.v (.int .i64 0))]) (q.map cE) 5 33 false _ rfl ?_ (by rfl) (ren_map fun _ => rfl) (ren_map fun _ => rfl) rfl (own_map fun _ => rfl) ⟨rfl, rfl, rfl⟩; first | rfl | (simp; done))
    | (refine ret1b 6 (.tup [.agg [.v (.int .u32 n), .v (.int .u64 b), .osl 0 0 q.length (some q.length), .v (.int .u64 l), .v (.bool d)], .one (.v (.int .i64 0))]) (q.map cE) 5 33 false _ rfl ?_ (by rfl) (ren_map fun _ => rfl) (ren_map fun _ => rfl) rfl (own_map fun _ => rfl) ⟨rfl, rfl, rfl⟩; first | rfl | (simp; done))
    | (refine ret1b 7 (.tup [.agg [.v (.int .u32 n), .v (.int .u64 b), .osl 0 0 q.length (some q.length), .v (.int .u64 l), .v (.bool d)], .one (.v (.int .i64 0))]) (q.map cE) 5 33 false _ rfl ?_ (by rfl) (ren_map fun _ => rfl) (ren_map fun _ => rfl) rfl (own_map fun _ => rfl) ⟨rfl, rfl, rfl⟩; first | rfl | (simp; done))
    | (refine ret1b 8 (.tup [.agg [.v (.int .u32 n), .v (.int .u64 b), .osl 0 0 q.length (some q.length), .v (.int .u64 l), .v (.bool d)], .one (.v (.int .i64 0))]) (q.map cE) 5 33 false _ rfl ?_ (by rfl) (ren_map fun _ => rfl) (ren_map fun _ => rfl) rfl (own_map fun _ => rfl) ⟨rfl, rfl, rfl⟩; first | rfl | (simp; done))
    | (refine ret1b 9 (.tup [.agg [.v (.int .u32 n), .v (.int .u64 b), .osl 0 0 q.length (some q.length), .v (.int .u64 l), .v (.bool d)], .one (.v (.int .i64 0))]) (q.map cE) 5 33 false _ rfl ?_ (by rfl) (ren_map fun _ => rfl) (ren_map fun _ => rfl) rfl (own_map fun _ => rfl) ⟨rfl, rfl, rfl⟩; first | rfl | (simp; done))
    | (refine ret1b 10 (.tup [.agg [.v (.int .u32 n), .v (.int .u64 b), .osl 0 0 q.length (some q.length), .v (.int .u64 l), .v (.bool d)], .one (.v (.int .i64 0))]) (q.map cE) 5 33 false _ rfl ?_ (by rfl) (ren_map fun _ => rfl) (ren_map fun _ => rfl) rfl (own_map fun _ => rfl) ⟨rfl, rfl, rfl⟩; first | rfl | (simp; done))
    | (exfalso; refine hf ⟨rfl, ?_⟩; dsimp only; (try simp only [LN] at *) <;> omega)
    | (exfalso; exact ha (ack_no (by assumption)))
    | (exfalso; rename_i hz; cases hz; done)
    | (exfalso; (try simp only [LN] at *) <;> omega)
    | (fail)

theorem acked_own (n b : Int) (q : List El) (l : Int) (d : Bool) (k : Nat) (c : Int) (hq : q.length ≤ 9223372036854775807) (hu : ∀ e ∈ q, 0 ≤ e.num) (hb0 : 0 ≤ b) (hl0 : 0 ≤ l) (hk : okS n b q l d = true) (hc : 0 ≤ c) (hf1 : k ≤ q.length) (hf3 : b + (k : Int) ≤ 4611686018427387904) (hf4 : c ≤ 4611686018427387904) : Con Try.prog 19 [.agg [.v (.int .u32 n), .v (.int .u64 b), .ro false 5 (q.map eE), .v (.int .u64 l), .v (.bool d)], .agg [.v (.int .i64 2), .v (.int .u32 n), .v (.int .u64 (b + (k : Int))), .v (.int .u64 c), .v (.int .i64 0), .v (.int .i64 0), .v (.int .i64 0), .v (.int .i64 0), .v (.int .u64 0)]] (fun rx rK rt => rx = .tup [.agg [.v (.int .u32 n), .v (.int .u64 (b + (k : Int))), .osl 0 0 (q.length - k) (some (q.length - k)), .v (.int .u64 (max l c)), .v (.bool d)], .one (.v (.int .i64 0))] ∧ rK = [(0, some ⟨(q.drop k).map cE, 5, 33, false⟩)] ∧ rt = 1) := by
  refine Z.con_ofZ tabOk 11 Try.f19 _ Try.func19 (by kernel_rfl) rfl rfl rfl rfl ?_
  have ck := checkS_con n b q l d hq hu hb0 hl0
  rw [hk] at ck
  simp only [cond_true] at ck
  have hs := okS_all hk
  have cc := copied_con q (by omega)
  have cc2 := copied_con (q.drop k) (by rw [List.length_drop]; omega)
  have hdl : (q.drop k).length = q.length - k := List.length_drop
  rw [hdl] at cc2
  rcases Nat.lt_or_ge k q.length with hkl | hkl
  rotate_left
  · have e2 : q.drop k = [] := List.drop_eq_nil_of_le hkl
    have hkq : k = q.length := by omega
    have e3 : q.length - k = 0 := by omega
    rw [e2, e3] at cc2
    rw [e2, e3]
    repeat' ((conv => whnf); first
      | with_reducible first | refine spB_t ?_
      | ((with_reducible apply spB_cong); (focus (simp only [beq_self_eq_true, bne_self_eq_false, Bool.true_bne, Bool.false_bne, Bool.bne_true, Bool.bne_false, Bool.true_beq, Bool.false_beq, Bool.not_true, Bool.not_false, Bool.not_not, Int.reduceBEq, Int.reduceBNe, Int.reduceLE, Int.reduceLT, Int.reduceEq, decide_true, decide_false]; rfl)))
      | with_reducible first | refine spB_yes (by decide) ?_ | refine spB_no (by decide) ?_ | refine spB_f ?_ | refine spB_not ?_ | refine spB_yes (by assumption) ?_ | refine spB_no (by assumption) ?_
      | (with_reducible refine spB_dec ?_ ?_ <;> intro _ <;> (try (exfalso; first | contradiction | omega | (rename_i hz; refine hz ?_; simp; done) | (rename_i hz; simp at hz; done) | (simp only [LN] at *; omega))))
      | (with_reducible refine spB_beq ?_ ?_ <;> intro _ <;> (try (exfalso; first | contradiction | omega | (rename_i hz; refine hz ?_; simp; done) | (rename_i hz; simp at hz; done) | (simp only [LN] at *; omega))))
      | (with_reducible refine spB_bne ?_ ?_ <;> intro _ <;> (try (exfalso; first | contradiction | omega | (rename_i hz; refine hz ?_; simp; done) | (rename_i hz; simp at hz; done) | (simp only [LN] at *; omega))))
      | (with_reducible refine spB_mk ?_ ?_ <;> intro _ <;> (try (exfalso; first | contradiction | omega | (rename_i hz; refine hz ?_; simp; done) | (rename_i hz; simp at hz; done) | (simp only [LN] at *; omega))))
      | ((with_reducible refine Z.slN_lo k ?_ ?_ ?_); (focus (first | rfl | omega)); (focus ((try simp only [LN] at *) <;> omega)))
      | ((with_reducible apply rowN_mk); (focus rfl))
      | ((with_reducible apply ixN_lit); (focus (exact rfl)); (focus (exact rfl)))
      | ((with_reducible apply ixN_litp); (focus (exact rfl)); (focus ((try simp only [LN] at *) <;> omega)))
      | ((with_reducible refine eqN_mk2 ?_ ?_); (focus rfl))
      | ((with_reducible refine posN_mk2 ?_ ?_); (focus (first | decide | ((try simp only [LN] at *) <;> omega))))
      | ((with_reducible refine slE_a ?_ ?_); (focus ((try simp only [LN] at *) <;> omega)))
      | ((with_reducible refine slE_b ?_ ?_); (focus ((try simp only [LN] at *) <;> omega)))
      | ((with_reducible refine slE_split ?_ ?_ ?_); (focus ((try simp only [LN] at *) <;> omega)); (all_goals intro _))
      | with_reducible refine wr_i64 (by first | omega | (simp only [LN] at *; omega)) ?_
      | with_reducible refine wr_u64 (by omega) ?_
      | with_reducible refine wr_u8 (by omega) ?_
      | with_reducible refine wr_u32 (by omega) ?_
      | with_reducible first | refine wr_mk _ rfl ?_
      | ((with_reducible refine ixN_nat ?_ ?_); (focus ((try simp only [LN] at *) <;> omega)))
      | ((with_reducible refine rowN_map ?_ ?_); (focus ((try simp only [LN] at *) <;> omega)); intro x hx)
      | with_reducible refine eqN_dec (by omega) ?_
      | with_reducible first | refine apN_mk (by kernel_rfl) ?_ | refine Z.callZ_in tabOk 25 Try.f50 _ Try.func50 (by kernel_rfl) rfl rfl rfl ?_ | refine Z.callZ_in tabOk 76 Try.f55 _ Try.func55 (by kernel_rfl) rfl rfl rfl ?_ | refine Z.callZ_in tabOk 10 Try.f47 _ Try.func47 (by kernel_rfl) rfl rfl rfl ?_
      | ((first | (with_reducible refine Z.conZ_mz ?_ (ck) ?_) | (with_reducible refine Z.callZ_mk ?_ (ck) ?_)); (focus ((repeat' (first | exact trivial | (refine low_drp (ren_map fun _ => rfl) ?_ ?_; (focus (simp; done)); (simp; done)) | exact rfl | exact Z.low_nil | exact Z.low_nil2 | exact low_osl (fun _ => rfl) | (refine Z.low_osln ?_ (fun _ => rfl); (simp only [List.length_map]; done)) | exact low_oslr (fun _ => rfl) | exact Z.low_gslm (by first | rfl | exact Z.kb_some rfl) (fun _ => rfl) | exact .inl rfl | exact .inr ⟨_, rfl⟩ | apply And.intro)); done)))
      | ((first | (with_reducible refine Z.conZ_mz ?_ (cc) ?_) | (with_reducible refine Z.callZ_mk ?_ (cc) ?_)); (focus ((repeat' (first | exact trivial | (refine low_drp (ren_map fun _ => rfl) ?_ ?_; (focus (simp; done)); (simp; done)) | exact rfl | exact Z.low_nil | exact Z.low_nil2 | exact low_osl (fun _ => rfl) | (refine Z.low_osln ?_ (fun _ => rfl); (simp only [List.length_map]; done)) | exact low_oslr (fun _ => rfl) | exact Z.low_gslm (by first | rfl | exact Z.kb_some rfl) (fun _ => rfl) | exact .inl rfl | exact .inr ⟨_, rfl⟩ | apply And.intro)); done)))
      | ((first | (with_reducible refine Z.conZ_mz ?_ (cc2) ?_) | (with_reducible refine Z.callZ_mk ?_ (cc2) ?_)); (focus ((repeat' (first | exact trivial | (refine low_drp (ren_map fun _ => rfl) ?_ ?_; (focus (simp; done)); (simp; done)) | exact rfl | exact Z.low_nil | exact Z.low_nil2 | exact low_osl (fun _ => rfl) | (refine Z.low_osln ?_ (fun _ => rfl); (simp only [List.length_map]; done)) | exact low_oslr (fun _ => rfl) | exact Z.low_gslm (by first | rfl | exact Z.kb_some rfl) (fun _ => rfl) | exact .inl rfl | exact .inr ⟨_, rfl⟩ | apply And.intro)); done)))
      | ((with_reducible refine eqN_mk2 ?_ ?_); (focus (exact Z.kb_some rfl)))
      | ((with_reducible apply ex_and); exact rfl)
      | with_reducible first | refine Z.drawZ_rule tabOk mixOk ?_ | refine Z.apZ_mk (by kernel_rfl) ?_
      | ((with_reducible refine Z.ConZ.red ?_); (try subst hlb); (apply Z.conZ_all); (focus (repeat (first | exact Z.FK.nil | (apply Z.FK.keep; exact rfl)))); (focus rfl); (focus rfl); (focus (repeat (first | exact trivial | (refine ⟨(fun o ho => (by first | (cases ho; rfl) | (cases ho; exact Z.inL_map fun _ => rfl) | (cases ho; exact Z.inL_mapr fun _ => rfl) | exact Z.inL_gB ho fun _ => rfl)), ?_⟩)))))
      | ((refine ⟨rfl, ?_, rfl⟩); (focus (repeat (first | exact Z.DK.nil | apply Z.DK.cons))))
      | (focus (exact (rfl : Nat.ble _ _ = true))))
    all_goals (try (conv => whnf))
    all_goals try (show Nat.ble _ _ = true; rfl)
    all_goals try (exfalso; rename_i hz; cases hz; done)
    all_goals try (exfalso; (try simp only [LN] at *) <;> omega)
    all_goals first
      | (refine ret1b 5 (.tup [.agg [.v (.int .u32 n), .v (.int .u64 (b + (k : Int))), .osl 0 0 0 (some 0), .v (.int .u64 (max l c)), .v (.bool d)], .one (.v (.int .i64 0))]) (([] : List El).map cE) 5 33 false _ rfl ?_ (by rfl) (rfl) (ren_map fun _ => rfl) rfl (own_map fun _ => rfl) ⟨rfl, rfl, rfl⟩; first | rfl | (simp; done))
      | (refine ret1b 6 (.tup [.agg [.v (.int .u32 n), .v (.int .u64 (b + (k : Int))), .osl 0 0 0 (some 0), .v (.int .u64 (max l c)), .v (.bool d)], .one (.v (.int .i64 0))]) (([] : List El).map cE) 5 33 false _ rfl ?_ (by rfl) (rfl) (ren_map fun _ => rfl) rfl (own_map fun _ => rfl) ⟨rfl, rfl, rfl⟩; first | rfl | (simp; done))
      | (refine ret1b 7 (.tup [.agg [.v (.int .u32 n), .v (.int .u64 (b + (k : Int))), .osl 0 0 0 (some 0), .v (.int .u64 (max l c)), .v (.bool d)], .one (.v (.int .i64 0))]) (([] : List El).map cE) 5 33 false _ rfl ?_ (by rfl) (rfl) (ren_map fun _ => rfl) rfl (own_map fun _ => rfl) ⟨rfl, rfl, rfl⟩; first | rfl | (simp; done))
      | (refine ret1b 8 (.tup [.agg [.v (.int .u32 n), .v (.int .u64 (b + (k : Int))), .osl 0 0 0 (some 0), .v (.int .u64 (max l c)), .v (.bool d)], .one (.v (.int .i64 0))]) (([] : List El).map cE) 5 33 false _ rfl ?_ (by rfl) (rfl) (ren_map fun _ => rfl) rfl (own_map fun _ => rfl) ⟨rfl, rfl, rfl⟩; first | rfl | (simp; done))
      | (refine ret1b 9 (.tup [.agg [.v (.int .u32 n), .v (.int .u64 (b + (k : Int))), .osl 0 0 0 (some 0), .v (.int .u64 (max l c)), .v (.bool d)], .one (.v (.int .i64 0))]) (([] : List El).map cE) 5 33 false _ rfl ?_ (by rfl) (rfl) (ren_map fun _ => rfl) rfl (own_map fun _ => rfl) ⟨rfl, rfl, rfl⟩; first | rfl | (simp; done))
      | (refine ret1b 10 (.tup [.agg [.v (.int .u32 n), .v (.int .u64 (b + (k : Int))), .osl 0 0 0 (some 0), .v (.int .u64 (max l c)), .v (.bool d)], .one (.v (.int .i64 0))]) (([] : List El).map cE) 5 33 false _ rfl ?_ (by rfl) (rfl) (ren_map fun _ => rfl) rfl (own_map fun _ => rfl) ⟨rfl, rfl, rfl⟩; first | rfl | (simp; done))
      | (exfalso; rename_i hz; cases hz; done)
      | (exfalso; (try simp only [LN] at *) <;> omega)
      | (fail)
  repeat' ((conv => whnf); first
    | with_reducible first | refine spB_t ?_
    | ((with_reducible apply spB_cong); (focus (simp only [beq_self_eq_true, bne_self_eq_false, Bool.true_bne, Bool.false_bne, Bool.bne_true, Bool.bne_false, Bool.true_beq, Bool.false_beq, Bool.not_true, Bool.not_false, Bool.not_not, Int.reduceBEq, Int.reduceBNe, Int.reduceLE, Int.reduceLT, Int.reduceEq, decide_true, decide_false]; rfl)))
    | with_reducible first | refine spB_yes (by decide) ?_ | refine spB_no (by decide) ?_ | refine spB_f ?_ | refine spB_not ?_ | refine spB_yes (by assumption) ?_ | refine spB_no (by assumption) ?_
    | (with_reducible refine spB_dec ?_ ?_ <;> intro _ <;> (try (exfalso; first | contradiction | omega | (rename_i hz; refine hz ?_; simp; done) | (rename_i hz; simp at hz; done) | (simp only [LN] at *; omega))))
    | (with_reducible refine spB_beq ?_ ?_ <;> intro _ <;> (try (exfalso; first | contradiction | omega | (rename_i hz; refine hz ?_; simp; done) | (rename_i hz; simp at hz; done) | (simp only [LN] at *; omega))))
    | (with_reducible refine spB_bne ?_ ?_ <;> intro _ <;> (try (exfalso; first | contradiction | omega | (rename_i hz; refine hz ?_; simp; done) | (rename_i hz; simp at hz; done) | (simp only [LN] at *; omega))))
    | (with_reducible refine spB_mk ?_ ?_ <;> intro _ <;> (try (exfalso; first | contradiction | omega | (rename_i hz; refine hz ?_; simp; done) | (rename_i hz; simp at hz; done) | (simp only [LN] at *; omega))))
    | ((with_reducible refine Z.slN_lo k ?_ ?_ ?_); (focus (first | rfl | omega)); (focus ((try simp only [LN] at *) <;> omega)))
    | ((with_reducible apply rowN_mk); (focus rfl))
    | ((with_reducible apply ixN_lit); (focus (exact rfl)); (focus (exact rfl)))
    | ((with_reducible apply ixN_litp); (focus (exact rfl)); (focus ((try simp only [LN] at *) <;> omega)))
    | ((with_reducible refine eqN_mk2 ?_ ?_); (focus rfl))
    | ((with_reducible refine posN_mk2 ?_ ?_); (focus (first | decide | ((try simp only [LN] at *) <;> omega))))
    | ((with_reducible refine slE_a ?_ ?_); (focus ((try simp only [LN] at *) <;> omega)))
    | ((with_reducible refine slE_b ?_ ?_); (focus ((try simp only [LN] at *) <;> omega)))
    | ((with_reducible refine slE_split ?_ ?_ ?_); (focus ((try simp only [LN] at *) <;> omega)); (all_goals intro _))
    | with_reducible refine wr_i64 (by first | omega | (simp only [LN] at *; omega)) ?_
    | with_reducible refine wr_u64 (by omega) ?_
    | with_reducible refine wr_u8 (by omega) ?_
    | with_reducible refine wr_u32 (by omega) ?_
    | with_reducible first | refine wr_mk _ rfl ?_
    | ((with_reducible refine ixN_nat ?_ ?_); (focus ((try simp only [LN] at *) <;> omega)))
    | ((with_reducible refine rowN_map ?_ ?_); (focus ((try simp only [LN] at *) <;> omega)); intro x hx)
    | with_reducible refine eqN_dec (by omega) ?_
    | with_reducible first | refine apN_mk (by kernel_rfl) ?_ | refine Z.callZ_in tabOk 25 Try.f50 _ Try.func50 (by kernel_rfl) rfl rfl rfl ?_ | refine Z.callZ_in tabOk 76 Try.f55 _ Try.func55 (by kernel_rfl) rfl rfl rfl ?_ | refine Z.callZ_in tabOk 10 Try.f47 _ Try.func47 (by kernel_rfl) rfl rfl rfl ?_
    | ((first | (with_reducible refine Z.conZ_mz ?_ (ck) ?_) | (with_reducible refine Z.callZ_mk ?_ (ck) ?_)); (focus ((repeat' (first | exact trivial | (refine low_drp (ren_map fun _ => rfl) ?_ ?_; (focus (simp; done)); (simp; done)) | exact rfl | exact Z.low_nil | exact Z.low_nil2 | exact low_osl (fun _ => rfl) | (refine Z.low_osln ?_ (fun _ => rfl); (simp only [List.length_map]; done)) | exact low_oslr (fun _ => rfl) | exact Z.low_gslm (by first | rfl | exact Z.kb_some rfl) (fun _ => rfl) | exact .inl rfl | exact .inr ⟨_, rfl⟩ | apply And.intro)); done)))
    | ((first | (with_reducible refine Z.conZ_mz ?_ (cc) ?_) | (with_reducible refine Z.callZ_mk ?_ (cc) ?_)); (focus ((repeat' (first | exact trivial | (refine low_drp (ren_map fun _ => rfl) ?_ ?_; (focus (simp; done)); (simp; done)) | exact rfl | exact Z.low_nil | exact Z.low_nil2 | exact low_osl (fun _ => rfl) | (refine Z.low_osln ?_ (fun _ => rfl); (simp only [List.length_map]; done)) | exact low_oslr (fun _ => rfl) | exact Z.low_gslm (by first | rfl | exact Z.kb_some rfl) (fun _ => rfl) | exact .inl rfl | exact .inr ⟨_, rfl⟩ | apply And.intro)); done)))
    | ((first | (with_reducible refine Z.conZ_mz ?_ (cc2) ?_) | (with_reducible refine Z.callZ_mk ?_ (cc2) ?_)); (focus ((repeat' (first | exact trivial | (refine low_drp (ren_map fun _ => rfl) ?_ ?_; (focus (simp; done)); (simp; done)) | exact rfl | exact Z.low_nil | exact Z.low_nil2 | exact low_osl (fun _ => rfl) | (refine Z.low_osln ?_ (fun _ => rfl); (simp only [List.length_map]; done)) | exact low_oslr (fun _ => rfl) | exact Z.low_gslm (by first | rfl | exact Z.kb_some rfl) (fun _ => rfl) | exact .inl rfl | exact .inr ⟨_, rfl⟩ | apply And.intro)); done)))
    | ((with_reducible refine eqN_mk2 ?_ ?_); (focus (exact Z.kb_some rfl)))
    | ((with_reducible apply ex_and); exact rfl)
    | with_reducible first | refine Z.drawZ_rule tabOk mixOk ?_ | refine Z.apZ_mk (by kernel_rfl) ?_
    | ((with_reducible refine Z.ConZ.red ?_); (try subst hlb); (apply Z.conZ_all); (focus (repeat (first | exact Z.FK.nil | (apply Z.FK.keep; exact rfl)))); (focus rfl); (focus rfl); (focus (repeat (first | exact trivial | (refine ⟨(fun o ho => (by first | (cases ho; rfl) | (cases ho; exact Z.inL_map fun _ => rfl) | (cases ho; exact Z.inL_mapr fun _ => rfl) | exact Z.inL_gB ho fun _ => rfl)), ?_⟩)))))
    | ((refine ⟨rfl, ?_, rfl⟩); (focus (repeat (first | exact Z.DK.nil | apply Z.DK.cons))))
    | (focus (exact (rfl : Nat.ble _ _ = true))))
  all_goals (try (conv => whnf))
  all_goals try (show Nat.ble _ _ = true; rfl)
  all_goals try (exfalso; rename_i hz; cases hz; done)
  all_goals try (exfalso; (try simp only [LN] at *) <;> omega)
  all_goals first
    | (refine ret1b 5 (.tup [.agg [.v (.int .u32 n), .v (.int .u64 (b + (k : Int))), .osl 0 0 (q.length - k) (some (q.length - k)), .v (.int .u64 (max l c)), .v (.bool d)], .one (.v (.int .i64 0))]) ((q.drop k).map cE) 5 33 false _ rfl ?_ (by rfl) (ren_map fun _ => rfl) (ren_map fun _ => rfl) rfl (own_map fun _ => rfl) ⟨rfl, rfl, rfl⟩; first | rfl | (simp; done))
    | (refine ret1b 6 (.tup [.agg [.v (.int .u32 n), .v (.int .u64 (b + (k : Int))), .osl 0 0 (q.length - k) (some (q.length - k)), .v (.int .u64 (max l c)), .v (.bool d)], .one (.v (.int .i64 0))]) ((q.drop k).map cE) 5 33 false _ rfl ?_ (by rfl) (ren_map fun _ => rfl) (ren_map fun _ => rfl) rfl (own_map fun _ => rfl) ⟨rfl, rfl, rfl⟩; first | rfl | (simp; done))
    | (refine ret1b 7 (.tup [.agg [.v (.int .u32 n), .v (.int .u64 (b + (k : Int))), .osl 0 0 (q.length - k) (some (q.length - k)), .v (.int .u64 (max l c)), .v (.bool d)], .one (.v (.int .i64 0))]) ((q.drop k).map cE) 5 33 false _ rfl ?_ (by rfl) (ren_map fun _ => rfl) (ren_map fun _ => rfl) rfl (own_map fun _ => rfl) ⟨rfl, rfl, rfl⟩; first | rfl | (simp; done))
    | (refine ret1b 8 (.tup [.agg [.v (.int .u32 n), .v (.int .u64 (b + (k : Int))), .osl 0 0 (q.length - k) (some (q.length - k)), .v (.int .u64 (max l c)), .v (.bool d)], .one (.v (.int .i64 0))]) ((q.drop k).map cE) 5 33 false _ rfl ?_ (by rfl) (ren_map fun _ => rfl) (ren_map fun _ => rfl) rfl (own_map fun _ => rfl) ⟨rfl, rfl, rfl⟩; first | rfl | (simp; done))
    | (refine ret1b 9 (.tup [.agg [.v (.int .u32 n), .v (.int .u64 (b + (k : Int))), .osl 0 0 (q.length - k) (some (q.length - k)), .v (.int .u64 (max l c)), .v (.bool d)], .one (.v (.int .i64 0))]) ((q.drop k).map cE) 5 33 false _ rfl ?_ (by rfl) (ren_map fun _ => rfl) (ren_map fun _ => rfl) rfl (own_map fun _ => rfl) ⟨rfl, rfl, rfl⟩; first | rfl | (simp; done))
    | (refine ret1b 10 (.tup [.agg [.v (.int .u32 n), .v (.int .u64 (b + (k : Int))), .osl 0 0 (q.length - k) (some (q.length - k)), .v (.int .u64 (max l c)), .v (.bool d)], .one (.v (.int .i64 0))]) ((q.drop k).map cE) 5 33 false _ rfl ?_ (by rfl) (ren_map fun _ => rfl) (ren_map fun _ => rfl) rfl (own_map fun _ => rfl) ⟨rfl, rfl, rfl⟩; first | rfl | (simp; done))
    | (exfalso; rename_i hz; cases hz; done)
    | (exfalso; (try simp only [LN] at *) <;> omega)
    | (fail)

end Go.Proofs.Ytoiadndmbppobaa
namespace Go.Proofs.Ytoiadndmbppobaa
open Go Go.RowKit Wx
set_option linter.unusedVariables false
set_option linter.unusedSimpArgs false
set_option maxHeartbeats 4000000
def spo (q : List El) (j : Nat) : List El := List.replicate j zE ++ q.drop j
theorem spo_len {q : List El} {j : Nat} (h : j ≤ q.length) : (spo q j).length = q.length := by simp [spo]; omega
theorem spo_set {q : List El} {j : Nat} (h : j < q.length) : ((spo q j).map cE).set (0 + j) (cE zE) = (spo q (j + 1)).map cE := by
  obtain ⟨x, hx⟩ := getElem?_some' (xs := q) (i := j) h
  rw [Nat.zero_add, ← List.map_set]
  congr 1
  unfold spo
  rw [drop_cons hx, List.set_append_right _ _ (by simp), List.length_replicate, Nat.sub_self, List.set_cons_zero, List.replicate_succ']
  simp
structure Tl where
  kd : Int
  e : El
  p : Pk
abbrev eTl (x : Tl) : List RT := [RT.v (.int .i64 x.kd)] ++ (eE x.e ++ eP x.p)
theorem kind_4 (n : Int) : ((IntKind.u64.wrap n).tmod 4 = 0 ∨ (IntKind.u64.wrap n).tmod 4 = 1) ∨ (IntKind.u64.wrap n).tmod 4 = 2 ∨ (IntKind.u64.wrap n).tmod 4 = 3 := by
  obtain ⟨k, hk, h⟩ := u64_tm (n := n) (L := 4) (by decide)
  have : (IntKind.u64.wrap n).tmod 4 = (k : Int) := hk
  omega
theorem put_no {n b l : Int} {q : List El} {d : Bool} {e : El} (hk : okS n b q l d = true) : (∃ c, c ≠ 0 ∧ putR n b q l d e = (zS, c)) ∨ (okE e = true ∧ d = false ∧ ¬ (8 ≤ q.length ∨ b + (q.length : Int) > 4611686018427387904) ∧ putR n b q l d e = (⟨n, b, q ++ [e], l, decide (e.kd = 3)⟩, 0)) := by
  unfold putR
  rw [hk, cond_true]
  cases he : okE e
  · exact .inl ⟨_, by decide, rfl⟩
  cases d
  · rw [cond_true, cond_false]
    split
    · exact .inl ⟨_, by decide, rfl⟩
    · rename_i h; exact .inr ⟨rfl, rfl, h, rfl⟩
  · exact .inl ⟨_, by decide, rfl⟩
end Go.Proofs.Ytoiadndmbppobaa
namespace Go.Proofs.Ytoiadndmbppobaa
open Go Go.RowKit Wx
set_option linter.unusedVariables false
set_option linter.unusedSimpArgs false
set_option maxHeartbeats 40000000
theorem sends_con (n b : Int) (q : List El) (l : Int) (d : Bool) (ls : List Tl) (hq : q.length ≤ 9223372036854775807) (hu : ∀ e ∈ q, 0 ≤ e.num) (hb0 : 0 ≤ b) (hl0 : 0 ≤ l) (hls : ls.length ≤ 9223372036854775807) (hus : ∀ x ∈ ls, 0 ≤ x.e.num ∧ 0 ≤ x.p.sq ∧ 0 ≤ x.p.lim ∧ 0 ≤ x.p.e.num) : Con Try.prog 3 [.agg [.v (.int .u32 n), .v (.int .u64 b), .ro false 5 (q.map eE), .v (.int .u64 l), .v (.bool d)], .one (.ro false 15 (ls.map eTl))] (fun rx rK rt => rx = .val (.bool true) ∧ rK = [] ∧ rt = 0) := by
  refine Z.con_ofF tabOk 138 Try.f3 _ Try.func3 (by kernel_rfl) rfl rfl rfl rfl ?_
  have csn := sender_con n b q l d hq
  repeat' ((conv => whnf); first
    | ((with_reducible apply spB_cong); (focus (simp only [beq_self_eq_true, bne_self_eq_false, Bool.true_bne, Bool.false_bne, Bool.bne_true, Bool.bne_false, Bool.true_beq, Bool.false_beq, Bool.not_true, Bool.not_false, Bool.not_not, Int.reduceBEq, Int.reduceBNe, Int.reduceLE, Int.reduceLT, Int.reduceEq, decide_true, decide_false]; rfl)))
    | with_reducible first | refine spB_no (by decide) ?_
    | ((first | (with_reducible refine Z.callZ_mk ?_ (wakes_con) ?_)); (focus ((repeat' (first | exact trivial)); done)))
    | ((first | (with_reducible refine Z.callZ_mk ?_ (csn) ?_)); (focus ((repeat' (first | exact trivial | exact rfl | apply And.intro)); done))))
  all_goals (try (conv => whnf))
  all_goals try (show Nat.ble _ _ = true; rfl)
  all_goals try (exfalso; rename_i hz; cases hz; done)
  all_goals try (exfalso; (try simp only [LN] at *) <;> omega)
  refine Z.loopK tabOk (fun zq : Nat × Int × Int × List El × Int × Bool => [(23, .val (.int .i64 (zq.1 : Int)))]) (fun zq : Nat × Int × Int × List El × Int × Bool => ([(1, some (Z.Ob.b ⟨[[.v (.int .u32 zq.2.1), .v (.int .u64 zq.2.2.1), .ro true 5 (zq.2.2.2.1.map eE), .v (.int .u64 zq.2.2.2.2.1), .v (.bool zq.2.2.2.2.2)]], 5, 26, true⟩))] : Z.Kr)) (fun zq => zq.1 ≤ ls.length ∧ zq.2.2.2.1.length ≤ 9 ∧ (∀ e ∈ zq.2.2.2.1, 0 ≤ e.num) ∧ 0 ≤ zq.2.2.1 ∧ 0 ≤ zq.2.2.2.2.1) (fun zq => ls.length - zq.1) (0, n, b, sh q, l, d) 2 [(5, _), (21, _), (22, _)] ⟨rfl, rfl, rfl, trivial⟩ [] trivial ?_ ?_ rfl rfl ⟨Nat.zero_le _, sh_len q, fun e he => hu e (List.mem_of_mem_take he), hb0, hl0⟩ ?_
  · repeat' (first | exact trivial | apply And.intro | exact ⟨_, rfl, Z.Imp.refl _⟩)
  · repeat' (first | exact trivial | exact (fun b hb => ⟨b, hb, Z.ImpO.refl b⟩) | apply And.intro)
  rintro ⟨i, n1, b1, q1, l1, d1⟩ HINV
  dsimp only at HINV ⊢
  obtain ⟨HI, hq9, hu1, hb1, hl1⟩ := HINV
  clear csn
  by_cases hi : i < ls.length
  rotate_left
  · skip
    repeat' ((conv => whnf); first
      | (with_reducible refine spB_dec ?_ ?_ <;> intro _ <;> (try (exfalso; first | contradiction | omega | (rename_i hz; refine hz ?_; simp; done) | (rename_i hz; simp at hz; done) | (simp only [LN] at *; omega)))))
    all_goals (try (conv => whnf))
    all_goals try (show Nat.ble _ _ = true; rfl)
    all_goals first
      | ((first | (with_reducible apply Z.retF1)); (focus (exact rfl)); (repeat' (first | exact trivial | (with_reducible apply Z.frz_one) | (with_reducible apply Z.fq_bool) | exact rfl | apply And.intro)); (all_goals (try exact (fun _ => none))); all_goals (rfl))
  obtain ⟨x, hx⟩ := getElem?_some' (xs := ls) (i := i) hi
  have hux := hus x (List.mem_of_getElem? hx)
  obtain ⟨kd, e, pk⟩ := x
  dsimp only at hux
  by_cases hib : i = 30
  · skip
    repeat' ((conv => whnf); first
      | (with_reducible refine spB_dec ?_ ?_ <;> intro _ <;> (try (exfalso; first | contradiction | omega | (rename_i hz; refine hz ?_; simp; done) | (rename_i hz; simp at hz; done) | (simp only [LN] at *; omega))))
      | (with_reducible refine spB_beq ?_ ?_ <;> intro _ <;> (try (exfalso; first | contradiction | omega | (rename_i hz; refine hz ?_; simp; done) | (rename_i hz; simp at hz; done) | (simp only [LN] at *; omega))))
      | with_reducible first | refine Z.rowN_known hx ?_
      | ((with_reducible apply ixN_litp); (focus (exact rfl)); (focus ((try simp only [LN] at *) <;> omega))))
    all_goals (try (conv => whnf))
    all_goals try (show Nat.ble _ _ = true; rfl)
    all_goals first
      | ((first | (with_reducible apply Z.retF1)); (focus (exact rfl)); (repeat' (first | exact trivial | (with_reducible apply Z.frz_one) | (with_reducible apply Z.fq_bool) | exact rfl | apply And.intro)); (all_goals (try exact (fun _ => none))); all_goals (rfl))
  have csn := sender_con n1 b1 q1 l1 d1 (by omega)
  rw [sh_id hq9] at csn
  have crs := rightS_con n1 b1 q1 l1 d1 (by omega) hu1 hb1 hl1 (by omega)
  have ccs := checkS_con n1 b1 q1 l1 d1 (by omega) hu1 hb1 hl1
  have css := sameS_con n1 b1 q1 l1 d1 n1 b1 q1 l1 d1 (by omega)
  simp only [and_self, decide_true] at css
  have hqm1 : (List.map eE q1).length = q1.length := by simp
  cases hk : okS n1 b1 q1 l1 d1
  all_goals rw [hk] at crs ccs
  all_goals simp only [cond_true, cond_false] at ccs
  · have csw := sameS_con 0 0 [] 0 false 0 0 [] 0 false (by simp)
    simp only [and_self, decide_true] at csw
    have csn3 := sender_con 0 0 [] 0 false (by simp)
    rw [sh_id (by simp)] at csn3
    have cp := put_con n1 b1 q1 l1 d1 e (by omega) hu1 hb1 hl1 hux.1
    rw [show putR n1 b1 q1 l1 d1 e = (zS, 240) by unfold putR; rw [hk]; rfl] at cp
    have cse := send_con n1 b1 q1 l1 d1 (by omega) hu1 hb1 hl1
    rw [show sendR n1 b1 q1 l1 d1 = ([], 240) by unfold sendR; rw [hk]; rfl] at cse
    have caa := acked_con n1 b1 q1 l1 d1 pk (by omega) hu1 hb1 hl1 hux.2.1 hux.2.2.1
    rw [show ackedR n1 b1 q1 l1 d1 pk = (zS, 240) by unfold ackedR; rw [hk]; rfl] at caa
    dsimp only [zS] at cp cse caa
    rcases kind_4 kd with h4 | h4 | h4
    · rcases h4 with h4 | h4
      all_goals (
        repeat' ((conv => whnf); first
          | with_reducible first | refine spB_t ?_
          | ((with_reducible apply spB_cong); (focus (simp only [beq_self_eq_true, bne_self_eq_false, Bool.true_bne, Bool.false_bne, Bool.bne_true, Bool.bne_false, Bool.true_beq, Bool.false_beq, Bool.not_true, Bool.not_false, Bool.not_not, Int.reduceBEq, Int.reduceBNe, Int.reduceLE, Int.reduceLT, Int.reduceEq, decide_true, decide_false]; rfl)))
          | with_reducible first | refine spB_no (by decide) ?_
          | (with_reducible refine spB_dec ?_ ?_ <;> intro _ <;> (try (exfalso; first | contradiction | omega | (rename_i hz; refine hz ?_; simp; done) | (rename_i hz; simp at hz; done) | (simp only [LN] at *; omega))))
          | (with_reducible refine spB_beq ?_ ?_ <;> intro _ <;> (try (exfalso; first | contradiction | omega | (rename_i hz; refine hz ?_; simp; done) | (rename_i hz; simp at hz; done) | (simp only [LN] at *; omega))))
          | with_reducible first | refine Z.rowN_known hx ?_
          | ((with_reducible refine Z.vN_K h4 ?_ ?_); (focus rfl))
          | with_reducible first | refine Z.loopZ_unroll tabOk 1 ?_
          | ((with_reducible apply ixN_litp); (focus (exact rfl)); (focus ((try simp only [LN] at *) <;> omega)))
          | with_reducible refine wr_i64 (by first | omega | (simp only [LN] at *; omega)) ?_
          | with_reducible first | refine wr_mk _ rfl ?_
          | with_reducible refine nzN_mk (by omega) ?_
          | with_reducible first | refine Z.callZ_in tabOk 13 Try.f22 _ Try.func22 (by kernel_rfl) rfl rfl rfl ?_
          | ((first | (with_reducible refine Z.callZ_mk ?_ (crs) ?_) | (with_reducible refine Z.callZ_mk ?_ (ccs) ?_) | (with_reducible refine Z.callZ_mk ?_ (cp) ?_)); (focus ((repeat' (first | exact trivial | exact rfl | apply And.intro)); done)))
          | ((first | (with_reducible refine Z.callZ_mk ?_ (csn) ?_)); (focus ((repeat' (first | exact trivial | exact rfl | apply And.intro)); done)))
          | ((first | (with_reducible refine Z.callZ_mk ?_ (csn3) ?_)); (focus ((repeat' (first | exact trivial | exact rfl | exact Z.low_nil | apply And.intro)); done)))
          | ((first | (with_reducible refine Z.callZ_mk ?_ (css) ?_)); (focus ((repeat' (first | exact trivial | exact rfl | apply And.intro)); done)))
          | ((first | (with_reducible refine Z.callZ_mk ?_ (csw) ?_)); (focus ((repeat' (first | exact trivial | exact rfl | exact Z.low_nil | apply And.intro)); done)))
          | ((with_reducible apply ex_and); exact rfl))
        all_goals (try (conv => whnf))
        all_goals try (show Nat.ble _ _ = true; rfl)
        all_goals try (exfalso; rename_i hz; cases hz; done)
        all_goals try (exfalso; (try simp only [LN] at *) <;> omega)
        all_goals first
          | ((refine Z.rndK ((i + 1, n1, b1, q1, l1, d1)) (fun s => [0, 1]) rfl rfl rfl rfl ?_ ?_ ?_ ?_); (focus (repeat' (first | exact trivial | exact rfl | apply And.intro))); (focus (repeat' (first | exact trivial | (intro b hb; cases hb; rfl) | apply And.intro))); (focus (exact ⟨by (try dsimp only); omega, hq9, hu1, hb1, hl1⟩)); ((try dsimp only); omega)))
    · skip
      repeat' ((conv => whnf); first
        | with_reducible first | refine spB_t ?_
        | ((with_reducible apply spB_cong); (focus (simp only [beq_self_eq_true, bne_self_eq_false, Bool.true_bne, Bool.false_bne, Bool.bne_true, Bool.bne_false, Bool.true_beq, Bool.false_beq, Bool.not_true, Bool.not_false, Bool.not_not, Int.reduceBEq, Int.reduceBNe, Int.reduceLE, Int.reduceLT, Int.reduceEq, decide_true, decide_false]; rfl)))
        | with_reducible first | refine spB_no (by decide) ?_
        | (with_reducible refine spB_dec ?_ ?_ <;> intro _ <;> (try (exfalso; first | contradiction | omega | (rename_i hz; refine hz ?_; simp; done) | (rename_i hz; simp at hz; done) | (simp only [LN] at *; omega))))
        | (with_reducible refine spB_beq ?_ ?_ <;> intro _ <;> (try (exfalso; first | contradiction | omega | (rename_i hz; refine hz ?_; simp; done) | (rename_i hz; simp at hz; done) | (simp only [LN] at *; omega))))
        | with_reducible first | refine Z.rowN_known hx ?_
        | ((with_reducible refine Z.vN_K h4 ?_ ?_); (focus rfl))
        | ((with_reducible apply ixN_litp); (focus (exact rfl)); (focus ((try simp only [LN] at *) <;> omega)))
        | with_reducible refine wr_i64 (by first | omega | (simp only [LN] at *; omega)) ?_
        | with_reducible first | refine wr_mk _ rfl ?_
        | with_reducible refine nzN_mk (by omega) ?_
        | ((first | (with_reducible refine Z.callZ_mk ?_ (crs) ?_) | (with_reducible refine Z.callZ_mk ?_ (ccs) ?_) | (with_reducible refine Z.callZ_mk ?_ (cse) ?_)); (focus ((repeat' (first | exact trivial | exact rfl | apply And.intro)); done)))
        | ((first | (with_reducible refine Z.callZ_mk ?_ (csn) ?_)); (focus ((repeat' (first | exact trivial | exact rfl | apply And.intro)); done))))
      all_goals (try (conv => whnf))
      all_goals try (show Nat.ble _ _ = true; rfl)
      all_goals try (exfalso; rename_i hz; cases hz; done)
      all_goals try (exfalso; (try simp only [LN] at *) <;> omega)
      all_goals first
        | ((refine Z.rndK ((i + 1, n1, b1, q1, l1, d1)) (fun s => [0, 1]) rfl rfl rfl rfl ?_ ?_ ?_ ?_); (focus (repeat' (first | exact trivial | exact rfl | apply And.intro))); (focus (repeat' (first | exact trivial | (intro b hb; cases hb; rfl) | apply And.intro))); (focus (exact ⟨by (try dsimp only); omega, hq9, hu1, hb1, hl1⟩)); ((try dsimp only); omega))
    · skip
      repeat' ((conv => whnf); first
        | with_reducible first | refine spB_t ?_
        | ((with_reducible apply spB_cong); (focus (simp only [beq_self_eq_true, bne_self_eq_false, Bool.true_bne, Bool.false_bne, Bool.bne_true, Bool.bne_false, Bool.true_beq, Bool.false_beq, Bool.not_true, Bool.not_false, Bool.not_not, Int.reduceBEq, Int.reduceBNe, Int.reduceLE, Int.reduceLT, Int.reduceEq, decide_true, decide_false]; rfl)))
        | with_reducible first | refine spB_no (by decide) ?_
        | (with_reducible refine spB_dec ?_ ?_ <;> intro _ <;> (try (exfalso; first | contradiction | omega | (rename_i hz; refine hz ?_; simp; done) | (rename_i hz; simp at hz; done) | (simp only [LN] at *; omega))))
        | (with_reducible refine spB_beq ?_ ?_ <;> intro _ <;> (try (exfalso; first | contradiction | omega | (rename_i hz; refine hz ?_; simp; done) | (rename_i hz; simp at hz; done) | (simp only [LN] at *; omega))))
        | with_reducible first | refine Z.rowN_known hx ?_
        | ((with_reducible refine Z.vN_K h4 ?_ ?_); (focus rfl))
        | with_reducible first | refine Z.loopZ_unroll tabOk 1 ?_
        | ((with_reducible apply ixN_litp); (focus (exact rfl)); (focus ((try simp only [LN] at *) <;> omega)))
        | with_reducible refine wr_i64 (by first | omega | (simp only [LN] at *; omega)) ?_
        | with_reducible first | refine wr_mk _ rfl ?_
        | with_reducible refine nzN_mk (by omega) ?_
        | with_reducible first | refine Z.callZ_in tabOk 13 Try.f22 _ Try.func22 (by kernel_rfl) rfl rfl rfl ?_
        | ((first | (with_reducible refine Z.callZ_mk ?_ (crs) ?_) | (with_reducible refine Z.callZ_mk ?_ (ccs) ?_) | (with_reducible refine Z.callZ_mk ?_ (caa) ?_)); (focus ((repeat' (first | exact trivial | exact rfl | apply And.intro)); done)))
        | ((first | (with_reducible refine Z.callZ_mk ?_ (csn) ?_)); (focus ((repeat' (first | exact trivial | exact rfl | apply And.intro)); done)))
        | ((first | (with_reducible refine Z.callZ_mk ?_ (csn3) ?_)); (focus ((repeat' (first | exact trivial | exact rfl | exact Z.low_nil | apply And.intro)); done)))
        | ((first | (with_reducible refine Z.callZ_mk ?_ (css) ?_)); (focus ((repeat' (first | exact trivial | exact rfl | apply And.intro)); done)))
        | ((first | (with_reducible refine Z.callZ_mk ?_ (csw) ?_)); (focus ((repeat' (first | exact trivial | exact rfl | exact Z.low_nil | apply And.intro)); done)))
        | ((with_reducible apply ex_and); exact rfl))
      all_goals (try (conv => whnf))
      all_goals try (show Nat.ble _ _ = true; rfl)
      all_goals try (exfalso; rename_i hz; cases hz; done)
      all_goals try (exfalso; (try simp only [LN] at *) <;> omega)
      all_goals first
        | ((refine Z.rndK ((i + 1, n1, b1, q1, l1, d1)) (fun s => [0, 1]) rfl rfl rfl rfl ?_ ?_ ?_ ?_); (focus (repeat' (first | exact trivial | exact rfl | apply And.intro))); (focus (repeat' (first | exact trivial | (intro b hb; cases hb; rfl) | apply And.intro))); (focus (exact ⟨by (try dsimp only); omega, hq9, hu1, hb1, hl1⟩)); ((try dsimp only); omega))
  · have hs := okS_all hk
    rcases kind_4 kd with h4 | h4 | h4
    · rcases put_no (e := e) hk with ⟨c, hc, hE⟩ | ⟨hoe, hd, hf, hE⟩
      · have cp := put_con n1 b1 q1 l1 d1 e (by omega) hu1 hb1 hl1 hux.1
        have crp := rput_con n1 b1 q1 l1 d1 e (by omega) hu1 hb1 hl1 hk hux.1
        rw [hE] at cp crp
        dsimp only [zS] at cp crp
        have csw := sameS_con 0 0 [] 0 false 0 0 [] 0 false (by simp)
        simp only [and_self, decide_true] at csw
        have csn3 := sender_con 0 0 [] 0 false (by simp)
        rw [sh_id (by simp)] at csn3
        rcases h4 with h4 | h4
        all_goals (
          repeat' ((conv => whnf); first
            | with_reducible first | refine spB_t ?_
            | ((with_reducible apply spB_cong); (focus (simp only [beq_self_eq_true, bne_self_eq_false, Bool.true_bne, Bool.false_bne, Bool.bne_true, Bool.bne_false, Bool.true_beq, Bool.false_beq, Bool.not_true, Bool.not_false, Bool.not_not, Int.reduceBEq, Int.reduceBNe, Int.reduceLE, Int.reduceLT, Int.reduceEq, decide_true, decide_false]; rfl)))
            | with_reducible first | refine spB_no (by decide) ?_
            | (with_reducible refine spB_dec ?_ ?_ <;> intro _ <;> (try (exfalso; first | contradiction | omega | (rename_i hz; refine hz ?_; simp; done) | (rename_i hz; simp at hz; done) | (simp only [LN] at *; omega))))
            | (with_reducible refine spB_beq ?_ ?_ <;> intro _ <;> (try (exfalso; first | contradiction | omega | (rename_i hz; refine hz ?_; simp; done) | (rename_i hz; simp at hz; done) | (simp only [LN] at *; omega))))
            | with_reducible first | refine Z.rowN_known hx ?_
            | ((with_reducible refine Z.vN_K h4 ?_ ?_); (focus rfl))
            | with_reducible first | refine Z.loopZ_unroll tabOk 1 ?_
            | ((with_reducible apply ixN_litp); (focus (exact rfl)); (focus ((try simp only [LN] at *) <;> omega)))
            | with_reducible refine wr_i64 (by first | omega | (simp only [LN] at *; omega)) ?_
            | with_reducible first | refine wr_mk _ rfl ?_
            | with_reducible refine nzN_mk (by omega) ?_
            | with_reducible first | refine Z.callZ_in tabOk 13 Try.f22 _ Try.func22 (by kernel_rfl) rfl rfl rfl ?_
            | ((first | (with_reducible refine Z.callZ_mk ?_ (crs) ?_) | (with_reducible refine Z.callZ_mk ?_ (ccs) ?_) | (with_reducible refine Z.callZ_mk ?_ (cp) ?_) | (with_reducible refine Z.callZ_mk ?_ (crp) ?_)); (focus ((repeat' (first | exact trivial | exact rfl | apply And.intro)); done)))
            | ((first | (with_reducible refine Z.callZ_mk ?_ (csn) ?_)); (focus ((repeat' (first | exact trivial | exact rfl | apply And.intro)); done)))
            | ((first | (with_reducible refine Z.callZ_mk ?_ (csn3) ?_)); (focus ((repeat' (first | exact trivial | exact rfl | apply And.intro)); done)))
            | ((first | (with_reducible refine Z.callZ_mk ?_ (css) ?_)); (focus ((repeat' (first | exact trivial | exact rfl | apply And.intro)); done)))
            | ((first | (with_reducible refine Z.callZ_mk ?_ (csw) ?_)); (focus ((repeat' (first | exact trivial | exact rfl | apply And.intro)); done)))
            | ((with_reducible apply ex_and); exact rfl))
          all_goals (try (conv => whnf))
          all_goals try (show Nat.ble _ _ = true; rfl)
          all_goals try (exfalso; rename_i hz; cases hz; done)
          all_goals try (exfalso; (try simp only [LN] at *) <;> omega)
          all_goals first
            | ((refine Z.rndK ((i + 1, n1, b1, q1, l1, d1)) (fun s => [0, 1]) rfl rfl rfl rfl ?_ ?_ ?_ ?_); (focus (repeat' (first | exact trivial | exact rfl | apply And.intro))); (focus (repeat' (first | exact trivial | (intro b hb; cases hb; rfl) | apply And.intro))); (focus (exact ⟨by (try dsimp only); omega, hq9, hu1, hb1, hl1⟩)); ((try dsimp only); omega)))
      · subst hd
        have cp := put_own n1 b1 q1 l1 e (by omega) hu1 hb1 hl1 hk hux.1 hoe hf
        have crp := rput_con n1 b1 q1 l1 false e (by omega) hu1 hb1 hl1 hk hux.1
        rw [hE] at crp
        dsimp only at crp
        have csw := sameS_con n1 b1 (q1 ++ [e]) l1 (decide (e.kd = 3)) n1 b1 (q1 ++ [e]) l1 (decide (e.kd = 3)) (by simp; omega)
        simp only [and_self, decide_true] at csw
        have csn3 := sender_con n1 b1 (q1 ++ [e]) l1 (decide (e.kd = 3)) (by simp; omega)
        rw [sh_id (by simp; omega)] at csn3
        have hqe : (q1 ++ [e]).length = q1.length + 1 := by simp
        rw [← hqe] at cp
        rcases h4 with h4 | h4
        all_goals (
          repeat' ((conv => whnf); first
            | with_reducible first | refine spB_t ?_
            | ((with_reducible apply spB_cong); (focus (simp only [beq_self_eq_true, bne_self_eq_false, Bool.true_bne, Bool.false_bne, Bool.bne_true, Bool.bne_false, Bool.true_beq, Bool.false_beq, Bool.not_true, Bool.not_false, Bool.not_not, Int.reduceBEq, Int.reduceBNe, Int.reduceLE, Int.reduceLT, Int.reduceEq, decide_true, decide_false]; rfl)))
            | with_reducible first | refine spB_no (by decide) ?_
            | (with_reducible refine spB_dec ?_ ?_ <;> intro _ <;> (try (exfalso; first | contradiction | omega | (rename_i hz; refine hz ?_; simp; done) | (rename_i hz; simp at hz; done) | (simp only [LN] at *; omega))))
            | (with_reducible refine spB_beq ?_ ?_ <;> intro _ <;> (try (exfalso; first | contradiction | omega | (rename_i hz; refine hz ?_; simp; done) | (rename_i hz; simp at hz; done) | (simp only [LN] at *; omega))))
            | with_reducible first | refine Z.rowN_known hx ?_
            | ((with_reducible refine Z.vN_K h4 ?_ ?_); (focus rfl))
            | ((with_reducible apply ixN_litp); (focus (exact rfl)); (focus ((try simp only [LN] at *) <;> omega)))
            | with_reducible first | refine wr_mk _ rfl ?_
            | with_reducible refine nzN_mk (by omega) ?_
            | with_reducible first | refine Z.callZ_in tabOk 13 Try.f22 _ Try.func22 (by kernel_rfl) rfl rfl rfl ?_
            | ((first | (with_reducible refine Z.callZ_mk ?_ (crs) ?_) | (with_reducible refine Z.callZ_mk ?_ (ccs) ?_) | (with_reducible refine Z.callZ_mk ?_ (cp) ?_) | (with_reducible refine Z.callZ_mk ?_ (crp) ?_)); (focus ((repeat' (first | exact trivial | exact rfl | apply And.intro)); done)))
            | ((first | (with_reducible refine Z.callZ_mk ?_ (csn) ?_)); (focus ((repeat' (first | exact trivial | exact rfl | apply And.intro)); done)))
            | ((first | (with_reducible refine Z.callZ_mk ?_ (csn3) ?_)); (focus ((repeat' (first | exact trivial | exact rfl | apply And.intro)); done)))
            | ((first | (with_reducible refine Z.callZ_mk ?_ (csw) ?_)); (focus ((repeat' (first | exact trivial | exact rfl | exact low_oslr (fun _ => rfl) | apply And.intro)); done))))
          all_goals (try (conv => whnf))
          all_goals try (show Nat.ble _ _ = true; rfl)
          all_goals try (exfalso; rename_i hz; cases hz; done)
          all_goals try (exfalso; (try simp only [LN] at *) <;> omega)
          refine Z.loopK tabOk (fun zq : Nat => [(5, .val (.int .i64 (zq : Int)))]) (fun zq : Nat => ([(6, some (Z.Ob.b ⟨(spo (q1 ++ [e]) zq).map cE, 5, 33, false⟩))] : Z.Kr)) (fun zq => zq ≤ (q1 ++ [e]).length) (fun zq => (q1 ++ [e]).length - zq) 0 7 [(0, _), (4, _)] ⟨rfl, rfl, trivial⟩ [(1, _), (3, _), (5, _)] ⟨rfl, rfl, rfl, trivial⟩ ?_ ?_ rfl rfl (Nat.zero_le _) ?_
          · repeat' (first | exact trivial | apply And.intro | exact ⟨_, rfl, Z.Imp.refl _⟩)
          · repeat' (first | exact trivial | (intro b hb; cases hb; refine ⟨_, rfl, ⟨rfl, rfl, rfl⟩, Z.imp_eq ?_⟩; first | rfl | exact ren_map fun _ => rfl; done) | apply And.intro)
          rintro j HINV
          dsimp only at HINV ⊢
          have hspl : (spo (q1 ++ [e]) j).length = (q1 ++ [e]).length := spo_len HINV
          by_cases hj : j < (q1 ++ [e]).length
          · obtain ⟨z9, hz9⟩ := getElem?_some' (xs := spo (q1 ++ [e]) j) (i := j) (by omega)
            repeat' ((conv => whnf); first
              | (with_reducible refine spB_dec ?_ ?_ <;> intro _ <;> (try (exfalso; first | contradiction | omega | (rename_i hz; refine hz ?_; simp; done) | (rename_i hz; simp at hz; done) | (simp only [LN] at *; omega))))
              | ((with_reducible refine ixN_mk (j) ?_ ?_ ?_); (focus (first | rfl)); (focus ((try simp only [LN] at *) <;> omega)))
              | ((with_reducible refine rowN_mk (cE z9) ?_ ?_); (focus (show (List.map cE _)[0 + j]? = some (cE z9); rw [Nat.zero_add, List.getElem?_map, hz9]; rfl)))
              | with_reducible refine wr_i64 (by first | omega | (simp only [LN] at *; omega)) ?_)
            all_goals (try (conv => whnf))
            all_goals try (show Nat.ble _ _ = true; rfl)
            all_goals try (exfalso; rename_i hz; cases hz; done)
            all_goals try (exfalso; (try simp only [LN] at *) <;> omega)
            all_goals first
              | ((refine Z.rnd_rw 6 ((spo (q1 ++ [e]) (j + 1)).map cE) rfl rfl ?_ ?_); (focus (exact spo_set hj)); ((refine Z.rndK ((j + 1)) (fun s => [0, 1, 2, 3, 4, 5, 6]) rfl rfl rfl rfl ?_ ?_ ?_ ?_); (focus (repeat' (first | exact trivial | exact rfl | apply And.intro))); (focus (repeat' (first | exact trivial | (intro b hb; cases hb; rfl) | exact Z.blk_sub rfl rfl (ren_map fun _ => rfl) | apply And.intro))); (focus (((try dsimp only); omega))); ((try dsimp only); omega)))
          repeat' ((conv => whnf); first
            | with_reducible first | refine spB_t ?_
            | ((with_reducible apply spB_cong); (focus (simp only [beq_self_eq_true, bne_self_eq_false, Bool.true_bne, Bool.false_bne, Bool.bne_true, Bool.bne_false, Bool.true_beq, Bool.false_beq, Bool.not_true, Bool.not_false, Bool.not_not, Int.reduceBEq, Int.reduceBNe, Int.reduceLE, Int.reduceLT, Int.reduceEq, decide_true, decide_false]; rfl)))
            | with_reducible first | refine spB_no (by decide) ?_
            | (with_reducible refine spB_dec ?_ ?_ <;> intro _ <;> (try (exfalso; first | contradiction | omega | (rename_i hz; refine hz ?_; simp; done) | (rename_i hz; simp at hz; done) | (simp only [LN] at *; omega))))
            | with_reducible refine wr_i64 (by first | omega | (simp only [LN] at *; omega)) ?_
            | ((first | (with_reducible refine Z.callZ_mk ?_ (css) ?_)); (focus ((repeat' (first | exact trivial | exact rfl | apply And.intro)); done)))
            | ((with_reducible apply ex_and); exact rfl))
          all_goals (try (conv => whnf))
          all_goals try (show Nat.ble _ _ = true; rfl)
          all_goals try (exfalso; rename_i hz; cases hz; done)
          all_goals try (exfalso; (try simp only [LN] at *) <;> omega)
          all_goals first
            | ((refine Z.rndK ((i + 1, n1, b1, (q1 ++ [e]), l1, (decide (e.kd = 3)))) (fun s => [0, 1]) rfl rfl rfl rfl ?_ ?_ ?_ ?_); (focus (repeat' (first | exact trivial | exact rfl | apply And.intro))); (focus (repeat' (first | exact trivial | (intro b hb; cases hb; rfl) | apply And.intro))); (focus (exact ⟨by (try dsimp only); omega, by (try dsimp only); omega, fun x hx => by rcases List.mem_append.1 hx with h9 | h9; exact hu1 x h9; rw [List.mem_singleton.1 h9]; exact hux.1, by (try dsimp only); omega, by (try dsimp only); omega⟩)); ((try dsimp only); omega)))
    · have cse := send_con n1 b1 q1 l1 d1 (by omega) hu1 hb1 hl1
      rw [show sendR n1 b1 q1 l1 d1 = (pks n1 l1 b1 q1, 0) by unfold sendR; rw [hk]; rfl] at cse
      dsimp only at cse
      have cre := rsend_con n1 b1 q1 l1 d1 (by omega) hu1 hb1 hl1 hk
      have hpl := @pks_len n1 l1 b1 q1
      have csp := samep_con (pks n1 l1 b1 q1) (pks n1 l1 b1 q1) (by omega)
      simp only [decide_true] at csp
      repeat' ((conv => whnf); first
        | with_reducible first | refine spB_t ?_
        | ((with_reducible apply spB_cong); (focus (simp only [beq_self_eq_true, bne_self_eq_false, Bool.true_bne, Bool.false_bne, Bool.bne_true, Bool.bne_false, Bool.true_beq, Bool.false_beq, Bool.not_true, Bool.not_false, Bool.not_not, Int.reduceBEq, Int.reduceBNe, Int.reduceLE, Int.reduceLT, Int.reduceEq, decide_true, decide_false]; rfl)))
        | with_reducible first | refine spB_no (by decide) ?_
        | (with_reducible refine spB_dec ?_ ?_ <;> intro _ <;> (try (exfalso; first | contradiction | omega | (rename_i hz; refine hz ?_; simp; done) | (rename_i hz; simp at hz; done) | (simp only [LN] at *; omega))))
        | (with_reducible refine spB_beq ?_ ?_ <;> intro _ <;> (try (exfalso; first | contradiction | omega | (rename_i hz; refine hz ?_; simp; done) | (rename_i hz; simp at hz; done) | (simp only [LN] at *; omega))))
        | with_reducible first | refine Z.rowN_known hx ?_
        | ((with_reducible refine Z.vN_K h4 ?_ ?_); (focus rfl))
        | ((with_reducible apply ixN_litp); (focus (exact rfl)); (focus ((try simp only [LN] at *) <;> omega)))
        | with_reducible refine wr_i64 (by first | omega | (simp only [LN] at *; omega)) ?_
        | with_reducible first | refine wr_mk _ rfl ?_
        | with_reducible refine nzN_mk (by omega) ?_
        | ((first | (with_reducible refine Z.callZ_mk ?_ (crs) ?_) | (with_reducible refine Z.callZ_mk ?_ (ccs) ?_) | (with_reducible refine Z.callZ_mk ?_ (cse) ?_) | (with_reducible refine Z.callZ_mk ?_ (csp) ?_) | (with_reducible refine Z.callZ_mk ?_ (cre) ?_)); (focus ((repeat' (first | exact trivial | exact rfl | apply And.intro)); done)))
        | ((first | (with_reducible refine Z.callZ_mk ?_ (csn) ?_)); (focus ((repeat' (first | exact trivial | exact rfl | apply And.intro)); done))))
      all_goals (try (conv => whnf))
      all_goals try (show Nat.ble _ _ = true; rfl)
      all_goals try (exfalso; rename_i hz; cases hz; done)
      all_goals try (exfalso; (try simp only [LN] at *) <;> omega)
      all_goals first
        | ((refine Z.rndK ((i + 1, n1, b1, q1, l1, d1)) (fun s => [0, 1]) rfl rfl rfl rfl ?_ ?_ ?_ ?_); (focus (repeat' (first | exact trivial | exact rfl | apply And.intro))); (focus (repeat' (first | exact trivial | (intro b hb; cases hb; rfl) | apply And.intro))); (focus (exact ⟨by (try dsimp only); omega, hq9, hu1, hb1, hl1⟩)); ((try dsimp only); omega))
    · by_cases ha : ackOf n1 b1 q1 pk
      · obtain ⟨ha1, ha2, ha3, ha4, ha5⟩ := ha
        obtain ⟨a, c, hpe⟩ := ack_yes ha1
        clear ha1
        subst hpe
        dsimp only at hux ha2 ha3 ha4 ha5
        obtain ⟨k, hk2⟩ := Int.eq_ofNat_of_zero_le (show 0 ≤ a - b1 by omega)
        have hka : a = b1 + (k : Int) := by omega
        subst hka
        have caa := acked_own n1 b1 q1 l1 d1 k c (by omega) hu1 hb1 hl1 hk hux.2.2.1 (by omega) (by omega) (by omega)
        have cra := racked_yes n1 b1 q1 l1 d1 k c (by omega) hu1 hb1 hl1 hk hux.2.2.1 (by omega) (by omega) (by omega)
        have csw := sameS_con n1 (b1 + (k : Int)) (q1.drop k) (max l1 c) d1 n1 (b1 + (k : Int)) (q1.drop k) (max l1 c) d1 (by rw [List.length_drop]; omega)
        simp only [and_self, decide_true] at csw
        have csn3 := sender_con n1 (b1 + (k : Int)) (q1.drop k) (max l1 c) d1 (by rw [List.length_drop]; omega)
        rw [sh_id (by rw [List.length_drop]; omega)] at csn3
        have hqe : (q1.drop k).length = q1.length - k := List.length_drop
        rw [← hqe] at caa
        repeat' ((conv => whnf); first
          | with_reducible first | refine spB_t ?_
          | ((with_reducible apply spB_cong); (focus (simp only [beq_self_eq_true, bne_self_eq_false, Bool.true_bne, Bool.false_bne, Bool.bne_true, Bool.bne_false, Bool.true_beq, Bool.false_beq, Bool.not_true, Bool.not_false, Bool.not_not, Int.reduceBEq, Int.reduceBNe, Int.reduceLE, Int.reduceLT, Int.reduceEq, decide_true, decide_false]; rfl)))
          | with_reducible first | refine spB_no (by decide) ?_
          | (with_reducible refine spB_dec ?_ ?_ <;> intro _ <;> (try (exfalso; first | contradiction | omega | (rename_i hz; refine hz ?_; simp; done) | (rename_i hz; simp at hz; done) | (simp only [LN] at *; omega))))
          | (with_reducible refine spB_beq ?_ ?_ <;> intro _ <;> (try (exfalso; first | contradiction | omega | (rename_i hz; refine hz ?_; simp; done) | (rename_i hz; simp at hz; done) | (simp only [LN] at *; omega))))
          | with_reducible first | refine Z.rowN_known hx ?_
          | ((with_reducible refine Z.vN_K h4 ?_ ?_); (focus rfl))
          | ((with_reducible apply ixN_litp); (focus (exact rfl)); (focus ((try simp only [LN] at *) <;> omega)))
          | with_reducible first | refine wr_mk _ rfl ?_
          | with_reducible refine nzN_mk (by omega) ?_
          | with_reducible first | refine Z.callZ_in tabOk 13 Try.f22 _ Try.func22 (by kernel_rfl) rfl rfl rfl ?_
          | ((first | (with_reducible refine Z.callZ_mk ?_ (crs) ?_) | (with_reducible refine Z.callZ_mk ?_ (ccs) ?_) | (with_reducible refine Z.callZ_mk ?_ (caa) ?_) | (with_reducible refine Z.callZ_mk ?_ (cra) ?_)); (focus ((repeat' (first | exact trivial | exact rfl | apply And.intro)); done)))
          | ((first | (with_reducible refine Z.callZ_mk ?_ (csn) ?_)); (focus ((repeat' (first | exact trivial | exact rfl | apply And.intro)); done)))
          | ((first | (with_reducible refine Z.callZ_mk ?_ (csn3) ?_)); (focus ((repeat' (first | exact trivial | exact rfl | apply And.intro)); done)))
          | ((first | (with_reducible refine Z.callZ_mk ?_ (csw) ?_)); (focus ((repeat' (first | exact trivial | exact rfl | exact low_oslr (fun _ => rfl) | apply And.intro)); done))))
        all_goals (try (conv => whnf))
        all_goals try (show Nat.ble _ _ = true; rfl)
        all_goals try (exfalso; rename_i hz; cases hz; done)
        all_goals try (exfalso; (try simp only [LN] at *) <;> omega)
        refine Z.loopK tabOk (fun zq : Nat => [(5, .val (.int .i64 (zq : Int)))]) (fun zq : Nat => ([(6, some (Z.Ob.b ⟨(spo (q1.drop k) zq).map cE, 5, 33, false⟩))] : Z.Kr)) (fun zq => zq ≤ (q1.drop k).length) (fun zq => (q1.drop k).length - zq) 0 7 [(0, _), (4, _)] ⟨rfl, rfl, trivial⟩ [(1, _), (3, _), (5, _)] ⟨rfl, rfl, rfl, trivial⟩ ?_ ?_ rfl rfl (Nat.zero_le _) ?_
        · repeat' (first | exact trivial | apply And.intro | exact ⟨_, rfl, Z.Imp.refl _⟩)
        · repeat' (first | exact trivial | (intro b hb; cases hb; refine ⟨_, rfl, ⟨rfl, rfl, rfl⟩, Z.imp_eq ?_⟩; first | rfl | exact ren_map fun _ => rfl; done) | apply And.intro)
        rintro j HINV
        dsimp only at HINV ⊢
        have hspl : (spo (q1.drop k) j).length = (q1.drop k).length := spo_len HINV
        by_cases hj : j < (q1.drop k).length
        · obtain ⟨z9, hz9⟩ := getElem?_some' (xs := spo (q1.drop k) j) (i := j) (by omega)
          repeat' ((conv => whnf); first
            | (with_reducible refine spB_dec ?_ ?_ <;> intro _ <;> (try (exfalso; first | contradiction | omega | (rename_i hz; refine hz ?_; simp; done) | (rename_i hz; simp at hz; done) | (simp only [LN] at *; omega))))
            | ((with_reducible refine ixN_mk (j) ?_ ?_ ?_); (focus (first | rfl)); (focus ((try simp only [LN] at *) <;> omega)))
            | ((with_reducible refine rowN_mk (cE z9) ?_ ?_); (focus (show (List.map cE _)[0 + j]? = some (cE z9); rw [Nat.zero_add, List.getElem?_map, hz9]; rfl)))
            | with_reducible refine wr_i64 (by first | omega | (simp only [LN] at *; omega)) ?_)
          all_goals (try (conv => whnf))
          all_goals try (show Nat.ble _ _ = true; rfl)
          all_goals try (exfalso; rename_i hz; cases hz; done)
          all_goals try (exfalso; (try simp only [LN] at *) <;> omega)
          all_goals first
            | ((refine Z.rnd_rw 6 ((spo (q1.drop k) (j + 1)).map cE) rfl rfl ?_ ?_); (focus (exact spo_set hj)); ((refine Z.rndK ((j + 1)) (fun s => [0, 1, 2, 3, 4, 5, 6]) rfl rfl rfl rfl ?_ ?_ ?_ ?_); (focus (repeat' (first | exact trivial | exact rfl | apply And.intro))); (focus (repeat' (first | exact trivial | (intro b hb; cases hb; rfl) | exact Z.blk_sub rfl rfl (ren_map fun _ => rfl) | apply And.intro))); (focus (((try dsimp only); omega))); ((try dsimp only); omega)))
        repeat' ((conv => whnf); first
          | with_reducible first | refine spB_t ?_
          | ((with_reducible apply spB_cong); (focus (simp only [beq_self_eq_true, bne_self_eq_false, Bool.true_bne, Bool.false_bne, Bool.bne_true, Bool.bne_false, Bool.true_beq, Bool.false_beq, Bool.not_true, Bool.not_false, Bool.not_not, Int.reduceBEq, Int.reduceBNe, Int.reduceLE, Int.reduceLT, Int.reduceEq, decide_true, decide_false]; rfl)))
          | with_reducible first | refine spB_no (by decide) ?_
          | (with_reducible refine spB_dec ?_ ?_ <;> intro _ <;> (try (exfalso; first | contradiction | omega | (rename_i hz; refine hz ?_; simp; done) | (rename_i hz; simp at hz; done) | (simp only [LN] at *; omega))))
          | with_reducible refine wr_i64 (by first | omega | (simp only [LN] at *; omega)) ?_
          | ((first | (with_reducible refine Z.callZ_mk ?_ (css) ?_)); (focus ((repeat' (first | exact trivial | exact rfl | apply And.intro)); done)))
          | ((with_reducible apply ex_and); exact rfl))
        all_goals (try (conv => whnf))
        all_goals try (show Nat.ble _ _ = true; rfl)
        all_goals try (exfalso; rename_i hz; cases hz; done)
        all_goals try (exfalso; (try simp only [LN] at *) <;> omega)
        all_goals first
          | ((refine Z.rndK ((i + 1, n1, (b1 + (k : Int)), (q1.drop k), (max l1 c), d1)) (fun s => [0, 1]) rfl rfl rfl rfl ?_ ?_ ?_ ?_); (focus (repeat' (first | exact trivial | exact rfl | apply And.intro))); (focus (repeat' (first | exact trivial | (intro b hb; cases hb; rfl) | apply And.intro))); (focus (exact ⟨by (try dsimp only); omega, by (try dsimp only); omega, fun x hx => hu1 x (List.mem_of_mem_drop hx), by (try dsimp only); omega, by (try dsimp only); omega⟩)); ((try dsimp only); omega))
      · have caa := acked_same n1 b1 q1 l1 d1 pk (by omega) hu1 hb1 hl1 hk hux.2.1 hux.2.2.1 ha
        have csn3 := csn
        have csw := css
        repeat' ((conv => whnf); first
          | with_reducible first | refine spB_t ?_
          | ((with_reducible apply spB_cong); (focus (simp only [beq_self_eq_true, bne_self_eq_false, Bool.true_bne, Bool.false_bne, Bool.bne_true, Bool.bne_false, Bool.true_beq, Bool.false_beq, Bool.not_true, Bool.not_false, Bool.not_not, Int.reduceBEq, Int.reduceBNe, Int.reduceLE, Int.reduceLT, Int.reduceEq, decide_true, decide_false]; rfl)))
          | with_reducible first | refine spB_no (by decide) ?_ | refine spB_not ?_
          | (with_reducible refine spB_dec ?_ ?_ <;> intro _ <;> (try (exfalso; first | contradiction | omega | (rename_i hz; refine hz ?_; simp; done) | (rename_i hz; simp at hz; done) | (simp only [LN] at *; omega) | (exact ha ⟨ack_no2 (by assumption) (by assumption) (by assumption), by omega, by omega, by omega, by omega⟩))))
          | (with_reducible refine spB_beq ?_ ?_ <;> intro _ <;> (try (exfalso; first | contradiction | omega | (rename_i hz; refine hz ?_; simp; done) | (rename_i hz; simp at hz; done) | (simp only [LN] at *; omega) | (exact ha ⟨ack_no2 (by assumption) (by assumption) (by assumption), by omega, by omega, by omega, by omega⟩))))
          | (with_reducible refine spB_mk ?_ ?_ <;> intro _ <;> (try (exfalso; first | contradiction | omega | (rename_i hz; refine hz ?_; simp; done) | (rename_i hz; simp at hz; done) | (simp only [LN] at *; omega) | (exact ha ⟨ack_no2 (by assumption) (by assumption) (by assumption), by omega, by omega, by omega, by omega⟩))))
          | with_reducible first | refine Z.rowN_known hx ?_
          | ((with_reducible refine Z.vN_K h4 ?_ ?_); (focus rfl))
          | ((with_reducible apply ixN_litp); (focus (exact rfl)); (focus ((try simp only [LN] at *) <;> omega)))
          | with_reducible refine wr_u64 (by omega) ?_
          | with_reducible first | refine wr_mk _ rfl ?_
          | with_reducible refine nzN_mk (by omega) ?_
          | with_reducible first | refine Z.callZ_in tabOk 74 Try.f20 _ Try.func20 (by kernel_rfl) rfl rfl rfl ?_ | refine Z.callZ_in tabOk 13 Try.f22 _ Try.func22 (by kernel_rfl) rfl rfl rfl ?_
          | ((first | (with_reducible refine Z.callZ_mk ?_ (crs) ?_) | (with_reducible refine Z.callZ_mk ?_ (ccs) ?_) | (with_reducible refine Z.callZ_mk ?_ (caa) ?_)); (focus ((repeat' (first | exact trivial | exact rfl | apply And.intro)); done)))
          | ((first | (with_reducible refine Z.callZ_mk ?_ (csn) ?_)); (focus ((repeat' (first | exact trivial | exact rfl | apply And.intro)); done)))
          | ((first | (with_reducible refine Z.callZ_mk ?_ (css) ?_)); (focus ((repeat' (first | exact trivial | exact rfl | exact low_oslr (fun _ => rfl) | apply And.intro)); done)))
          | ((with_reducible apply ex_and); exact rfl)
          | with_reducible first | refine Z.drawZ_rule tabOk mixOk ?_)
        all_goals (try (conv => whnf))
        all_goals try (show Nat.ble _ _ = true; rfl)
        all_goals try (exfalso; rename_i hz; cases hz; done)
        all_goals try (exfalso; (try simp only [LN] at *) <;> omega)
        all_goals try (exfalso; (exact ha ⟨ack_no2 (by assumption) (by assumption) (by assumption), by omega, by omega, by omega, by omega⟩))
        all_goals (
          refine Z.loopK tabOk (fun zq : Nat => [(5, .val (.int .i64 (zq : Int)))]) (fun zq : Nat => ([(6, some (Z.Ob.b ⟨(spo q1 zq).map cE, 5, 33, false⟩))] : Z.Kr)) (fun zq => zq ≤ q1.length) (fun zq => q1.length - zq) 0 10 [(0, _), (4, _)] ⟨rfl, rfl, trivial⟩ [(1, _), (3, _), (5, _)] ⟨rfl, rfl, rfl, trivial⟩ ?_ ?_ rfl rfl (Nat.zero_le _) ?_
          · repeat' (first | exact trivial | apply And.intro | exact ⟨_, rfl, Z.Imp.refl _⟩)
          · repeat' (first | exact trivial | (intro b hb; cases hb; refine ⟨_, rfl, ⟨rfl, rfl, rfl⟩, Z.imp_eq ?_⟩; first | rfl | exact ren_map fun _ => rfl; done) | apply And.intro)
          rintro j HINV
          dsimp only at HINV ⊢
          have hspl : (spo q1 j).length = q1.length := spo_len HINV
          by_cases hj : j < q1.length
          · obtain ⟨z9, hz9⟩ := getElem?_some' (xs := spo q1 j) (i := j) (by omega)
            repeat' ((conv => whnf); first
              | (with_reducible refine spB_dec ?_ ?_ <;> intro _ <;> (try (exfalso; first | contradiction | omega | (rename_i hz; refine hz ?_; simp; done) | (rename_i hz; simp at hz; done) | (simp only [LN] at *; omega))))
              | ((with_reducible refine ixN_mk (j) ?_ ?_ ?_); (focus (first | rfl)); (focus ((try simp only [LN] at *) <;> omega)))
              | ((with_reducible refine rowN_mk (cE z9) ?_ ?_); (focus (show (List.map cE _)[0 + j]? = some (cE z9); rw [Nat.zero_add, List.getElem?_map, hz9]; rfl)))
              | with_reducible refine wr_i64 (by first | omega | (simp only [LN] at *; omega)) ?_)
            all_goals (try (conv => whnf))
            all_goals try (show Nat.ble _ _ = true; rfl)
            all_goals try (exfalso; rename_i hz; cases hz; done)
            all_goals try (exfalso; (try simp only [LN] at *) <;> omega)
            all_goals first
              | ((refine Z.rnd_rw 6 ((spo q1 (j + 1)).map cE) rfl rfl ?_ ?_); (focus (exact spo_set hj)); ((refine Z.rndK ((j + 1)) (fun s => [0, 1, 2, 3, 4, 5, 6, 7, 8, 9]) rfl rfl rfl rfl ?_ ?_ ?_ ?_); (focus (repeat' (first | exact trivial | exact rfl | apply And.intro))); (focus (repeat' (first | exact trivial | (intro b hb; cases hb; rfl) | exact Z.blk_sub rfl rfl (ren_map fun _ => rfl) | apply And.intro))); (focus (((try dsimp only); omega))); ((try dsimp only); omega)))
          repeat' ((conv => whnf); first
            | with_reducible first | refine spB_t ?_
            | ((with_reducible apply spB_cong); (focus (simp only [beq_self_eq_true, bne_self_eq_false, Bool.true_bne, Bool.false_bne, Bool.bne_true, Bool.bne_false, Bool.true_beq, Bool.false_beq, Bool.not_true, Bool.not_false, Bool.not_not, Int.reduceBEq, Int.reduceBNe, Int.reduceLE, Int.reduceLT, Int.reduceEq, decide_true, decide_false]; rfl)))
            | with_reducible first | refine spB_no (by decide) ?_
            | (with_reducible refine spB_dec ?_ ?_ <;> intro _ <;> (try (exfalso; first | contradiction | omega | (rename_i hz; refine hz ?_; simp; done) | (rename_i hz; simp at hz; done) | (simp only [LN] at *; omega))))
            | with_reducible refine wr_i64 (by first | omega | (simp only [LN] at *; omega)) ?_
            | ((first | (with_reducible refine Z.callZ_mk ?_ (css) ?_)); (focus ((repeat' (first | exact trivial | exact rfl | apply And.intro)); done)))
            | ((with_reducible apply ex_and); exact rfl))
          all_goals (try (conv => whnf))
          all_goals try (show Nat.ble _ _ = true; rfl)
          all_goals try (exfalso; rename_i hz; cases hz; done)
          all_goals try (exfalso; (try simp only [LN] at *) <;> omega)
          all_goals first
            | ((refine Z.rndK ((i + 1, n1, b1, q1, l1, d1)) (fun s => [0, 1]) rfl rfl rfl rfl ?_ ?_ ?_ ?_); (focus (repeat' (first | exact trivial | exact rfl | apply And.intro))); (focus (repeat' (first | exact trivial | (intro b hb; cases hb; rfl) | apply And.intro))); (focus (exact ⟨by (try dsimp only); omega, hq9, hu1, hb1, hl1⟩)); ((try dsimp only); omega)))

end Go.Proofs.Ytoiadndmbppobaa
namespace Go.Proofs.Ytoiadndmbppobaa
open Go Go.RowKit Wx
set_option linter.unusedVariables false
set_option linter.unusedSimpArgs false
set_option maxHeartbeats 4000000
theorem wf_u {z : Int} (h : (Lit.int .u64 z).wf = true) : 0 ≤ z := by
  simp [Lit.wf, IntKind.min, IntKind.max, IntKind.signed, IntKind.bits] at h; omega
def okEl (x : El) : Prop := (Lit.int .u64 x.num).wf = true
theorem rowEl (row : List RT) (h : RowF (.st (.cons 3 1 (.int .i64) (.cons 31 3 (.st (.cons 3 1 (.int .i64) (.cons 3 1 (.int .i64) (.cons 2 1 (.int .i64) .nil)))) (.cons 23 1 (.int .u64) .nil)))) row) : ∃ x, row = eE x ∧ okEl x := by
  obtain ⟨a0, r0, rfl, _, ⟨z0, rfl, w0⟩, a1, r1, rfl, _, ⟨b1, s1, rfl, _, ⟨z1, rfl, w1⟩, b2, s2, rfl, _, ⟨z2, rfl, w2⟩, b3, s3, rfl, _, ⟨z3, rfl, w3⟩, rfl⟩, a2, r2, rfl, _, ⟨z4, rfl, w4⟩, rfl⟩ := h
  exact ⟨⟨z0, z1, z2, z3, z4⟩, rfl, w4⟩
abbrev eSn (x : Sn) : List RT := [RT.v (.int .u32 x.n), RT.v (.int .u64 x.b), RT.ro 5 (x.q.map eE), RT.v (.int .u64 x.l), RT.v (.bool x.d)]
def okSn (x : Sn) : Prop := (Lit.int .u32 x.n).wf = true ∧ (Lit.int .u64 x.b).wf = true ∧ (x.q.length ≤ maxLen ∧ ∀ z ∈ x.q, okEl z) ∧ (Lit.int .u64 x.l).wf = true ∧ True
theorem rowSn (row : List RT) (h : RowF (.st (.cons 22 1 (.int .u32) (.cons 23 1 (.int .u64) (.cons 24 1 (.sl (.st (.cons 3 1 (.int .i64) (.cons 31 3 (.st (.cons 3 1 (.int .i64) (.cons 3 1 (.int .i64) (.cons 2 1 (.int .i64) .nil)))) (.cons 23 1 (.int .u64) .nil)))) 33 5) (.cons 23 1 (.int .u64) (.cons 4 1 .bool .nil)))))) row) : ∃ x, row = eSn x ∧ okSn x := by
  obtain ⟨a0, r0, rfl, _, ⟨z0, rfl, w0⟩, a1, r1, rfl, _, ⟨z1, rfl, w1⟩, a2, r2, rfl, _, ⟨rows2, rfl, l2, h2⟩, a3, r3, rfl, _, ⟨z3, rfl, w3⟩, a4, r4, rfl, _, ⟨z4, rfl⟩, rfl⟩ := h
  obtain ⟨z2, rfl, k2⟩ := rows_map eE (fun z => okEl z) rowEl rows2 h2
  exact ⟨⟨z0, z1, z2, z3, z4⟩, rfl, w0, w1, ⟨by simpa using l2, k2⟩, w3, trivial⟩
def okTl (x : Tl) : Prop := (Lit.int .u64 x.e.num).wf = true ∧ (Lit.int .u64 x.p.sq).wf = true ∧ (Lit.int .u64 x.p.lim).wf = true ∧ (Lit.int .u64 x.p.e.num).wf = true
theorem rowTl (row : List RT) (h : RowF (.st (.cons 3 1 (.int .i64) (.cons 33 5 (.st (.cons 3 1 (.int .i64) (.cons 31 3 (.st (.cons 3 1 (.int .i64) (.cons 3 1 (.int .i64) (.cons 2 1 (.int .i64) .nil)))) (.cons 23 1 (.int .u64) .nil)))) (.cons 35 9 (.st (.cons 3 1 (.int .i64) (.cons 22 1 (.int .u32) (.cons 23 1 (.int .u64) (.cons 23 1 (.int .u64) (.cons 33 5 (.st (.cons 3 1 (.int .i64) (.cons 31 3 (.st (.cons 3 1 (.int .i64) (.cons 3 1 (.int .i64) (.cons 2 1 (.int .i64) .nil)))) (.cons 23 1 (.int .u64) .nil)))) .nil)))))) .nil)))) row) : ∃ x, row = eTl x ∧ okTl x := by
  obtain ⟨a0, r0, rfl, _, ⟨z0, rfl, _⟩, a3, r3, rfl, _, ⟨c0, s0, rfl, _, ⟨y0, rfl, _⟩, c1, s1, rfl, _, ⟨d0, t0, rfl, _, ⟨x0, rfl, _⟩, d1, t1, rfl, _, ⟨x1, rfl, _⟩, d2, t2, rfl, _, ⟨x2, rfl, _⟩, rfl⟩, c2, s2, rfl, _, ⟨y2, rfl, w2⟩, rfl⟩, a4, r4, rfl, _, ⟨p0, q0, rfl, _, ⟨u0, rfl, _⟩, p1, q1, rfl, _, ⟨u1, rfl, _⟩, p2, q2, rfl, _, ⟨u2, rfl, w3⟩, p3, q3, rfl, _, ⟨u3, rfl, w4⟩, p4, q4, rfl, _, ⟨e0, g0, rfl, _, ⟨v0, rfl, _⟩, e1, g1, rfl, _, ⟨f0, h0, rfl, _, ⟨m0, rfl, _⟩, f1, h1, rfl, _, ⟨m1, rfl, _⟩, f2, h2, rfl, _, ⟨m2, rfl, _⟩, rfl⟩, e2, g2, rfl, _, ⟨v2, rfl, w5⟩, rfl⟩, rfl⟩, rfl⟩ := h
  exact ⟨⟨z0, ⟨y0, x0, x1, x2, y2⟩, ⟨u0, u1, u2, u3, ⟨v0, m0, m1, m2, v2⟩⟩⟩, rfl, w2, w3, w4, w5⟩
namespace linkSends
theorem main (avs : List A0) (h : All2 FitA [(.st (.cons 22 1 (.int .u32) (.cons 23 1 (.int .u64) (.cons 24 1 (.sl (.st (.cons 3 1 (.int .i64) (.cons 31 3 (.st (.cons 3 1 (.int .i64) (.cons 3 1 (.int .i64) (.cons 2 1 (.int .i64) .nil)))) (.cons 23 1 (.int .u64) .nil)))) 33 5) (.cons 23 1 (.int .u64) (.cons 4 1 .bool .nil)))))), (.sl (.st (.cons 3 1 (.int .i64) (.cons 33 5 (.st (.cons 3 1 (.int .i64) (.cons 31 3 (.st (.cons 3 1 (.int .i64) (.cons 3 1 (.int .i64) (.cons 2 1 (.int .i64) .nil)))) (.cons 23 1 (.int .u64) .nil)))) (.cons 35 9 (.st (.cons 3 1 (.int .i64) (.cons 22 1 (.int .u32) (.cons 23 1 (.int .u64) (.cons 23 1 (.int .u64) (.cons 33 5 (.st (.cons 3 1 (.int .i64) (.cons 31 3 (.st (.cons 3 1 (.int .i64) (.cons 3 1 (.int .i64) (.cons 2 1 (.int .i64) .nil)))) (.cons 23 1 (.int .u64) .nil)))) .nil)))))) .nil)))) 37 15)] avs) : Con Try.prog 3 avs (fun x K t => x = .val (.bool true) ∧ K = [] ∧ t = 0) := by
  obtain ⟨x0, x1, rfl, h0, h1⟩ : ∃ x0 x1, avs = [x0, x1] ∧ FitA (.st (.cons 22 1 (.int .u32) (.cons 23 1 (.int .u64) (.cons 24 1 (.sl (.st (.cons 3 1 (.int .i64) (.cons 31 3 (.st (.cons 3 1 (.int .i64) (.cons 3 1 (.int .i64) (.cons 2 1 (.int .i64) .nil)))) (.cons 23 1 (.int .u64) .nil)))) 33 5) (.cons 23 1 (.int .u64) (.cons 4 1 .bool .nil)))))) x0 ∧ FitA (.sl (.st (.cons 3 1 (.int .i64) (.cons 33 5 (.st (.cons 3 1 (.int .i64) (.cons 31 3 (.st (.cons 3 1 (.int .i64) (.cons 3 1 (.int .i64) (.cons 2 1 (.int .i64) .nil)))) (.cons 23 1 (.int .u64) .nil)))) (.cons 35 9 (.st (.cons 3 1 (.int .i64) (.cons 22 1 (.int .u32) (.cons 23 1 (.int .u64) (.cons 23 1 (.int .u64) (.cons 33 5 (.st (.cons 3 1 (.int .i64) (.cons 31 3 (.st (.cons 3 1 (.int .i64) (.cons 3 1 (.int .i64) (.cons 2 1 (.int .i64) .nil)))) (.cons 23 1 (.int .u64) .nil)))) .nil)))))) .nil)))) 37 15) x1 := by
    cases avs with
    | nil => exact h.elim
    | cons x0 r => cases r with
      | nil => exact h.2.elim
      | cons x1 r => cases r with
        | nil => exact ⟨x0, x1, rfl, h.1, h.2.1⟩
        | cons => exact h.2.2.elim
  clear h
  obtain ⟨row0, hrow0, rfl⟩ := h0
  obtain ⟨x, rfl, kx⟩ := rowSn row0 hrow0
  obtain ⟨r1, ⟨rows1, hr1, lls, hrows1⟩, rfl⟩ := h1
  simp only [List.cons.injEq, and_true] at hr1
  subst hr1
  obtain ⟨ls, rfl, kls⟩ := rows_map eTl (okTl) rowTl rows1 hrows1
  rw [List.length_map] at lls
  exact sends_con x.n x.b x.q x.l x.d ls (by have := kx.2.2.1.1; simpa [maxLen] using this) (fun e he => wf_u (kx.2.2.1.2 e he)) (wf_u kx.2.1) (wf_u kx.2.2.2.1) (by simpa [maxLen] using lls) (fun y hy => ⟨wf_u (kls y hy).1, wf_u (kls y hy).2.1, wf_u (kls y hy).2.2.1, wf_u (kls y hy).2.2.2⟩)
end linkSends
end Go.Proofs.Ytoiadndmbppobaa
