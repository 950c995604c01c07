import Derived.Test.YtpnfogckdceiaaaLib3
import Derived.Test.YtpnfogckdceiaaaLib4
import Derived.Test.YtpnfogckdceiaaaLib5
import Derived.Test.YtpnfogckdceiaaaRows
namespace Go.Proofs.Ytpnfogckdceiaaa
open Go Go.RowKit Wx
set_option linter.unusedVariables false
set_option linter.unusedSimpArgs false
set_option maxHeartbeats 4000000
structure El where
  kd : Int
  src : Int
  key : Int
  val : Int
  num : Int
deriving DecidableEq
abbrev eE (x : El) : List RT := [RT.v (.int .i64 x.kd), RT.v (.int .i64 x.src), RT.v (.int .i64 x.key), RT.v (.int .i64 x.val), RT.v (.int .u64 x.num)]
abbrev eI (z : Int) : List RT := [RT.v (.int .i64 z)]
abbrev cI (z : Int) : List Ce := [Ce.v (.int .i64 z)]
def cmpI (a b : Int) : Int := if a < b then -1 else if b < a then 1 else 0
def cmpR (s k s2 k2 : Int) : Int := if cmpI s s2 ≠ 0 then cmpI s s2 else cmpI k k2
theorem cmp_eq (s k s2 k2 : Int) : (cmpR s k s2 k2 == 0) = (s == s2 && k == k2) := by
  unfold cmpR cmpI
  apply Bool.eq_iff_iff.2
  simp only [beq_iff_eq, Bool.and_eq_true]
  repeat' split
  all_goals first | omega | (constructor <;> intro h <;> omega)
/-- The lowest bytes of a number, the highest of these first. -/
def be : Nat → Int → List Int
  | 0, _ => []
  | n + 1, x => be n (x / 256) ++ [x % 256]
/-- The bytes of an element. -/
def encE (e : El) : List Int := if e.kd = 1 then e.kd :: e.src :: e.key :: be 8 (IntKind.u64.wrap e.val) else if e.kd = 2 then e.kd :: be 8 e.num else [e.kd]
def encs (l : List El) : List Int := l.flatMap encE
def enc (l : List El) : List Int := (l.length : Int) :: encs l
/-- The values of a key. -/
def ofR (l : List El) (s k : Int) : List Int := l.filterMap fun e => if e.kd = 1 ∧ e.src = s ∧ e.key = k then some e.val else none
theorem ofR_yes {l : List El} {s k : Int} {i : Nat} {x : El} (h : l[i]? = some x) (h1 : x.kd = 1 ∧ x.src = s ∧ x.key = k) : ofR (l.take (i + 1)) s k = ofR (l.take i) s k ++ [x.val] := by
  unfold ofR
  rw [take_snoc h, List.filterMap_append]; simp [h1]
theorem ofR_no {l : List El} {s k : Int} {i : Nat} {x : El} (h : l[i]? = some x) (h1 : ¬ (x.kd = 1 ∧ x.src = s ∧ x.key = k)) : ofR (l.take (i + 1)) s k = ofR (l.take i) s k := by
  unfold ofR
  rw [take_snoc h, List.filterMap_append]; simp [h1]
theorem ofR_len {l : List El} {s k : Int} : (ofR l s k).length ≤ l.length := List.length_filterMap_le ..
def isB (l : List Int) : Prop := ∀ b ∈ l, 0 ≤ b ∧ b ≤ 255
end Go.Proofs.Ytpnfogckdceiaaa
namespace Go.Proofs.Ytpnfogckdceiaaa
open Go Go.RowKit Wx
set_option linter.unusedVariables false
set_option linter.unusedSimpArgs false
set_option maxHeartbeats 4000000
end Go.Proofs.Ytpnfogckdceiaaa
namespace Go.Proofs.Ytpnfogckdceiaaa
open Go Go.RowKit Wx
set_option linter.unusedVariables false
set_option linter.unusedSimpArgs false
set_option maxHeartbeats 4000000
end Go.Proofs.Ytpnfogckdceiaaa
namespace Go.Proofs.Ytpnfogckdceiaaa
open Go Go.RowKit Wx
set_option linter.unusedVariables false
set_option linter.unusedSimpArgs false
set_option maxHeartbeats 4000000
end Go.Proofs.Ytpnfogckdceiaaa
namespace Go.Proofs.Ytpnfogckdceiaaa
open Go Go.RowKit Wx
set_option linter.unusedVariables false
set_option linter.unusedSimpArgs false
set_option maxHeartbeats 4000000
end Go.Proofs.Ytpnfogckdceiaaa
namespace Go.Proofs.Ytpnfogckdceiaaa
open Go Go.RowKit Wx
set_option linter.unusedVariables false
set_option linter.unusedSimpArgs false
set_option maxHeartbeats 4000000
end Go.Proofs.Ytpnfogckdceiaaa
namespace Go.Proofs.Ytpnfogckdceiaaa
open Go Go.RowKit Wx
set_option linter.unusedVariables false
set_option linter.unusedSimpArgs false
set_option maxHeartbeats 4000000
theorem app_litI {A C : List Int} {S : List (List Ce)} {B : List Int} (hS : S = B.map cI) (h : C = A ++ B) : A.map cI ++ S = C.map cI := by
  rw [hS, h, List.map_append]
end Go.Proofs.Ytpnfogckdceiaaa
namespace Go.Proofs.Ytpnfogckdceiaaa
open Go Go.RowKit Wx
set_option linter.unusedVariables false
set_option linter.unusedSimpArgs false
set_option maxHeartbeats 4000000
theorem nan_con (a : Int)  : Con Try.prog 38 [.one (.v (.int .i64 a))] (fun rx rK rt => rx = .val (.bool false) ∧ rK = [] ∧ rt = 0) := by
  refine Z.con_ofF tabOk 6 Try.f38 _ Try.func38 (by kernel_rfl) rfl rfl rfl rfl ?_
  repeat' ((conv => whnf); first
    | with_reducible first | refine spB_t ?_)
  all_goals (try (conv => whnf))
  all_goals first
    | ((first | (with_reducible apply Z.retF1)); (focus (exact rfl)); (repeat' (first | exact trivial | (with_reducible apply Z.frz_one) | (with_reducible apply Z.fq_bool) | apply And.intro)); (all_goals (try exact (fun _ => none))); all_goals (simp))

theorem cmp_con (a b : Int)  : Con Try.prog 28 [.one (.v (.int .i64 a)), .one (.v (.int .i64 b))] (fun rx rK rt => rx = .val (.int .i64 (cmpI a b)) ∧ rK = [] ∧ rt = 0) := by
  refine Z.con_ofF tabOk 20 Try.f28 _ Try.func28 (by kernel_rfl) rfl rfl rfl rfl ?_
  repeat' ((conv => whnf); first
    | with_reducible first | refine spB_no (by decide) ?_
    | (with_reducible refine spB_dec ?_ ?_ <;> intro _ <;> (try (exfalso; first | contradiction | omega | (rename_i hz; with_reducible exact absurd rfl hz))))
    | ((first | (with_reducible apply Z.callZ_mk ?_ (nan_con _) ?_)); (rotate_left 1); (focus ((repeat' (first | exact trivial | exact rfl | apply And.intro)); done))))
  all_goals (try (conv => whnf))
  all_goals first
    | ((first | (with_reducible apply Z.retF1)); (focus (exact rfl)); (repeat' (first | exact trivial | (with_reducible apply Z.frz_one) | (with_reducible apply Z.fq_int) | apply And.intro)); (all_goals (try exact (fun _ => none))); all_goals (first | (unfold cmpI; first | rw [if_pos (by omega)] | rw [if_neg (by omega), if_pos (by omega)] | rw [if_neg (by omega), if_neg (by omega)])))

theorem or_con (a b : Int)  : Con Try.prog 27 [.one (.ro false 1 [[.v (.int .i64 a)], [.v (.int .i64 b)]])] (fun rx rK rt => rx = .val (.int .i64 (if a ≠ 0 then a else b)) ∧ rK = [] ∧ rt = 0) := by
  refine Z.con_ofF tabOk 18 Try.f27 _ Try.func27 (by kernel_rfl) rfl rfl rfl rfl ?_
  repeat' ((conv => whnf); first
    | (with_reducible refine spB_dec ?_ ?_ <;> intro _ <;> (try (exfalso; first | contradiction | omega | (rename_i hz; refine hz ?_; simp; done) | (rename_i hz; simp at hz; done) | (simp only [LN] at *; omega))))
    | (with_reducible refine spB_bne ?_ ?_ <;> intro _ <;> (try (exfalso; first | contradiction | omega | (rename_i hz; refine hz ?_; simp; done) | (rename_i hz; simp at hz; done) | (simp only [LN] at *; omega))))
    | with_reducible first | refine Z.loopZ_unroll tabOk 3 ?_
    | ((with_reducible apply rowN_mk); (focus rfl))
    | ((with_reducible apply ixN_lit); (focus (exact rfl)); (focus (exact rfl)))
    | with_reducible refine wr_i64 (by first | omega | (simp only [LN] at *; omega)) ?_)
  all_goals (try (conv => whnf))
  all_goals try (show Nat.ble _ _ = true; rfl)
  all_goals try (exfalso; rename_i hz; cases hz; done)
  all_goals try (exfalso; (try simp only [LN] at *) <;> omega)
  all_goals first
    | ((first | (with_reducible apply Z.retF1)); (focus (exact rfl)); (repeat' (first | exact trivial | (with_reducible apply Z.frz_one) | (with_reducible apply Z.fq_int) | (apply Z.fq_int) | apply And.intro)); (all_goals (try exact (fun _ => none))); all_goals (first | (simp_all; done)))

theorem compare_con (s k v s2 k2 v2 : Int)  : Con Try.prog 14 [.agg [.v (.int .i64 s), .v (.int .i64 k), .v (.int .i64 v)], .agg [.v (.int .i64 s2), .v (.int .i64 k2), .v (.int .i64 v2)]] (fun rx rK rt => rx = .val (.int .i64 (cmpR s k s2 k2)) ∧ rK = [] ∧ rt = 0) := by
  refine Z.con_ofF tabOk 17 Try.f14 _ Try.func14 (by kernel_rfl) rfl rfl rfl rfl ?_
  repeat' ((conv => whnf); first
    | ((first | (with_reducible apply Z.conZ_mz ?_ (or_con _ _) ?_) | (with_reducible apply Z.conZ_mz ?_ (cmp_con _ _) ?_)); (rotate_left 2); (focus ((repeat' (first | exact trivial | exact ⟨_, rfl, rfl, rfl⟩ | exact rfl | apply And.intro)); done)))
    | with_reducible first | refine Z.drawZ_rule tabOk mixOk ?_ | refine Z.apZ_mk (by kernel_rfl) ?_)
  all_goals (try (conv => whnf))
  all_goals first
    | ((first | (with_reducible apply Z.retF1)); (focus (exact rfl)); (repeat' (first | exact trivial | exact rfl | apply And.intro)); (all_goals (try exact (fun _ => none))); all_goals (rfl))

theorem samekey_con (s k v s2 k2 v2 : Int)  : Con Try.prog 15 [.agg [.v (.int .i64 s), .v (.int .i64 k), .v (.int .i64 v)], .agg [.v (.int .i64 s2), .v (.int .i64 k2), .v (.int .i64 v2)]] (fun rx rK rt => rx = .val (.bool (s == s2 && k == k2)) ∧ rK = [] ∧ rt = 0) := by
  refine Z.con_ofF tabOk 9 Try.f15 _ Try.func15 (by kernel_rfl) rfl rfl rfl rfl ?_
  have cq := cmp_eq s k s2 k2
  repeat' ((conv => whnf); first
    | ((first | (with_reducible apply Z.callZ_mk ?_ (compare_con _ _ _ _ _ _) ?_)); (rotate_left 6); (focus ((repeat' (first | exact trivial | exact rfl | apply And.intro)); done))))
  all_goals (try (conv => whnf))
  all_goals first
    | ((first | (with_reducible apply Z.retF1)); (focus (exact rfl)); (repeat' (first | exact trivial | (with_reducible apply Z.frz_one) | (with_reducible apply Z.fq_bool) | apply And.intro)); (all_goals (try exact (fun _ => none))); all_goals (first | exact cq))

end Go.Proofs.Ytpnfogckdceiaaa
namespace Go.Proofs.Ytpnfogckdceiaaa
open Go Go.RowKit Wx
set_option linter.unusedVariables false
set_option linter.unusedSimpArgs false
set_option maxHeartbeats 4000000
theorem of_con (l : List El) (s k v : Int) (hl : l.length ≤ 1000) : Con Try.prog 18 [.one (.ro false 5 (l.map eE)), .agg [.v (.int .i64 s), .v (.int .i64 k), .v (.int .i64 v)]] (fun rx rK rt => rx = .c (.ro true 1 ((ofR l s k).map eI)) ∧ rK = [] ∧ rt = 0) := by
  refine Z.con_ofF tabOk 31 Try.f18 _ Try.func18 (by kernel_rfl) rfl rfl rfl rfl ?_
  have hol := fun i => @ofR_len (l.take i) s k
  repeat' ((conv => whnf); first
    | with_reducible first | refine spB_t ?_)
  all_goals (try (conv => whnf))
  all_goals try (show Nat.ble _ _ = true; rfl)
  all_goals try (exfalso; rename_i hz; cases hz; done)
  all_goals try (exfalso; (try simp only [LN] at *) <;> omega)
  refine Z.loopK tabOk (fun zq : Nat => [(10, .val (.int .i64 (zq : Int))), (5, .c (.gsl 1 ((ofR (l.take zq) s k).map cI)))]) (fun zq : Nat => ([(1, (gB 1 2 ((ofR (l.take zq) s k).map cI)).map Z.Ob.b)] : Z.Kr)) (fun zq => zq ≤ l.length) (fun zq => l.length - zq) 0 2 [(3, _), (8, _), (9, _)] ⟨rfl, rfl, rfl, trivial⟩ [(0, some _)] ⟨rfl, trivial⟩ ?_ ?_ rfl rfl (Nat.zero_le _) ?_
  · repeat' (first | exact trivial | apply And.intro | exact ⟨_, rfl, Z.Imp.refl _⟩ | exact ⟨_, rfl, Z.Imp.nilg _⟩)
  · repeat' (first | exact trivial | (intro b hb; cases hb; done) | apply And.intro)
  rintro i HINV
  dsimp only at HINV ⊢
  have hol2 := hol i
  rw [List.length_take] at hol2
  by_cases hi : i < l.length
  · obtain ⟨x, hx⟩ := getElem?_some' (xs := l) (i := i) hi
    by_cases hc : x.kd = 1 ∧ x.src = s ∧ x.key = k
    · have hof := ofR_yes hx hc
      repeat' ((conv => whnf); first
        | with_reducible first | refine spB_t ?_
        | (with_reducible refine spB_dec ?_ ?_ <;> intro _ <;> (try (exfalso; first | contradiction | omega | (rename_i hz; refine hz ?_; simp; done) | (rename_i hz; simp at hz; done) | (simp only [LN] at *; omega))))
        | (with_reducible refine spB_beq ?_ ?_ <;> intro _ <;> (try (exfalso; first | contradiction | omega | (rename_i hz; refine hz ?_; simp; done) | (rename_i hz; simp at hz; done) | (simp only [LN] at *; omega))))
        | (with_reducible refine spB_mk ?_ ?_ <;> intro _ <;> (try (exfalso; first | contradiction | omega | (rename_i hz; refine hz ?_; simp; done) | (rename_i hz; simp at hz; done) | (simp only [LN] at *; omega))))
        | with_reducible first | refine Z.rowN_known hx ?_
        | ((with_reducible refine posE_pos ?_ ?_); (focus ((try simp only [LN] at *) <;> omega)))
        | ((with_reducible apply ixN_litp); (focus (exact rfl)); (focus ((try simp only [LN] at *) <;> omega)))
        | ((with_reducible refine apdN.mk ?_ ?_ ?_ ?_ ?_ ?_); (focus (first | rfl)); (focus (first | exact one_all (by rfl))); (focus ((try simp only [LN] at *) <;> omega)); (focus ((try simp only [LN] at *) <;> omega)); (focus ((try simp only [LN] at *) <;> omega)))
        | with_reducible refine wr_i64 (by first | omega | (simp only [LN] at *; omega)) ?_
        | ((first | (with_reducible apply Z.callZ_mk ?_ (samekey_con _ _ _ _ _ _) ?_)); (rotate_left 6); (focus ((repeat' (first | exact trivial | exact rfl | apply And.intro)); done)))
        | ((with_reducible refine eqN_mk2 ?_ ?_); (focus (exact Z.kb_some rfl))))
      all_goals (try (conv => whnf))
      all_goals try (show Nat.ble _ _ = true; rfl)
      all_goals try (exfalso; rename_i hz; cases hz; done)
      all_goals try (exfalso; (try simp only [LN] at *) <;> omega)
      all_goals try (exfalso; simp_all; done)
      all_goals first
        | ((refine Z.rndK ((i + 1)) (fun s => [0, s.idAt 5]) rfl rfl rfl rfl ?_ ?_ ?_ ?_); (focus (repeat' (first | exact trivial | exact congrArg (fun r => some (AV.c (Ce.gsl _ r))) (app_litI (B := [x.val]) rfl hof) | exact rfl | apply And.intro))); (focus (repeat' (first | exact trivial | exact Z.gB_sub' rfl (app_litI (B := [x.val]) rfl hof) (ren_map fun _ => rfl) | (intro b hb; cases hb; rfl) | apply And.intro))); (focus (((try dsimp only); omega))); ((try dsimp only); omega))
    · have hof := ofR_no hx hc
      repeat' ((conv => whnf); first
        | with_reducible first | refine spB_t ?_
        | with_reducible first | refine spB_no (by decide) ?_
        | (with_reducible refine spB_dec ?_ ?_ <;> intro _ <;> (try (exfalso; first | contradiction | omega | (rename_i hz; refine hz ?_; simp; done) | (rename_i hz; simp at hz; done) | (simp only [LN] at *; omega))))
        | (with_reducible refine spB_beq ?_ ?_ <;> intro _ <;> (try (exfalso; first | contradiction | omega | (rename_i hz; refine hz ?_; simp; done) | (rename_i hz; simp at hz; done) | (simp only [LN] at *; omega))))
        | (with_reducible refine spB_mk ?_ ?_ <;> intro _ <;> (try (exfalso; first | contradiction | omega | (rename_i hz; refine hz ?_; simp; done) | (rename_i hz; simp at hz; done) | (simp only [LN] at *; omega))))
        | with_reducible first | refine Z.rowN_known hx ?_
        | ((with_reducible refine posE_pos ?_ ?_); (focus ((try simp only [LN] at *) <;> omega)))
        | ((with_reducible apply ixN_litp); (focus (exact rfl)); (focus ((try simp only [LN] at *) <;> omega)))
        | ((with_reducible refine apdN.mk ?_ ?_ ?_ ?_ ?_ ?_); (focus (first | rfl)); (focus (first | exact one_all (by rfl))); (focus ((try simp only [LN] at *) <;> omega)); (focus ((try simp only [LN] at *) <;> omega)); (focus ((try simp only [LN] at *) <;> omega)))
        | with_reducible refine wr_i64 (by first | omega | (simp only [LN] at *; omega)) ?_
        | ((first | (with_reducible apply Z.callZ_mk ?_ (samekey_con _ _ _ _ _ _) ?_)); (rotate_left 6); (focus ((repeat' (first | exact trivial | exact rfl | apply And.intro)); done)))
        | ((with_reducible refine eqN_mk2 ?_ ?_); (focus (exact Z.kb_some rfl))))
      all_goals (try (conv => whnf))
      all_goals try (show Nat.ble _ _ = true; rfl)
      all_goals try (exfalso; rename_i hz; cases hz; done)
      all_goals try (exfalso; (try simp only [LN] at *) <;> omega)
      all_goals try (exfalso; simp_all; done)
      all_goals first
        | ((refine Z.rndK ((i + 1)) (fun s => [0, s.idAt 5]) rfl rfl rfl rfl ?_ ?_ ?_ ?_); (focus (repeat' (first | exact trivial | exact congrArg (fun r => some (AV.c (Ce.gsl _ (r.map cI)))) hof.symm | exact rfl | apply And.intro))); (focus (repeat' (first | exact trivial | exact Z.gB_sub rfl (congrArg (List.map cI) hof.symm) (ren_map fun _ => rfl) | (intro b hb; cases hb; rfl) | apply And.intro))); (focus (((try dsimp only); omega))); ((try dsimp only); omega))
  have hil : i = l.length := by omega
  subst hil
  rw [List.take_length]
  repeat' ((conv => whnf); first
    | (with_reducible refine spB_dec ?_ ?_ <;> intro _ <;> (try (exfalso; first | contradiction | omega | (rename_i hz; refine hz ?_; simp; done) | (rename_i hz; simp at hz; done) | (simp only [LN] at *; omega)))))
  all_goals (try (conv => whnf))
  all_goals try (show Nat.ble _ _ = true; rfl)
  all_goals try (exfalso; rename_i hz; cases hz; done)
  all_goals try (exfalso; (try simp only [LN] at *) <;> omega)
  all_goals first
    | ((first | (with_reducible apply Z.retF1)); (focus (exact rfl)); (repeat' (first | exact trivial | (with_reducible apply Z.frz_one) | ((with_reducible apply Z.fq_gsl); (focus (first | exact Z.isB_map _)); (focus (exact fun _ => rfl))) | exact rfl | apply And.intro)); (all_goals (try exact (fun _ => none))); all_goals (first | (simp; done)))

end Go.Proofs.Ytpnfogckdceiaaa
namespace Go.Proofs.Ytpnfogckdceiaaa
open Go Go.RowKit Wx
set_option linter.unusedVariables false
set_option linter.unusedSimpArgs false
set_option maxHeartbeats 4000000
theorem wakes_con : Con Try.prog 8 [] (fun x K t => x = .val (.bool true) ∧ K = [] ∧ t = 0) := Y.con_run ftabOk tabOk mixOk 40 12 (by kernel_rfl) (by kernel_rfl)
theorem cmp_neg (s k s2 k2 : Int) : cmpR s k s2 k2 = 0 - cmpR s2 k2 s k := by
  unfold cmpR cmpI
  repeat' split
  all_goals omega
theorem cmp_self (s k : Int) : cmpR s k s k = 0 := by
  unfold cmpR cmpI
  repeat' split
  all_goals omega
theorem cmp_rng (s k s2 k2 : Int) : -1 ≤ cmpR s k s2 k2 ∧ cmpR s k s2 k2 ≤ 1 := by
  unfold cmpR cmpI
  repeat' split
  all_goals omega
abbrev kvs (p : Int × Int) : List Value := [.int .i64 p.1, .int .i64 p.2]
def isRec (e : El) : Bool := decide (e.kd = 1)
def inK (M : List (Int × Int)) (e : El) : Bool := isRec e && decide ((e.src, e.key) ∈ M)
def sumK (l : List El) : List (Int × Int) → Nat
  | [] => 0
  | p :: M => (ofR l p.1 p.2).length + sumK l M
theorem ofR_cnt (l : List El) (p : Int × Int) : (ofR l p.1 p.2).length = l.countP fun e => isRec e && decide ((e.src, e.key) = p) := by
  unfold ofR
  induction l with
  | nil => rfl
  | cons e l ih =>
    rw [List.filterMap_cons, List.countP_cons]
    by_cases h : e.kd = 1 ∧ e.src = p.1 ∧ e.key = p.2
    · rw [if_pos h, if_pos (by simp [isRec, h.1, Prod.ext_iff, h.2])]
      simp only [List.length_cons, ih]
    · rw [if_neg h, if_neg (by simp only [isRec, Bool.and_eq_true, decide_eq_true_eq, Prod.ext_iff]; exact h)]
      exact ih
theorem cnt_split (l : List El) {p : Int × Int} {M : List (Int × Int)} (h : p ∉ M) : l.countP (inK (p :: M)) = (l.countP fun e => isRec e && decide ((e.src, e.key) = p)) + l.countP (inK M) := by
  induction l with
  | nil => rfl
  | cons e l ih =>
    simp only [List.countP_cons, ih]
    unfold inK
    cases hr : isRec e
    · simp
    · by_cases he : (e.src, e.key) = p
      · rw [he]; simp [h]; omega
      · simp [he]; omega
theorem sumK_cnt (l : List El) : ∀ {M : List (Int × Int)}, M.Nodup → sumK l M = l.countP (inK M)
  | [], _ => by
    have : l.countP (inK []) = 0 := List.countP_eq_zero.2 (fun e _ => by simp [inK])
    rw [this]; rfl
  | p :: M, h => by
    rw [sumK, ofR_cnt, sumK_cnt l (List.nodup_cons.1 h).2, cnt_split l (List.nodup_cons.1 h).1]
theorem sumK_app (l : List El) (p : Int × Int) : ∀ M : List (Int × Int), sumK l (M ++ [p]) = sumK l M + (ofR l p.1 p.2).length
  | [] => by simp [sumK]
  | q :: M => by rw [List.cons_append, sumK, sumK_app l p M, sumK]; omega
theorem sumK_le (l : List El) {M : List (Int × Int)} (h : M.Nodup) : sumK l M ≤ l.length := by rw [sumK_cnt l h]; exact List.countP_le_length
theorem cnt_all (l : List El) {M : List (Int × Int)} (h : ∀ e ∈ l, e.kd = 1 → (e.src, e.key) ∈ M) : l.countP (inK M) = l.countP isRec := by
  refine List.countP_congr fun e he => ?_
  unfold inK isRec
  simp only [Bool.and_eq_true, decide_eq_true_eq]
  exact ⟨fun h1 => h1.1, fun h1 => ⟨h1, h e he h1⟩⟩
theorem arrK : WideMaps.ArrKey Try.prog 53 3 2 := ⟨by kernel_rfl, by kernel_rfl, by kernel_rfl, by kernel_rfl⟩
theorem zeroB (w : World) : (zeroValue 4).run Try.prog w = .ok (.bool false) w := by
  have h : (Try.prog.info? 4).bind (·.zero) = some (.bool false) := by kernel_rfl
  cases h1 : Try.prog.info? 4 with
  | none => rw [h1] at h; cases h
  | some inf => rw [h1] at h; exact Y.zero_run h1 h
theorem wmapK : Z.WMap Try.prog 52 53 4 (.bool false) := ⟨by kernel_rfl, arrK.law, zeroB⟩
def wfP (p : Int × Int) : Prop := (Lit.int .i64 p.1).wf = true ∧ (Lit.int .i64 p.2).wf = true
theorem keyedP {p : Int × Int} (h : wfP p) : Z.keyed Try.prog 53 (.agg (kvs p).toArray) := ⟨_, WideMaps.keyOf_pair arrK (by kernel_rfl) ⟨Try.prog.types.size - 1, by kernel_rfl⟩ h.1 h.2⟩
theorem keyedL {M : List (Int × Int)} (h : ∀ p ∈ M, wfP p) : ∀ v ∈ M.map kvs, Z.keyed Try.prog 53 (.agg v.toArray) := fun v hv => by
  obtain ⟨p, hp, rfl⟩ := List.mem_map.1 hv
  exact keyedP (h p hp)
theorem kvs_in {p : Int × Int} {M : List (Int × Int)} : kvs p ∈ M.map kvs ↔ p ∈ M := by
  constructor
  · intro h
    obtain ⟨q, hq, e⟩ := List.mem_map.1 h
    simp only [kvs, List.cons.injEq, Value.int.injEq, true_and, and_true] at e
    rwa [show p = q from Prod.ext e.1.symm e.2.symm]
  · exact fun h => List.mem_map_of_mem h
theorem keys_con (l : List El) (s k v s2 k2 v2 : Int) (hl : l.length ≤ 9223372036854775807) (hw : ∀ e ∈ l, wfP (e.src, e.key)) : Con Try.prog 7 [.one (.ro false 5 (l.map eE)), .agg [.v (.int .i64 s), .v (.int .i64 k), .v (.int .i64 v)], .agg [.v (.int .i64 s2), .v (.int .i64 k2), .v (.int .i64 v2)]] (fun rx rK rt => rx = .val (.bool true) ∧ rK = [] ∧ rt = 0) := by
  refine Z.con_ofF tabOk 84 Try.f7 _ Try.func7 (by kernel_rfl) rfl rfl rfl rfl ?_
  by_cases h1 : 300 < l.length
  · skip
    repeat' ((conv => whnf); first
      | ((with_reducible apply spB_cong); (focus (simp only [beq_self_eq_true, bne_self_eq_false, Bool.true_bne, Bool.false_bne, Bool.bne_true, Bool.bne_false, Bool.true_beq, Bool.false_beq, Bool.not_true, Bool.not_false, Bool.not_not, Int.reduceBEq, Int.reduceBNe, Int.reduceLE, Int.reduceLT, Int.reduceEq, decide_true, decide_false]; rfl)))
      | with_reducible first | refine spB_no (by decide) ?_
      | (with_reducible refine spB_dec ?_ ?_ <;> intro _ <;> (try (exfalso; first | contradiction | omega | (rename_i hz; refine hz ?_; simp; done) | (rename_i hz; simp at hz; done) | (simp only [LN] at *; omega))))
      | ((first | (with_reducible refine Z.callZ_mk ?_ (wakes_con) ?_)); (focus ((repeat' (first | exact trivial)); done))))
    all_goals (try (conv => whnf))
    all_goals try (show Nat.ble _ _ = true; rfl)
    all_goals try (exfalso; rename_i hz; cases hz; done)
    all_goals try (exfalso; (try simp only [LN] at *) <;> omega)
    all_goals first
      | ((first | (with_reducible apply Z.retF1)); (focus (exact rfl)); (repeat' (first | exact trivial | (with_reducible apply Z.frz_one) | (with_reducible apply Z.fq_bool) | exact rfl | apply And.intro)); (all_goals (try exact (fun _ => none))); all_goals (rfl))
  have c1 := compare_con s k v s2 k2 v2
  have c2 := compare_con s2 k2 v2 s k v
  have c3 := compare_con s k v s k v
  have hng := cmp_neg s k s2 k2
  have hrg := cmp_rng s2 k2 s k
  rw [cmp_self] at c3
  rw [hng] at c1
  generalize cmpR s2 k2 s k = cc at *
  clear hng
  have csk := samekey_con s k v s2 k2 v2
  have coa := of_con l s k v (by omega)
  have cob := of_con l s2 k2 v2 (by omega)
  have hla := @ofR_len l s k
  by_cases hk : s = s2 ∧ k = k2
  · obtain ⟨rfl, rfl⟩ := hk
    rw [show (s == s && k == k) = true by simp] at csk
    repeat' ((conv => whnf); first
      | with_reducible first | refine spB_t ?_
      | ((with_reducible apply spB_cong); (focus (simp only [beq_self_eq_true, bne_self_eq_false, Bool.true_bne, Bool.false_bne, Bool.bne_true, Bool.bne_false, Bool.true_beq, Bool.false_beq, Bool.not_true, Bool.not_false, Bool.not_not, Int.reduceBEq, Int.reduceBNe, Int.reduceLE, Int.reduceLT, Int.reduceEq, decide_true, decide_false]; rfl)))
      | with_reducible first | refine spB_no (by decide) ?_
      | (with_reducible refine spB_dec ?_ ?_ <;> intro _ <;> (try (exfalso; first | contradiction | omega | (rename_i hz; refine hz ?_; simp; done) | (rename_i hz; simp at hz; done) | (simp only [LN] at *; omega))))
      | with_reducible refine wr_i64 (by first | omega | (simp only [LN] at *; omega)) ?_
      | ((first | (with_reducible refine Z.callZ_mk ?_ (wakes_con) ?_) | (with_reducible refine Z.conZ_mz ?_ (csk) ?_)); (focus ((repeat' (first | exact trivial | exact rfl | apply And.intro)); done)))
      | ((first | (with_reducible refine Z.conZ_mz ?_ (c1) ?_)); (focus ((repeat' (first | exact trivial | exact rfl | apply And.intro)); done)))
      | ((first | (with_reducible refine Z.conZ_mz ?_ (c2) ?_)); (focus ((repeat' (first | exact trivial | exact rfl | apply And.intro)); done)))
      | ((first | (with_reducible refine Z.conZ_mz ?_ (c3) ?_)); (focus ((repeat' (first | exact trivial | exact rfl | apply And.intro)); done)))
      | ((first | (with_reducible refine Z.conZ_mz ?_ (coa) ?_)); (focus ((repeat' (first | exact trivial | exact rfl | apply And.intro)); done)))
      | ((first | (with_reducible refine Z.conZ_mz ?_ (cob) ?_)); (focus ((repeat' (first | exact trivial | exact rfl | apply And.intro)); done)))
      | with_reducible first | refine Z.drawZ_rule tabOk mixOk ?_ | refine Z.apZ_mk (by kernel_rfl) ?_)
    all_goals (try (conv => whnf))
    all_goals try (show Nat.ble _ _ = true; rfl)
    all_goals try (exfalso; rename_i hz; cases hz; done)
    all_goals try (exfalso; (try simp only [LN] at *) <;> omega)
    refine Z.loopK tabOk (fun zq : Nat × List (Int × Int) => [(51, .val (.int .i64 (zq.1 : Int))), (7, .val (.int .i64 ((sumK l zq.2 : Nat) : Int))), (9, .val (.int .i64 (((l.take zq.1).countP isRec : Nat) : Int)))]) (fun zq : Nat × List (Int × Int) => ([(2, some (Z.Ob.m (Z.mset (zq.2.map kvs) (.one (.v (.bool true))))))] : Z.Kr)) (fun zq => zq.1 ≤ l.length ∧ zq.2.Nodup ∧ (∀ p ∈ zq.2, wfP p) ∧ ∀ e ∈ l.take zq.1, e.kd = 1 → (e.src, e.key) ∈ zq.2) (fun zq => l.length - zq.1) (0, []) 3 [(0, _), (8, _), (49, _), (50, _)] ⟨rfl, rfl, rfl, rfl, trivial⟩ [(0, some _), (1, some _)] ⟨rfl, rfl, trivial⟩ ?_ ?_ rfl rfl ⟨Nat.zero_le _, List.nodup_nil, by simp, by simp⟩ ?_
    · repeat' (first | exact trivial | apply And.intro | exact ⟨_, rfl, Z.Imp.refl _⟩)
    · repeat' (first | exact trivial | exact (fun b hb => ⟨b, hb, Z.ImpO.refl b⟩) | apply And.intro)
    rintro ⟨i, M⟩ HINV
    dsimp only at HINV ⊢
    obtain ⟨HI, HN, HW, HC⟩ := HINV
    have hsl := sumK_le l HN
    have hcl : (l.take i).countP isRec ≤ i := Nat.le_trans List.countP_le_length (by simp; omega)
    by_cases hi : i < l.length
    · obtain ⟨x, hx⟩ := getElem?_some' (xs := l) (i := i) hi
      have hwx := hw x (List.mem_of_getElem? hx)
      have htk : l.take (i + 1) = l.take i ++ [x] := take_snoc hx
      by_cases hk1 : x.kd = 1
      rotate_left
      · have hcn : (l.take (i + 1)).countP isRec = (l.take i).countP isRec := by rw [htk, List.countP_append]; simp [isRec, hk1]
        repeat' ((conv => whnf); first
          | (with_reducible refine spB_dec ?_ ?_ <;> intro _ <;> (try (exfalso; first | contradiction | omega | (rename_i hz; refine hz ?_; simp; done) | (rename_i hz; simp at hz; done) | (simp only [LN] at *; omega))))
          | (with_reducible refine spB_bne ?_ ?_ <;> intro _ <;> (try (exfalso; first | contradiction | omega | (rename_i hz; refine hz ?_; simp; done) | (rename_i hz; simp at hz; done) | (simp only [LN] at *; omega))))
          | with_reducible first | refine Z.rowN_known hx ?_
          | ((with_reducible apply ixN_litp); (focus (exact rfl)); (focus ((try simp only [LN] at *) <;> omega)))
          | with_reducible refine wr_i64 (by first | omega | (simp only [LN] at *; omega)) ?_)
        all_goals (try (conv => whnf))
        all_goals try (show Nat.ble _ _ = true; rfl)
        all_goals try (exfalso; rename_i hz; cases hz; done)
        all_goals try (exfalso; (try simp only [LN] at *) <;> omega)
        all_goals first
          | ((refine Z.rndK ((i + 1, M)) (fun s => [0, 1, 2]) rfl rfl rfl rfl ?_ ?_ ?_ ?_); (focus (repeat' (first | exact trivial | exact congrArg (fun z : Int => some (AV.val (Value.int .i64 z))) (by first | (rw [hcn]; done) | (rw [hcn]; rfl) | (rw [hcn]; simp; done)) | exact rfl | apply And.intro))); (focus (repeat' (first | exact trivial | exact Z.wmap_sub rfl rfl rfl | (intro b hb; cases hb; rfl) | apply And.intro))); (focus (exact ⟨by (try dsimp only); omega, HN, HW, fun e he h9 => by (try dsimp only at he); rw [htk] at he; rcases List.mem_append.1 he with h8 | h8; exact HC e h8 h9; exact absurd (List.mem_singleton.1 h8 ▸ h9) hk1⟩)); ((try dsimp only); omega))
      have hcn : (l.take (i + 1)).countP isRec = (l.take i).countP isRec + 1 := by rw [htk, List.countP_append]; simp [isRec, hk1]
      by_cases hmm : (x.src, x.key) ∈ M
      · skip
        repeat' ((conv => whnf); first
          | ((with_reducible apply spB_cong); (focus (simp only [beq_self_eq_true, bne_self_eq_false, Bool.true_bne, Bool.false_bne, Bool.bne_true, Bool.bne_false, Bool.true_beq, Bool.false_beq, Bool.not_true, Bool.not_false, Bool.not_not, Int.reduceBEq, Int.reduceBNe, Int.reduceLE, Int.reduceLT, Int.reduceEq, decide_true, decide_false]; rfl)))
          | with_reducible first | refine spB_no (by decide) ?_
          | (with_reducible refine spB_dec ?_ ?_ <;> intro _ <;> (try (exfalso; first | contradiction | omega | (rename_i hz; refine hz ?_; simp; done) | (rename_i hz; simp at hz; done) | (simp only [LN] at *; omega))))
          | (with_reducible refine spB_bne ?_ ?_ <;> intro _ <;> (try (exfalso; first | contradiction | omega | (rename_i hz; refine hz ?_; simp; done) | (rename_i hz; simp at hz; done) | (simp only [LN] at *; omega))))
          | with_reducible first | refine Z.rowN_known hx ?_
          | (refine Z.wlook_yes (vs := kvs (x.src, x.key)) wmapK (keyedP hwx) (keyedL HW) (kvs_in.2 hmm) rfl rfl rfl ?_)
          | ((with_reducible apply ixN_litp); (focus (exact rfl)); (focus ((try simp only [LN] at *) <;> omega)))
          | with_reducible refine wr_i64 (by first | omega | (simp only [LN] at *; omega)) ?_)
        all_goals (try (conv => whnf))
        all_goals try (show Nat.ble _ _ = true; rfl)
        all_goals try (exfalso; rename_i hz; cases hz; done)
        all_goals try (exfalso; (try simp only [LN] at *) <;> omega)
        all_goals first
          | ((refine Z.rndK ((i + 1, M)) (fun s => [0, 1, 2]) rfl rfl rfl rfl ?_ ?_ ?_ ?_); (focus (repeat' (first | exact trivial | exact congrArg (fun z : Int => some (AV.val (Value.int .i64 z))) (by first | (rw [hcn]; done) | (rw [hcn]; rfl) | (rw [hcn]; simp; done)) | exact rfl | apply And.intro))); (focus (repeat' (first | exact trivial | exact Z.wmap_sub rfl rfl rfl | (intro b hb; cases hb; rfl) | apply And.intro))); (focus (exact ⟨by (try dsimp only); omega, HN, HW, fun e he h9 => by (try dsimp only at he); rw [htk] at he; rcases List.mem_append.1 he with h8 | h8; exact HC e h8 h9; rw [List.mem_singleton.1 h8]; exact hmm⟩)); ((try dsimp only); omega))
      have coe := of_con l x.src x.key x.val (by omega)
      have hle := @ofR_len l x.src x.key
      have hsn : sumK l M + (ofR l x.src x.key).length = sumK l (M ++ [(x.src, x.key)]) := (sumK_app l (x.src, x.key) M).symm
      repeat' ((conv => whnf); first
        | with_reducible first | refine spB_t ?_
        | ((with_reducible apply spB_cong); (focus (simp only [beq_self_eq_true, bne_self_eq_false, Bool.true_bne, Bool.false_bne, Bool.bne_true, Bool.bne_false, Bool.true_beq, Bool.false_beq, Bool.not_true, Bool.not_false, Bool.not_not, Int.reduceBEq, Int.reduceBNe, Int.reduceLE, Int.reduceLT, Int.reduceEq, decide_true, decide_false]; rfl)))
        | (with_reducible refine spB_dec ?_ ?_ <;> intro _ <;> (try (exfalso; first | contradiction | omega | (rename_i hz; refine hz ?_; simp; done) | (rename_i hz; simp at hz; done) | (simp only [LN] at *; omega))))
        | (with_reducible refine spB_bne ?_ ?_ <;> intro _ <;> (try (exfalso; first | contradiction | omega | (rename_i hz; refine hz ?_; simp; done) | (rename_i hz; simp at hz; done) | (simp only [LN] at *; omega))))
        | with_reducible first | refine Z.rowN_known hx ?_
        | (refine Z.wlook_no (vs := kvs (x.src, x.key)) wmapK (keyedP hwx) (keyedL HW) (fun h9 => hmm (kvs_in.1 h9)) rfl rfl rfl ?_)
        | (refine Z.wput_run (vs := kvs (x.src, x.key)) (.inl rfl) wmapK (keyedP hwx) (keyedL HW) (fun h9 => hmm (kvs_in.1 h9)) rfl rfl rfl rfl ?_)
        | ((with_reducible apply ixN_litp); (focus (exact rfl)); (focus ((try simp only [LN] at *) <;> omega)))
        | with_reducible refine wr_i64 (by first | omega | (simp only [LN] at *; omega)) ?_
        | ((first | (with_reducible refine Z.callZ_mk ?_ (coe) ?_)); (focus ((repeat' (first | exact trivial | exact rfl | apply And.intro)); done))))
      all_goals (try (conv => whnf))
      all_goals try (show Nat.ble _ _ = true; rfl)
      all_goals try (exfalso; rename_i hz; cases hz; done)
      all_goals try (exfalso; (try simp only [LN] at *) <;> omega)
      all_goals first
        | ((refine Z.rndK ((i + 1, M ++ [(x.src, x.key)])) (fun s => [0, 1, 2]) rfl rfl rfl rfl ?_ ?_ ?_ ?_); (focus (repeat' (first | exact trivial | exact congrArg (fun z : Int => some (AV.val (Value.int .i64 z))) (by first | (rw [hcn]; done) | (rw [hcn]; rfl) | (rw [hcn]; simp; done)) | exact congrArg (fun z : Int => some (AV.val (Value.int .i64 z))) (by first | (rw [← hsn]; done) | (rw [← hsn]; rfl) | (rw [← hsn]; simp; done)) | exact rfl | apply And.intro))); (focus (repeat' (first | exact trivial | exact Z.wmap_sub rfl (by simp) rfl | (intro b hb; cases hb; rfl) | apply And.intro))); (focus (exact ⟨by (try dsimp only); omega, by (try dsimp only); exact List.nodup_append.2 ⟨HN, by simp, fun a ha b hb => by rw [List.mem_singleton.1 hb]; rintro rfl; exact hmm ha⟩, fun q hq => by (try dsimp only at hq); rcases List.mem_append.1 hq with h8 | h8; exact HW q h8; rw [List.mem_singleton.1 h8]; exact hwx, fun e he h9 => by (try dsimp only at he); rw [htk] at he; rcases List.mem_append.1 he with h8 | h8; exact List.mem_append_left _ (HC e h8 h9); rw [List.mem_singleton.1 h8]; exact List.mem_append_right _ (by simp)⟩)); ((try dsimp only); omega))
    have hil : i = l.length := by omega
    subst hil
    rw [List.take_length] at HC hcl
    rw [List.take_length]
    rw [sumK_cnt l HN, cnt_all l HC]
    repeat' ((conv => whnf); first
      | (with_reducible refine spB_dec ?_ ?_ <;> intro _ <;> (try (exfalso; first | contradiction | omega | (rename_i hz; refine hz ?_; simp; done) | (rename_i hz; simp at hz; done) | (simp only [LN] at *; omega)))))
    all_goals (try (conv => whnf))
    all_goals try (show Nat.ble _ _ = true; rfl)
    all_goals try (exfalso; rename_i hz; cases hz; done)
    all_goals try (exfalso; (try simp only [LN] at *) <;> omega)
    all_goals first
      | ((first | (with_reducible apply Z.retF1)); (focus (exact rfl)); (repeat' (first | exact trivial | (with_reducible apply Z.frz_one) | (with_reducible apply Z.fq_bool) | apply And.intro)); (all_goals (try exact (fun _ => none))); all_goals (first | (simp; done)))
  · rw [show (s == s2 && k == k2) = false by simpa using hk] at csk
    repeat' ((conv => whnf); first
      | ((with_reducible apply spB_cong); (focus (simp only [beq_self_eq_true, bne_self_eq_false, Bool.true_bne, Bool.false_bne, Bool.bne_true, Bool.bne_false, Bool.true_beq, Bool.false_beq, Bool.not_true, Bool.not_false, Bool.not_not, Int.reduceBEq, Int.reduceBNe, Int.reduceLE, Int.reduceLT, Int.reduceEq, decide_true, decide_false]; rfl)))
      | with_reducible first | refine spB_no (by decide) ?_
      | (with_reducible refine spB_dec ?_ ?_ <;> intro _ <;> (try (exfalso; first | contradiction | omega | (rename_i hz; refine hz ?_; simp; done) | (rename_i hz; simp at hz; done) | (simp only [LN] at *; omega))))
      | with_reducible refine wr_i64 (by first | omega | (simp only [LN] at *; omega)) ?_
      | ((first | (with_reducible refine Z.callZ_mk ?_ (wakes_con) ?_) | (with_reducible refine Z.conZ_mz ?_ (csk) ?_)); (focus ((repeat' (first | exact trivial | exact rfl | apply And.intro)); done)))
      | ((first | (with_reducible refine Z.conZ_mz ?_ (c1) ?_)); (focus ((repeat' (first | exact trivial | exact rfl | apply And.intro)); done)))
      | ((first | (with_reducible refine Z.conZ_mz ?_ (c2) ?_)); (focus ((repeat' (first | exact trivial | exact rfl | apply And.intro)); done)))
      | ((first | (with_reducible refine Z.conZ_mz ?_ (c3) ?_)); (focus ((repeat' (first | exact trivial | exact rfl | apply And.intro)); done)))
      | with_reducible first | refine Z.drawZ_rule tabOk mixOk ?_ | refine Z.apZ_mk (by kernel_rfl) ?_)
    all_goals (try (conv => whnf))
    all_goals try (show Nat.ble _ _ = true; rfl)
    all_goals try (exfalso; rename_i hz; cases hz; done)
    all_goals try (exfalso; (try simp only [LN] at *) <;> omega)
    refine Z.loopK tabOk (fun zq : Nat × List (Int × Int) => [(51, .val (.int .i64 (zq.1 : Int))), (7, .val (.int .i64 ((sumK l zq.2 : Nat) : Int))), (9, .val (.int .i64 (((l.take zq.1).countP isRec : Nat) : Int)))]) (fun zq : Nat × List (Int × Int) => ([(2, some (Z.Ob.m (Z.mset (zq.2.map kvs) (.one (.v (.bool true))))))] : Z.Kr)) (fun zq => zq.1 ≤ l.length ∧ zq.2.Nodup ∧ (∀ p ∈ zq.2, wfP p) ∧ ∀ e ∈ l.take zq.1, e.kd = 1 → (e.src, e.key) ∈ zq.2) (fun zq => l.length - zq.1) (0, []) 3 [(0, _), (8, _), (49, _), (50, _)] ⟨rfl, rfl, rfl, rfl, trivial⟩ [(0, some _), (1, some _)] ⟨rfl, rfl, trivial⟩ ?_ ?_ rfl rfl ⟨Nat.zero_le _, List.nodup_nil, by simp, by simp⟩ ?_
    · repeat' (first | exact trivial | apply And.intro | exact ⟨_, rfl, Z.Imp.refl _⟩)
    · repeat' (first | exact trivial | exact (fun b hb => ⟨b, hb, Z.ImpO.refl b⟩) | apply And.intro)
    rintro ⟨i, M⟩ HINV
    dsimp only at HINV ⊢
    obtain ⟨HI, HN, HW, HC⟩ := HINV
    have hsl := sumK_le l HN
    have hcl : (l.take i).countP isRec ≤ i := Nat.le_trans List.countP_le_length (by simp; omega)
    by_cases hi : i < l.length
    · obtain ⟨x, hx⟩ := getElem?_some' (xs := l) (i := i) hi
      have hwx := hw x (List.mem_of_getElem? hx)
      have htk : l.take (i + 1) = l.take i ++ [x] := take_snoc hx
      by_cases hk1 : x.kd = 1
      rotate_left
      · have hcn : (l.take (i + 1)).countP isRec = (l.take i).countP isRec := by rw [htk, List.countP_append]; simp [isRec, hk1]
        repeat' ((conv => whnf); first
          | (with_reducible refine spB_dec ?_ ?_ <;> intro _ <;> (try (exfalso; first | contradiction | omega | (rename_i hz; refine hz ?_; simp; done) | (rename_i hz; simp at hz; done) | (simp only [LN] at *; omega))))
          | (with_reducible refine spB_bne ?_ ?_ <;> intro _ <;> (try (exfalso; first | contradiction | omega | (rename_i hz; refine hz ?_; simp; done) | (rename_i hz; simp at hz; done) | (simp only [LN] at *; omega))))
          | with_reducible first | refine Z.rowN_known hx ?_
          | ((with_reducible apply ixN_litp); (focus (exact rfl)); (focus ((try simp only [LN] at *) <;> omega)))
          | with_reducible refine wr_i64 (by first | omega | (simp only [LN] at *; omega)) ?_)
        all_goals (try (conv => whnf))
        all_goals try (show Nat.ble _ _ = true; rfl)
        all_goals try (exfalso; rename_i hz; cases hz; done)
        all_goals try (exfalso; (try simp only [LN] at *) <;> omega)
        all_goals first
          | ((refine Z.rndK ((i + 1, M)) (fun s => [0, 1, 2]) rfl rfl rfl rfl ?_ ?_ ?_ ?_); (focus (repeat' (first | exact trivial | exact congrArg (fun z : Int => some (AV.val (Value.int .i64 z))) (by first | (rw [hcn]; done) | (rw [hcn]; rfl) | (rw [hcn]; simp; done)) | exact rfl | apply And.intro))); (focus (repeat' (first | exact trivial | exact Z.wmap_sub rfl rfl rfl | (intro b hb; cases hb; rfl) | apply And.intro))); (focus (exact ⟨by (try dsimp only); omega, HN, HW, fun e he h9 => by (try dsimp only at he); rw [htk] at he; rcases List.mem_append.1 he with h8 | h8; exact HC e h8 h9; exact absurd (List.mem_singleton.1 h8 ▸ h9) hk1⟩)); ((try dsimp only); omega))
      have hcn : (l.take (i + 1)).countP isRec = (l.take i).countP isRec + 1 := by rw [htk, List.countP_append]; simp [isRec, hk1]
      by_cases hmm : (x.src, x.key) ∈ M
      · skip
        repeat' ((conv => whnf); first
          | ((with_reducible apply spB_cong); (focus (simp only [beq_self_eq_true, bne_self_eq_false, Bool.true_bne, Bool.false_bne, Bool.bne_true, Bool.bne_false, Bool.true_beq, Bool.false_beq, Bool.not_true, Bool.not_false, Bool.not_not, Int.reduceBEq, Int.reduceBNe, Int.reduceLE, Int.reduceLT, Int.reduceEq, decide_true, decide_false]; rfl)))
          | with_reducible first | refine spB_no (by decide) ?_
          | (with_reducible refine spB_dec ?_ ?_ <;> intro _ <;> (try (exfalso; first | contradiction | omega | (rename_i hz; refine hz ?_; simp; done) | (rename_i hz; simp at hz; done) | (simp only [LN] at *; omega))))
          | (with_reducible refine spB_bne ?_ ?_ <;> intro _ <;> (try (exfalso; first | contradiction | omega | (rename_i hz; refine hz ?_; simp; done) | (rename_i hz; simp at hz; done) | (simp only [LN] at *; omega))))
          | with_reducible first | refine Z.rowN_known hx ?_
          | (refine Z.wlook_yes (vs := kvs (x.src, x.key)) wmapK (keyedP hwx) (keyedL HW) (kvs_in.2 hmm) rfl rfl rfl ?_)
          | ((with_reducible apply ixN_litp); (focus (exact rfl)); (focus ((try simp only [LN] at *) <;> omega)))
          | with_reducible refine wr_i64 (by first | omega | (simp only [LN] at *; omega)) ?_)
        all_goals (try (conv => whnf))
        all_goals try (show Nat.ble _ _ = true; rfl)
        all_goals try (exfalso; rename_i hz; cases hz; done)
        all_goals try (exfalso; (try simp only [LN] at *) <;> omega)
        all_goals first
          | ((refine Z.rndK ((i + 1, M)) (fun s => [0, 1, 2]) rfl rfl rfl rfl ?_ ?_ ?_ ?_); (focus (repeat' (first | exact trivial | exact congrArg (fun z : Int => some (AV.val (Value.int .i64 z))) (by first | (rw [hcn]; done) | (rw [hcn]; rfl) | (rw [hcn]; simp; done)) | exact rfl | apply And.intro))); (focus (repeat' (first | exact trivial | exact Z.wmap_sub rfl rfl rfl | (intro b hb; cases hb; rfl) | apply And.intro))); (focus (exact ⟨by (try dsimp only); omega, HN, HW, fun e he h9 => by (try dsimp only at he); rw [htk] at he; rcases List.mem_append.1 he with h8 | h8; exact HC e h8 h9; rw [List.mem_singleton.1 h8]; exact hmm⟩)); ((try dsimp only); omega))
      have coe := of_con l x.src x.key x.val (by omega)
      have hle := @ofR_len l x.src x.key
      have hsn : sumK l M + (ofR l x.src x.key).length = sumK l (M ++ [(x.src, x.key)]) := (sumK_app l (x.src, x.key) M).symm
      repeat' ((conv => whnf); first
        | with_reducible first | refine spB_t ?_
        | ((with_reducible apply spB_cong); (focus (simp only [beq_self_eq_true, bne_self_eq_false, Bool.true_bne, Bool.false_bne, Bool.bne_true, Bool.bne_false, Bool.true_beq, Bool.false_beq, Bool.not_true, Bool.not_false, Bool.not_not, Int.reduceBEq, Int.reduceBNe, Int.reduceLE, Int.reduceLT, Int.reduceEq, decide_true, decide_false]; rfl)))
        | (with_reducible refine spB_dec ?_ ?_ <;> intro _ <;> (try (exfalso; first | contradiction | omega | (rename_i hz; refine hz ?_; simp; done) | (rename_i hz; simp at hz; done) | (simp only [LN] at *; omega))))
        | (with_reducible refine spB_bne ?_ ?_ <;> intro _ <;> (try (exfalso; first | contradiction | omega | (rename_i hz; refine hz ?_; simp; done) | (rename_i hz; simp at hz; done) | (simp only [LN] at *; omega))))
        | with_reducible first | refine Z.rowN_known hx ?_
        | (refine Z.wlook_no (vs := kvs (x.src, x.key)) wmapK (keyedP hwx) (keyedL HW) (fun h9 => hmm (kvs_in.1 h9)) rfl rfl rfl ?_)
        | (refine Z.wput_run (vs := kvs (x.src, x.key)) (.inl rfl) wmapK (keyedP hwx) (keyedL HW) (fun h9 => hmm (kvs_in.1 h9)) rfl rfl rfl rfl ?_)
        | ((with_reducible apply ixN_litp); (focus (exact rfl)); (focus ((try simp only [LN] at *) <;> omega)))
        | with_reducible refine wr_i64 (by first | omega | (simp only [LN] at *; omega)) ?_
        | ((first | (with_reducible refine Z.callZ_mk ?_ (coe) ?_)); (focus ((repeat' (first | exact trivial | exact rfl | apply And.intro)); done))))
      all_goals (try (conv => whnf))
      all_goals try (show Nat.ble _ _ = true; rfl)
      all_goals try (exfalso; rename_i hz; cases hz; done)
      all_goals try (exfalso; (try simp only [LN] at *) <;> omega)
      all_goals first
        | ((refine Z.rndK ((i + 1, M ++ [(x.src, x.key)])) (fun s => [0, 1, 2]) rfl rfl rfl rfl ?_ ?_ ?_ ?_); (focus (repeat' (first | exact trivial | exact congrArg (fun z : Int => some (AV.val (Value.int .i64 z))) (by first | (rw [hcn]; done) | (rw [hcn]; rfl) | (rw [hcn]; simp; done)) | exact congrArg (fun z : Int => some (AV.val (Value.int .i64 z))) (by first | (rw [← hsn]; done) | (rw [← hsn]; rfl) | (rw [← hsn]; simp; done)) | exact rfl | apply And.intro))); (focus (repeat' (first | exact trivial | exact Z.wmap_sub rfl (by simp) rfl | (intro b hb; cases hb; rfl) | apply And.intro))); (focus (exact ⟨by (try dsimp only); omega, by (try dsimp only); exact List.nodup_append.2 ⟨HN, by simp, fun a ha b hb => by rw [List.mem_singleton.1 hb]; rintro rfl; exact hmm ha⟩, fun q hq => by (try dsimp only at hq); rcases List.mem_append.1 hq with h8 | h8; exact HW q h8; rw [List.mem_singleton.1 h8]; exact hwx, fun e he h9 => by (try dsimp only at he); rw [htk] at he; rcases List.mem_append.1 he with h8 | h8; exact List.mem_append_left _ (HC e h8 h9); rw [List.mem_singleton.1 h8]; exact List.mem_append_right _ (by simp)⟩)); ((try dsimp only); omega))
    have hil : i = l.length := by omega
    subst hil
    rw [List.take_length] at HC hcl
    rw [List.take_length]
    rw [sumK_cnt l HN, cnt_all l HC]
    repeat' ((conv => whnf); first
      | (with_reducible refine spB_dec ?_ ?_ <;> intro _ <;> (try (exfalso; first | contradiction | omega | (rename_i hz; refine hz ?_; simp; done) | (rename_i hz; simp at hz; done) | (simp only [LN] at *; omega)))))
    all_goals (try (conv => whnf))
    all_goals try (show Nat.ble _ _ = true; rfl)
    all_goals try (exfalso; rename_i hz; cases hz; done)
    all_goals try (exfalso; (try simp only [LN] at *) <;> omega)
    all_goals first
      | ((first | (with_reducible apply Z.retF1)); (focus (exact rfl)); (repeat' (first | exact trivial | (with_reducible apply Z.frz_one) | (with_reducible apply Z.fq_bool) | apply And.intro)); (all_goals (try exact (fun _ => none))); all_goals (first | (simp; done)))

end Go.Proofs.Ytpnfogckdceiaaa
namespace Go.Proofs.Ytpnfogckdceiaaa
open Go Go.RowKit Wx
set_option linter.unusedVariables false
set_option linter.unusedSimpArgs false
set_option maxHeartbeats 4000000
def okEl (x : El) : Prop := (Lit.int .i64 x.src).wf = true ∧ (Lit.int .i64 x.key).wf = true
theorem rowEl (row : List RT) (h : RowF (.st (.cons 3 1 (.int .i64) (.cons 23 3 (.st (.cons 3 1 (.int .i64) (.cons 3 1 (.int .i64) (.cons 2 1 (.int .i64) .nil)))) (.cons 24 1 (.int .u64) .nil)))) row) : ∃ x, row = eE x ∧ okEl x := by
  obtain ⟨c0, s0, rfl, _, ⟨y0, rfl, _⟩, c1, s1, rfl, _, ⟨d0, t0, rfl, _, ⟨x0, rfl, w0⟩, d1, t1, rfl, _, ⟨x1, rfl, w1⟩, d2, t2, rfl, _, ⟨x2, rfl, _⟩, rfl⟩, c2, s2, rfl, _, ⟨y2, rfl, _⟩, rfl⟩ := h
  exact ⟨⟨y0, x0, x1, x2, y2⟩, rfl, w0, w1⟩
structure Rk where
  s : Int
  k : Int
  v : Int
abbrev eRk (x : Rk) : List RT := [RT.v (.int .i64 x.s), RT.v (.int .i64 x.k), RT.v (.int .i64 x.v)]
def okRk (x : Rk) : Prop := (Lit.int .i64 x.s).wf = true ∧ (Lit.int .i64 x.k).wf = true ∧ (Lit.int .i64 x.v).wf = true ∧ True
theorem rowRk (row : List RT) (h : RowF (.st (.cons 3 1 (.int .i64) (.cons 3 1 (.int .i64) (.cons 2 1 (.int .i64) .nil)))) row) : ∃ x, row = eRk x ∧ okRk x := by
  obtain ⟨a0, r0, rfl, _, ⟨z0, rfl, w0⟩, a1, r1, rfl, _, ⟨z1, rfl, w1⟩, a2, r2, rfl, _, ⟨z2, rfl, w2⟩, rfl⟩ := h
  exact ⟨⟨z0, z1, z2⟩, rfl, w0, w1, w2, trivial⟩
namespace recordKeys
theorem main (avs : List A0) (h : All2 FitA [(.sl (.st (.cons 3 1 (.int .i64) (.cons 23 3 (.st (.cons 3 1 (.int .i64) (.cons 3 1 (.int .i64) (.cons 2 1 (.int .i64) .nil)))) (.cons 24 1 (.int .u64) .nil)))) 26 5), (.st (.cons 3 1 (.int .i64) (.cons 3 1 (.int .i64) (.cons 2 1 (.int .i64) .nil)))), (.st (.cons 3 1 (.int .i64) (.cons 3 1 (.int .i64) (.cons 2 1 (.int .i64) .nil))))] avs) : Con Try.prog 7 avs (fun x K t => x = .val (.bool true) ∧ K = [] ∧ t = 0) := by
  obtain ⟨x0, x1, x2, rfl, h0, h1, h2⟩ : ∃ x0 x1 x2, avs = [x0, x1, x2] ∧ FitA (.sl (.st (.cons 3 1 (.int .i64) (.cons 23 3 (.st (.cons 3 1 (.int .i64) (.cons 3 1 (.int .i64) (.cons 2 1 (.int .i64) .nil)))) (.cons 24 1 (.int .u64) .nil)))) 26 5) x0 ∧ FitA (.st (.cons 3 1 (.int .i64) (.cons 3 1 (.int .i64) (.cons 2 1 (.int .i64) .nil)))) x1 ∧ FitA (.st (.cons 3 1 (.int .i64) (.cons 3 1 (.int .i64) (.cons 2 1 (.int .i64) .nil)))) x2 := by
    cases avs with
    | nil => exact h.elim
    | cons x0 r => cases r with
      | nil => exact h.2.elim
      | cons x1 r => cases r with
        | nil => exact h.2.2.elim
        | cons x2 r => cases r with
          | nil => exact ⟨x0, x1, x2, rfl, h.1, h.2.1, h.2.2.1⟩
          | cons => exact h.2.2.2.elim
  clear h
  obtain ⟨r0, ⟨rows0, hr0, ll, hrows0⟩, rfl⟩ := h0
  simp only [List.cons.injEq, and_true] at hr0
  subst hr0
  obtain ⟨l, rfl, kl⟩ := rows_map eE (okEl) rowEl rows0 hrows0
  rw [List.length_map] at ll
  obtain ⟨row1, hrow1, rfl⟩ := h1
  obtain ⟨r, rfl, kr⟩ := rowRk row1 hrow1
  obtain ⟨row2, hrow2, rfl⟩ := h2
  obtain ⟨q, rfl, kq⟩ := rowRk row2 hrow2
  exact keys_con l r.s r.k r.v q.s q.k q.v (by simpa [maxLen] using ll) (fun e he => ⟨(kl e he).1, (kl e he).2⟩)
end recordKeys
end Go.Proofs.Ytpnfogckdceiaaa
