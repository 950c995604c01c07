import Derived.Test.YtnlcmncfbiognaaWf0
import Derived.Test.YtnlcmncfbiognaaWs
import Derived.Test.YtnlcmncfbiognaaWzc
import Derived.Test.YtnlcmncfbiognaaWzd
import Derived.Test.YtnlcmncfbiognaaWze
import Derived.Test.YtnlcmncfbiognaaWy
namespace Go.Proofs.Ytnlcmncfbiognaa
open Go Go.RowKit Wx
set_option linter.unusedVariables false
set_option linter.unusedSimpArgs false
set_option maxHeartbeats 4000000
structure Kp where
  num : Int
  save : Bool
  opn : Bool
deriving DecidableEq
abbrev eK (x : Kp) : List RT := [RT.v (.int .u64 x.num), RT.v (.bool x.save), RT.v (.bool x.opn)]
abbrev cK (x : Kp) : List Ce := [Ce.v (.int .u64 x.num), Ce.v (.bool x.save), Ce.v (.bool x.opn)]
def okR : Kp → List Kp → Bool
  | _, [] => true
  | a, r :: rs => decide (a.num < r.num ∧ r.num ≤ 4611686018427387904 ∧ (a.opn = true → r.opn = true)) && okR r rs
def okS (keep : Int) (l : List Kp) : Bool := decide ((1 ≤ keep ∧ keep ≤ 4) ∧ l.length ≤ 16) && okR ⟨0, false, false⟩ l
theorem okR_at {a x : Kp} {l : List Kp} {i : Nat} (h : l[i]? = some x) : okR a (l.drop i) = (decide (a.num < x.num ∧ x.num ≤ 4611686018427387904 ∧ (a.opn = true → x.opn = true)) && okR x (l.drop (i + 1))) := by rw [drop_cons h]; rfl
theorem check_con (keep : Int) (l : List Kp) (hl : l.length ≤ 9223372036854775807) : Con Try.prog 20 [.agg [.v (.int .i64 keep), .ro false 3 (l.map eK)]] (fun rx rK rt => rx = .val (.int .i64 (bif okS keep l then 0 else 330)) ∧ rK = [] ∧ rt = 0) := by
  refine Z.con_ofF tabOk 48 Try.f20 _ Try.func20 (by kernel_rfl) rfl rfl rfl rfl ?_
  repeat' ((conv => whnf); first
    | with_reducible first | refine spB_t ?_
    | with_reducible first | refine spB_yes (by decide) ?_ | refine spB_no (by decide) ?_ | refine spB_f ?_ | refine spB_not ?_ | refine spB_yes (by assumption) ?_ | refine spB_no (by assumption) ?_
    | (with_reducible refine spB_dec ?_ ?_ <;> intro _ <;> (try (exfalso; first | contradiction | omega | (rename_i hz; with_reducible exact absurd rfl hz)))))
  all_goals (try (conv => whnf))
  all_goals try ((first | (with_reducible apply Z.retF1) | (with_reducible apply Z.retF2) | (with_reducible apply Z.retF0)); (focus (exact rfl)); (repeat' (first | exact trivial | (with_reducible apply Z.frz_one) | (with_reducible apply Z.frz_agg) | (with_reducible apply Z.fq_int) | (with_reducible apply Z.fq_bool) | (exact Z.frz_nil) | (exact Z.frz_osl0 rfl rfl rfl) | (with_reducible apply Z.fq_nil) | (with_reducible apply Z.fq_ro) | ((with_reducible apply Z.fq_gsl); (focus (first | rfl | exact Z.isB_map _ | exact Z.gB_snoc.symm)); (focus (exact fun _ => rfl))) | ((with_reducible apply Z.fq_osl); (focus (exact rfl)); (focus (first | exact rfl | (simp only [List.length_map, Nat.zero_add]; done) | ((try simp only [LN] at *) <;> omega))); (focus (exact fun _ => rfl))) | ((with_reducible apply Z.fq_src); (focus (exact rfl)); (focus (first | exact rfl | (simp only [List.length_map, Nat.zero_add]; done) | ((try simp only [LN] at *) <;> omega))); (focus (exact fun _ => rfl))) | exact rfl | ((apply Z.fq_osl); (focus (exact rfl)); (focus (first | exact rfl | (simp only [List.length_map, Nat.zero_add]; done) | ((try simp only [LN] at *) <;> omega))); (focus (exact fun _ => rfl))) | ((apply Z.fq_src); (focus (exact rfl)); (focus (first | exact rfl | (simp only [List.length_map, Nat.zero_add]; done) | ((try simp only [LN] at *) <;> omega))); (focus (exact fun _ => rfl))) | (apply Z.fq_ro) | (apply Z.fq_int) | (apply Z.fq_bool) | apply And.intro)); (all_goals (try exact (fun _ => none))); all_goals (unfold okS; rw [decide_eq_false (by (try simp only [LN] at *) <;> omega)]; rfl))
  have hpre : okS keep l = okR ⟨0, false, false⟩ l := by unfold okS; rw [decide_eq_true (by (try simp only [LN] at *) <;> omega), Bool.true_and]
  refine Z.loopK tabOk (fun zq : Nat × Kp => [(23, .val (.int .i64 (zq.1 : Int)))]) (fun zq : Nat × Kp => ([(1, some (Z.Ob.b ⟨[cK zq.2], 3, 44, true⟩))] : Z.Kr)) (fun zq => zq.1 ≤ l.length ∧ okS keep l = okR zq.2 (l.drop zq.1)) (fun zq => l.length - zq.1) (0, ⟨0, false, false⟩) 2 [(3, _), (21, _), (22, _)] ⟨rfl, rfl, rfl, trivial⟩ [(0, some _)] ⟨rfl, trivial⟩ ?_ ?_ rfl rfl ⟨Nat.zero_le _, hpre⟩ ?_
  · repeat' (first | exact trivial | apply And.intro | exact ⟨_, rfl, rfl⟩ | exact ⟨_, rfl, Z.Imp.refl _⟩ | exact ⟨_, rfl, Z.Imp.nilg _⟩ | exact ⟨_, rfl, Z.Imp.nilr _ _⟩)
  · repeat' (first | exact trivial | (intro b hb; cases hb; done) | exact (fun b hb => ⟨b, hb, Z.ImpO.refl b⟩) | (intro b hb; cases hb; refine ⟨_, rfl, ⟨rfl, rfl, rfl⟩, ?_⟩; (repeat' (first | exact trivial | apply And.intro | exact Z.Imp.refl _ | exact Z.Imp.nilg _ | exact Z.Imp.nilr _ _)); done) | apply And.intro)
  rintro ⟨i, a⟩ HINV
  dsimp only at HINV ⊢
  obtain ⟨HI, HO⟩ := HINV
  repeat' ((conv => whnf); first
    | with_reducible first | refine spB_t ?_
    | with_reducible first | refine spB_yes (by decide) ?_ | refine spB_no (by decide) ?_ | refine spB_f ?_ | refine spB_not ?_ | refine spB_yes (by assumption) ?_ | refine spB_no (by assumption) ?_
    | (with_reducible refine spB_dec ?_ ?_ <;> intro _ <;> (try (exfalso; first | contradiction | omega | (rename_i hz; with_reducible exact absurd rfl hz))))
    | (with_reducible refine spB_mk ?_ ?_ <;> intro _ <;> (try (exfalso; first | contradiction | omega | (rename_i hz; with_reducible exact absurd rfl hz))))
    | ((with_reducible apply ixN_litp); (focus (exact rfl)); (focus ((try simp only [LN] at *) <;> omega)))
    | with_reducible refine wr_i64 (by first | omega | (simp only [LN] at *; omega)) ?_
    | ((with_reducible refine rowN_map ?_ ?_); (focus ((try simp only [LN] at *) <;> omega)); intro x hx))
  all_goals (try (conv => whnf))
  all_goals first
    | ((refine Z.rndK ((i + 1, x)) (fun s => [0, 1]) rfl rfl rfl rfl ?_ ?_ ?_ ?_); (focus (repeat' (first | exact trivial | exact rfl | (rw [List.map_append]; exact rfl) | apply And.intro))); (focus (repeat' (first | exact trivial | (intro b hb; cases hb; rfl) | (intro b hb; cases hb; subst hlb; rfl) | (intro b hb; cases hb; rw [List.map_append]; rfl) | (intro b hb; cases hb; done) | exact Z.blk_sub rfl rfl (ren_map fun _ => rfl) | exact Z.blk_sub rfl rfl (Z.ren_app (ren_map fun _ => rfl) (ren_map fun _ => rfl)) | exact Z.blk_sub rfl (by first | (rw [List.map_append]; rfl) | (rw [List.map_set]; rfl) | simp only [List.map_append, List.map_cons, List.map_nil, List.map_set]) (ren_map fun _ => rfl) | exact Z.gB_sub rfl rfl (ren_map fun _ => rfl) | exact Z.gB_sub' rfl (by first | rfl | (rw [List.map_append]; rfl) | simp only [List.map_append, List.map_cons, List.map_nil]) (ren_map fun _ => rfl) | apply And.intro))); (focus (refine ⟨by (try simp only [LN] at *) <;> omega, ?_⟩; (try dsimp only); rw [HO, okR_at hx, decide_eq_true (p := a.num < x.num ∧ _) (by refine ⟨by omega, by omega, fun h9 => ?_⟩; first | assumption | (exfalso; simp_all; done) | (simp_all; done)), Bool.true_and])); (try simp only [LN] at *); (try dsimp only); omega)
    | ((first | (with_reducible apply Z.retF1) | (with_reducible apply Z.retF2) | (with_reducible apply Z.retF0)); (focus (exact rfl)); (repeat' (first | exact trivial | (with_reducible apply Z.frz_one) | (with_reducible apply Z.frz_agg) | (with_reducible apply Z.fq_int) | (with_reducible apply Z.fq_bool) | (exact Z.frz_nil) | (exact Z.frz_osl0 rfl rfl rfl) | (with_reducible apply Z.fq_nil) | (with_reducible apply Z.fq_ro) | ((with_reducible apply Z.fq_gsl); (focus (first | rfl | exact Z.isB_map _ | exact Z.gB_snoc.symm)); (focus (exact fun _ => rfl))) | ((with_reducible apply Z.fq_osl); (focus (exact rfl)); (focus (first | exact rfl | (simp only [List.length_map, Nat.zero_add]; done) | ((try simp only [LN] at *) <;> omega))); (focus (exact fun _ => rfl))) | ((with_reducible apply Z.fq_src); (focus (exact rfl)); (focus (first | exact rfl | (simp only [List.length_map, Nat.zero_add]; done) | ((try simp only [LN] at *) <;> omega))); (focus (exact fun _ => rfl))) | exact rfl | ((apply Z.fq_osl); (focus (exact rfl)); (focus (first | exact rfl | (simp only [List.length_map, Nat.zero_add]; done) | ((try simp only [LN] at *) <;> omega))); (focus (exact fun _ => rfl))) | ((apply Z.fq_src); (focus (exact rfl)); (focus (first | exact rfl | (simp only [List.length_map, Nat.zero_add]; done) | ((try simp only [LN] at *) <;> omega))); (focus (exact fun _ => rfl))) | (apply Z.fq_ro) | (apply Z.fq_int) | (apply Z.fq_bool) | apply And.intro)); (all_goals (try exact (fun _ => none))); all_goals (first | (rw [HO, drop_end (by (try simp only [LN] at *) <;> omega)]; rfl) | (rw [HO, okR_at hx, decide_eq_false (p := a.num < x.num ∧ _) (by rintro ⟨h1, h2, h3⟩; first | omega | (have h4 := h3 (by assumption); simp_all; done))]; rfl)))
    | (fail)

end Go.Proofs.Ytnlcmncfbiognaa
