import Derived.Test.YtnlcmncfbiognaaRa1
namespace Go.Proofs.Ytnlcmncfbiognaa
open Go Go.RowKit Wx
set_option linter.unusedVariables false
set_option linter.unusedSimpArgs false
set_option maxHeartbeats 4000000
def anyN (n : Int) (l : List Kp) : Bool := l.any (fun q => decide (q.num = n))
def idxN (n : Int) (l : List Kp) : Nat := l.findIdx (fun q => decide (q.num = n))
theorem anyN_at {n : Int} {l : List Kp} {i : Nat} {x : Kp} (h : l[i]? = some x) : anyN n (l.drop i) = (decide (x.num = n) || anyN n (l.drop (i + 1))) := by rw [drop_cons h]; rfl
theorem idxN_at {n : Int} {l : List Kp} {i : Nat} {x : Kp} (h : l[i]? = some x) : idxN n (l.drop i) = if x.num = n then 0 else idxN n (l.drop (i + 1)) + 1 := by
  rw [drop_cons h]; unfold idxN; rw [List.findIdx_cons]
  by_cases e : x.num = n <;> simp [e]
theorem find_con (keep number : Int) (l : List Kp) (hl : l.length ≤ 9223372036854775807) : Con Try.prog 45 [.agg [.v (.int .i64 keep), .ro false 3 (l.map eK)], .one (.v (.int .u64 number))] (fun rx rK rt => rx = .tup [.one (.v (.int .i64 (bif anyN number l then ((idxN number l : Nat) : Int) else -1))), .one (.v (.bool (anyN number l)))] ∧ rK = [] ∧ rt = 0) := by
  refine Z.con_ofF tabOk 14 Try.f45 _ Try.func45 (by kernel_rfl) rfl rfl rfl rfl ?_
  repeat' ((conv => whnf); first
    | with_reducible first | refine apN_mk (by kernel_rfl) ?_ | refine Z.callZ_in tabOk 19 Try.f46 _ Try.func46 (by kernel_rfl) rfl rfl rfl ?_ | refine Z.callZ_in tabOk 8 Try.f51 _ Try.func51 (by kernel_rfl) rfl rfl rfl ?_)
  all_goals (try (conv => whnf))
  refine Z.loopK tabOk (fun zq : Nat => [(8, .val (.int .i64 (zq : Int)))]) (fun zq : Nat => ([] : Z.Kr)) (fun zq => zq ≤ l.length ∧ anyN number l = anyN number (l.drop zq) ∧ idxN number l = zq + idxN number (l.drop zq)) (fun zq => l.length - zq) 0 2 [(0, _), (1, _), (7, _)] ⟨rfl, rfl, rfl, trivial⟩ [(0, some _), (1, some _)] ⟨rfl, rfl, trivial⟩ ?_ ?_ rfl rfl ⟨Nat.zero_le _, rfl, (Nat.zero_add _).symm⟩ ?_
  · repeat' (first | exact trivial | apply And.intro | exact ⟨_, rfl, rfl⟩ | exact ⟨_, rfl, Z.Imp.refl _⟩ | exact ⟨_, rfl, Z.Imp.nilg _⟩ | exact ⟨_, rfl, Z.Imp.nilr _ _⟩)
  · repeat' (first | exact trivial | (intro b hb; cases hb; done) | exact (fun b hb => ⟨b, hb, Z.ImpO.refl b⟩) | (intro b hb; cases hb; refine ⟨_, rfl, ⟨rfl, rfl, rfl⟩, ?_⟩; (repeat' (first | exact trivial | apply And.intro | exact Z.Imp.refl _ | exact Z.Imp.nilg _ | exact Z.Imp.nilr _ _)); done) | apply And.intro)
  rintro h HINV
  dsimp only at HINV ⊢
  obtain ⟨HI, HA, HX⟩ := HINV
  repeat' ((conv => whnf); first
    | (with_reducible refine spB_dec ?_ ?_ <;> intro _ <;> (try (exfalso; first | contradiction | omega | (rename_i hz; with_reducible exact absurd rfl hz))))
    | (with_reducible refine spB_beq ?_ ?_ <;> intro _ <;> (try (exfalso; first | contradiction | omega | (rename_i hz; with_reducible exact absurd rfl hz))))
    | ((with_reducible apply ixN_litp); (focus (exact rfl)); (focus ((try simp only [LN] at *) <;> omega)))
    | with_reducible refine wr_i64 (by first | omega | (simp only [LN] at *; omega)) ?_
    | ((with_reducible refine rowN_map ?_ ?_); (focus ((try simp only [LN] at *) <;> omega)); intro x hx)
    | with_reducible first | refine apN_mk (by kernel_rfl) ?_ | refine Z.callZ_in tabOk 19 Try.f46 _ Try.func46 (by kernel_rfl) rfl rfl rfl ?_ | refine Z.callZ_in tabOk 8 Try.f51 _ Try.func51 (by kernel_rfl) rfl rfl rfl ?_
    | ((with_reducible apply ex_and); exact rfl))
  all_goals (try (conv => whnf))
  all_goals first
    | ((refine Z.rndK (h + 1) (fun s => [0, 1]) rfl rfl rfl rfl ?_ ?_ ?_ ?_); (focus (repeat' (first | exact trivial | exact rfl | (rw [List.map_append]; exact rfl) | apply And.intro))); (focus (repeat' (first | exact trivial | (intro b hb; cases hb; rfl) | (intro b hb; cases hb; subst hlb; rfl) | (intro b hb; cases hb; rw [List.map_append]; rfl) | (intro b hb; cases hb; done) | exact Z.blk_sub rfl rfl (ren_map fun _ => rfl) | exact Z.blk_sub rfl rfl (Z.ren_app (ren_map fun _ => rfl) (ren_map fun _ => rfl)) | exact Z.blk_sub rfl (by first | (rw [List.map_append]; rfl) | (rw [List.map_set]; rfl) | simp only [List.map_append, List.map_cons, List.map_nil, List.map_set]) (ren_map fun _ => rfl) | exact Z.gB_sub rfl rfl (ren_map fun _ => rfl) | exact Z.gB_sub' rfl (by first | rfl | (rw [List.map_append]; rfl) | simp only [List.map_append, List.map_cons, List.map_nil]) (ren_map fun _ => rfl) | apply And.intro))); (focus (refine ⟨by (try simp only [LN] at *) <;> omega, ?_, ?_⟩; (focus ((try dsimp only); rw [HA, anyN_at hx, decide_eq_false (p := x.num = number) (by assumption), Bool.false_or])); ((try dsimp only); rw [HX, idxN_at hx, if_neg (by assumption)]; omega))); (try simp only [LN] at *); (try dsimp only); omega)
    | ((first | (with_reducible apply Z.retF1) | (with_reducible apply Z.retF2) | (with_reducible apply Z.retF0)); (focus (exact rfl)); (repeat' (first | exact trivial | (with_reducible apply Z.frz_one) | (with_reducible apply Z.frz_agg) | (with_reducible apply Z.fq_int) | (with_reducible apply Z.fq_bool) | (exact Z.frz_nil) | (exact Z.frz_osl0 rfl rfl rfl) | (with_reducible apply Z.fq_nil) | (with_reducible apply Z.fq_ro) | ((with_reducible apply Z.fq_gsl); (focus (first | rfl | exact Z.isB_map _ | exact Z.gB_snoc.symm)); (focus (exact fun _ => rfl))) | ((with_reducible apply Z.fq_osl); (focus (exact rfl)); (focus (first | exact rfl | (simp only [List.length_map, Nat.zero_add]; done) | ((try simp only [LN] at *) <;> omega))); (focus (exact fun _ => rfl))) | ((with_reducible apply Z.fq_src); (focus (exact rfl)); (focus (first | exact rfl | (simp only [List.length_map, Nat.zero_add]; done) | ((try simp only [LN] at *) <;> omega))); (focus (exact fun _ => rfl))) | exact rfl | ((apply Z.fq_osl); (focus (exact rfl)); (focus (first | exact rfl | (simp only [List.length_map, Nat.zero_add]; done) | ((try simp only [LN] at *) <;> omega))); (focus (exact fun _ => rfl))) | ((apply Z.fq_src); (focus (exact rfl)); (focus (first | exact rfl | (simp only [List.length_map, Nat.zero_add]; done) | ((try simp only [LN] at *) <;> omega))); (focus (exact fun _ => rfl))) | (apply Z.fq_ro) | (apply Z.fq_int) | (apply Z.fq_bool) | apply And.intro)); (all_goals (try exact (fun _ => none))); all_goals (first | (rw [HA, HX, anyN_at hx, idxN_at hx, decide_eq_true (p := x.num = number) (by assumption), if_pos (by assumption)]; rfl) | (rw [HA, anyN_at hx, decide_eq_true (p := x.num = number) (by assumption), Bool.true_or]; exact (decide_eq_true (by omega))) | (rw [HA, drop_end (by (try simp only [LN] at *) <;> omega)]; rfl)))
    | (fail)

end Go.Proofs.Ytnlcmncfbiognaa
