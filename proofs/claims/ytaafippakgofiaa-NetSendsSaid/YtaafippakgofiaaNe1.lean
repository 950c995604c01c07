import Derived.Test.YtaafippakgofiaaNe0
namespace Go.Proofs.Ytaafippakgofiaa
open Go Go.RowKit Wx
set_option linter.unusedVariables false
set_option linter.unusedSimpArgs false
set_option maxHeartbeats 4000000

theorem vN_K {z v K : Int} {A : Int → Prop} (hK : v = K) (h : z = v) (k : A K) : vN z A := ⟨K, h.trans hK, k⟩
def shB (bs : List Int) : List Int := bs.take (min bs.length 30001)
theorem shB_len (bs : List Int) : (shB bs).length ≤ 30001 := by simp only [shB, List.length_take]; omega
theorem one_tkB {bs : List Int} {n m : Nat} : ∀ r ∈ (List.take n (List.drop m (bs.map eB))).map (List.map (RT.ce false)), ∀ c ∈ r, c.single = true := fun r hr c hc => by
  obtain ⟨q, hq, rfl⟩ := List.mem_map.1 hr
  obtain ⟨z, _, rfl⟩ := List.mem_map.1 (List.mem_of_mem_drop (List.mem_of_mem_take hq))
  simp only [eB, List.map_cons, List.map_nil, List.mem_singleton] at hc
  subst hc; rfl
theorem bytes_con (kd fr to at0 : Int) (st ot : Bool) (bs : List Int) (hbl : bs.length ≤ 9223372036854775807) : Con Try.prog 21 [.agg [.v (.int .i64 kd), .v (.int .i64 fr), .v (.int .i64 to), .v (.int .i64 at0), .v (.bool st), .v (.bool ot), .ro false 1 (bs.map eB)]] (fun rx rK rt => rx = .c (.osl 0 0 (shB bs).length none) ∧ rK = [(0, some ⟨(shB bs).map cB, 1, 5, false⟩)] ∧ rt = 1) := by
  refine con_of tabOk 12 Try.f21 _ Try.func21 (by kernel_rfl) rfl rfl rfl rfl (fun W => ?_)
  repeat' ((conv => whnf); first
    | ((with_reducible refine slN_hi (min bs.length 30001) ?_ ?_ ?_); (focus ((try simp only [LN] at *) <;> omega)); (focus ((try simp only [LN] at *) <;> omega)))
    | ((with_reducible refine apdE_n ?_); (with_reducible refine apdN.mk ?_ ?_ ?_ ?_ ?_ ?_); (focus (simp; done)); (focus (exact one_tkB)); (focus ((try simp only [LN] at *) <;> omega)); (focus ((try simp only [LN] at *) <;> omega)); (focus ((try simp only [LN] at *) <;> omega))))
  all_goals (try (conv => whnf))
  refine ret1b 2 (.c (.osl 0 0 (shB bs).length none)) ((shB bs).map cB) 1 5 false _ rfl ?_ rfl ?_ (ren_map fun _ => rfl) rfl (own_map fun _ => rfl) ⟨rfl, rfl, rfl⟩
  · rw [show (shB bs).length = 0 + (List.take (min bs.length 30001 - 0) (List.drop 0 (List.map eB bs))).length by simp [shB]]; rfl
  · simp [shB, RT.ce, Function.comp_def, List.map_take, List.take_take]

end Go.Proofs.Ytaafippakgofiaa
