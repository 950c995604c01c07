import Derived.Test.YtibjpohankaoeaaPm0
namespace Go.Proofs.Ytibjpohankaoeaa
open Go Go.RowKit Wx
set_option linter.unusedVariables false
set_option linter.unusedSimpArgs false
set_option maxHeartbeats 4000000
theorem parts_main (t w a b c s at0 : Int) (ins l : List Int) (hi : ins.length ≤ 9223372036854775807) (hl : l.length ≤ 9223372036854775807) (hc : c ≤ 9223372036854775807) : Con Try.prog 7 [.agg [.v (.int .i64 t), .v (.int .i64 w), .ro false 1 (ins.map eI), .v (.int .i64 a), .v (.int .i64 b), .v (.int .i64 c), .v (.int .i64 s)], .one (.ro false 1 (l.map eI)), .one (.v (.int .i64 at0))] (fun rx rK rt => rx = .val (.bool true) ∧ rK = [] ∧ rt = 0) := by
  have hfl := fw_len l
  have hoi := oi_len ins
  have hw0 : 0 ≤ IntKind.u64.wrap at0 := by
    simp [IntKind.wrap, IntKind.bits, IntKind.signed]
    omega
  have hwn : IntKind.u64.wrap (((List.take ((min (fw l).length 40) - 0) (List.drop 0 (List.map eI (fw l)))).length : Nat) + 1) = (((min (fw l).length 40) : Nat) : Int) + 1 := by
    rw [show (List.take ((min (fw l).length 40) - 0) (List.drop 0 (List.map eI (fw l)))).length = (min (fw l).length 40) by simp]
    exact u64_in _ (by omega)
  obtain ⟨k, hk⟩ := Int.eq_ofNat_of_zero_le (Int.emod_nonneg (IntKind.u64.wrap at0) (show ((((min (fw l).length 40) : Nat) : Int) + 1) ≠ 0 by omega))
  have hk2 : k ≤ (min (fw l).length 40) := by
    have := Int.emod_lt_of_pos (IntKind.u64.wrap at0) (show 0 < ((((min (fw l).length 40) : Nat) : Int) + 1) by omega)
    omega
  have e1 : ((fw l).take (min (fw l).length 40)).map eI = ((fw l).map eI).take (min (fw l).length 40) := List.map_take ..
  have e3 : (((fw l).map eI).take (min (fw l).length 40)).drop k = ((((fw l).map eI).take (min (fw l).length 40)).drop k).take ((((fw l).map eI).take (min (fw l).length 40)).length - k) := (List.take_of_length_le (by rw [List.length_drop]; exact Nat.le_refl _)).symm
  have hn : ((fw l).take (min (fw l).length 40)).length = (min (fw l).length 40) := by rw [List.length_take]; omega
  rcases parts_con t w a b c s (oi ins) ((fw l).take (min (fw l).length 40)) k (by omega) (by omega) (by omega) hc with ⟨e, he, h1, h2⟩ | ⟨a1, s1, O1, e, he, h1, h2, h3⟩ | ⟨a1, s1, O1, c2, s2, O2, o1, o2, h1, h2, h3, f2, f1⟩
  · rw [e1] at h1; rw [List.map_take, e1] at h2
    exact parts_1 t w a b c s at0 ins l k hi hl hk.symm hk2 hw0 hwn e he h1 h2
  · rw [e1] at h1; rw [List.map_take, e1] at h2; rw [List.map_drop, e1, e3] at h3
    exact parts_2 t w a b c s at0 ins l k hi hl hk.symm hk2 hw0 hwn a1 s1 O1 e he h1 h2 h3
  · rw [e1] at h1; rw [List.map_take, e1] at h2; rw [List.map_drop, e1, e3] at h3
    exact parts_3 t w a b c s at0 ins l k hi hl hk.symm hk2 hw0 hwn a1 s1 O1 c2 s2 O2 o1 o2 h1 h2 h3 f2 f1
end Go.Proofs.Ytibjpohankaoeaa
