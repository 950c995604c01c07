import Derived.Test.YtopieffkpdlpbaaGreatOwn8a
import Derived.Test.YtopieffkpdlpbaaGreatOwn8b
import Derived.Test.YtopieffkpdlpbaaGreatOwn8c
set_option linter.unusedVariables false
set_option linter.unusedSimpArgs false
namespace Go.Proofs.YtopieffkpdlpbaaGreat
open Go Go.RowKit Wx
set_option maxHeartbeats 40000000
open Tab
theorem sdecode_con (b : List Int) (hB : isB b) (hl : b.length ≤ 1000000000) : Con Tryz.prog 17 [.one (.ro false 1 (b.map eB))] (fun rx rK rt => rx = .tup [.agg [.v (.int .i64 (decS b).1.op), .v (.int .i64 (decS b).1.ix), .v (.int .i64 (decS b).1.w), .v (.bool (decS b).1.en), .ro true 4 ((decS b).1.rows.map Tab.eK), .v (.int .i64 (decS b).1.o0), .v (.int .i64 (decS b).1.o1), .v (.int .i64 (decS b).1.o2), .v (.int .i64 (decS b).1.o3), .v (.int .i64 (decS b).1.o4), .v (.int .i64 (decS b).1.o5), .v (.int .i64 (decS b).1.o6), .v (.int .i64 (decS b).1.o7), .ro true 3 ((decS b).1.txs.map eN)], .one (.v (.int .i64 (decS b).2))] ∧ rK = [] ∧ rt = 0) := by
 by_cases h6 : b.length < 6
 ·rw [sh_six h6]
  match b, h6, hB with
  | [], _, hB => exact sdec_s0
  | [t0], _, hB => exact sdec_s1 t0 hB
  | [t0, t1], _, hB => exact sdec_s2 t0 t1 hB
  | [t0, t1, t2], _, hB => exact sdec_s3 t0 t1 t2 hB
  | [t0, t1, t2, t3], _, hB => exact sdec_s4 t0 t1 t2 t3 hB
  | [t0, t1, t2, t3, t4], _, hB => exact sdec_s5 t0 t1 t2 t3 t4 hB
  | _ :: _ :: _ :: _ :: _ :: _ :: _, h6, _ => simp only [List.length_cons] at h6; omega
 obtain ⟨t0, t1, t2, t3, t4, t5, r, rfl⟩ := split6 (Nat.le_of_not_lt h6)
 have h4 := hB t4 (by simp)
 have h5 := hB t5 (by simp)
 obtain ⟨N, hN⟩ : ∃ N : Nat, numR [t4, t5] = (N : Int) := ⟨(numR [t4, t5]).toNat, by rw [numR2]; omega⟩
 have hl2 : r.length ≤ 1000000000 := by simp only [List.length_cons] at hl; omega
 by_cases hr : r.length < 18 * N
 ·rw [sh_raw hN (by omega)]
  exact sdec_raw t0 t1 t2 t3 t4 t5 r N hB hN hr hl2
 obtain ⟨R0, L, rfl, hR0⟩ : ∃ R0 L, r = R0 ++ L ∧ R0.length = 18 * N := ⟨r.take (18 * N), r.drop (18 * N), (List.take_append_drop _ _).symm, by rw [List.length_take]; omega⟩
 by_cases hL : L.length ≤ 8
 ·rw [sh_raw hN (by rw [List.length_append]; omega)]
  exact sdec_few t0 t1 t2 t3 t4 t5 R0 L N hB hN hR0 hl2 hL
 obtain ⟨p0, p1, p2, p3, p4, p5, p6, p7, m, R3, rfl⟩ := split9 (b := L) (by omega)
 exact sdec_ok t0 t1 t2 t3 t4 t5 p0 p1 p2 p3 p4 p5 p6 p7 m R0 R3 N hB hN hR0 hl2
end Go.Proofs.YtopieffkpdlpbaaGreat
