import Derived.Test.YtnlcmncfbiognaaRa4
import Derived.Test.YtnlcmncfbiognaaRa5
import Derived.Test.YtnlcmncfbiognaaRa6
namespace Go.Proofs.Ytnlcmncfbiognaa
open Go Go.RowKit Wx
set_option linter.unusedVariables false
set_option linter.unusedSimpArgs false
set_option maxHeartbeats 4000000
theorem mark_con (keep number : Int) (l : List Kp) (hl : l.length ≤ 9223372036854775807) : Con Try.prog 18 [.agg [.v (.int .i64 keep), .ro false 3 (l.map eK)], .one (.v (.int .u64 number))] (fun rx rK rt => rx = .tup [.agg [.v (.int .i64 (markR keep number l).keep), .ro true 3 (((markR keep number l).rows).map eK)], .one (.v (.int .i64 (markR keep number l).err))] ∧ rK = [] ∧ rt = 0) := by
  cases hk : okS keep l with
  | false =>
    have h := mark_bad keep number l hl hk
    unfold markR; rw [atR_bad hk]; exact h
  | true =>
    by_cases hne : l = []
    · subst hne
      have h := mark_emp keep number hk
      unfold markR; rw [atR_none hk rfl]; exact h
    · have hl16 := (okS_keep hk).2.2
      cases ha : anyN number l with
      | false =>
        have h := mark_none keep number l hl16 hk hne ha
        unfold markR; rw [atR_none hk ha]; exact h
      | true =>
        obtain ⟨q, hq, hn⟩ := anyN_get ha
        cases hs : q.save with
        | true =>
          have h := mark_no keep number l _ q hl16 hk hne ha rfl hq hs
          unfold markR; rw [atR_some hk rfl hq, hs]; exact h
        | false =>
          have h := mark_t keep number l _ q hl16 hk hne ha rfl hq hs
          unfold markR; rw [atR_some hk rfl hq, hs]; exact h
theorem rel_con (keep number : Int) (l : List Kp) (hl : l.length ≤ 9223372036854775807) : Con Try.prog 17 [.agg [.v (.int .i64 keep), .ro false 3 (l.map eK)], .one (.v (.int .u64 number))] (fun rx rK rt => rx = .tup [.agg [.v (.int .i64 (relR keep number l).keep), .ro true 3 (((relR keep number l).rows).map eK)], .one (.ro true 1 (((relR keep number l).gone).map eU)), .one (.v (.int .i64 (relR keep number l).err))] ∧ rK = [] ∧ rt = 0) := by
  cases hk : okS keep l with
  | false =>
    have h := rel_bad keep number l hl hk
    unfold relR; rw [atR_bad hk]; exact h
  | true =>
    by_cases hne : l = []
    · subst hne
      have h := rel_emp keep number hk
      unfold relR; rw [atR_none hk rfl]; exact h
    · have hl16 := (okS_keep hk).2.2
      cases ha : anyN number l with
      | false =>
        have h := rel_none keep number l hl16 hk hne ha
        unfold relR; rw [atR_none hk ha]; exact h
      | true =>
        obtain ⟨q, hq, hn⟩ := anyN_get ha
        cases hs : q.save with
        | false =>
          have h := rel_no keep number l _ q hl16 hk hne ha rfl hq hs
          unfold relR; rw [atR_some hk rfl hq, hs]; exact h
        | true =>
          have h := rel_t keep number l _ q hl16 hk hne ha rfl hq hs
          unfold relR; rw [atR_some hk rfl hq, hs]; exact h
end Go.Proofs.Ytnlcmncfbiognaa
