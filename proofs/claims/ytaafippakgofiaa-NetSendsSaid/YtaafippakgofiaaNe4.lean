import Derived.Test.YtaafippakgofiaaNe2
import Derived.Test.YtaafippakgofiaaNe3
namespace Go.Proofs.Ytaafippakgofiaa
open Go Go.RowKit Wx
set_option linter.unusedVariables false
set_option linter.unusedSimpArgs false
set_option maxHeartbeats 4000000
structure Td where
  s : Int
  ps : List Pc
  num : Int
  p : Pc
  g : Int
  e : Int
noncomputable def runF (K fr to N : Int) (st : Bool) (bs : List Int) (sent : Int) (ps : List Pc) : Td :=
  if K < 3 then (open Classical in if okS fr to bs.length ps.length sent then ⟨sent + 1, ps ++ [(⟨sent + 1, fr, to, bs⟩ : Pc)], sent + 1, (⟨0, 0, 0, []⟩ : Pc), 0, 0⟩ else ⟨0, [], 0, (⟨0, 0, 0, []⟩ : Pc), 0, sendE fr to bs.length⟩)
  else if K < 5 then (if fnd N ps = true then ⟨sent, (if st = true then ps else ps.eraseIdx (srch N ps)), 0, prc N ps, 0, 0⟩ else ⟨0, [], 0, (⟨0, 0, 0, []⟩ : Pc), 0, 4⟩)
  else if K < 6 then (if fnd N ps = true then ⟨sent, ps.eraseIdx (srch N ps), 0, (⟨0, 0, 0, []⟩ : Pc), 0, 0⟩ else ⟨0, [], 0, (⟨0, 0, 0, []⟩ : Pc), 0, 4⟩)
  else if 1 ≤ fr ∧ fr ≤ 7 then ⟨sent, keepL fr ps, 0, (⟨0, 0, 0, []⟩ : Pc), (ps.length : Int) - (keepL fr ps).length, 0⟩ else ⟨0, [], 0, (⟨0, 0, 0, []⟩ : Pc), 0, 2⟩
theorem run_con (kd fr to at0 : Int) (st ot : Bool) (bs : List Int) (sent : Int) (ps : List Pc) (hl : ps.length ≤ 100) (hb : ∀ p ∈ ps, p.bs.length ≤ 30001) (hbl : bs.length ≤ 9223372036854775807) (hk : okN sent ps = true) (hs0 : 0 ≤ sent) : Con Try.prog 19 [.agg [.v (.int .i64 kd), .v (.int .i64 fr), .v (.int .i64 to), .v (.int .i64 at0), .v (.bool st), .v (.bool ot), .ro false 1 (bs.map eB)], .agg [.v (.int .u64 sent), .ro false 4 (ps.map eP)]] (fun rx rK rt => rx = .pl (.agg [.v (.int .u64 ((runF (IntKind.u64.wrap kd % 7) fr to (numF at0 ot ps) st (shB bs) sent ps).s)), .ro true 4 (((runF (IntKind.u64.wrap kd % 7) fr to (numF at0 ot ps) st (shB bs) sent ps).ps).map eP), .v (.int .u64 ((runF (IntKind.u64.wrap kd % 7) fr to (numF at0 ot ps) st (shB bs) sent ps).num)), .v (.int .u64 ((runF (IntKind.u64.wrap kd % 7) fr to (numF at0 ot ps) st (shB bs) sent ps).p).num), .v (.int .i64 ((runF (IntKind.u64.wrap kd % 7) fr to (numF at0 ot ps) st (shB bs) sent ps).p).fr), .v (.int .i64 ((runF (IntKind.u64.wrap kd % 7) fr to (numF at0 ot ps) st (shB bs) sent ps).p).to), .ro true 1 (((runF (IntKind.u64.wrap kd % 7) fr to (numF at0 ot ps) st (shB bs) sent ps).p).bs.map eB), .v (.int .i64 ((runF (IntKind.u64.wrap kd % 7) fr to (numF at0 ot ps) st (shB bs) sent ps).g)), .v (.int .i64 ((runF (IntKind.u64.wrap kd % 7) fr to (numF at0 ot ps) st (shB bs) sent ps).e))]) ∧ rK = [] ∧ rt = 0) := by
  have h7 := Int.emod_lt_of_pos (IntKind.u64.wrap kd) (show (0 : Int) < 7 by decide)
  have h0 := Int.emod_nonneg (IntKind.u64.wrap kd) (show (7 : Int) ≠ 0 by decide)
  generalize hK : IntKind.u64.wrap kd % 7 = K at *
  by_cases k3 : K < 3
  · by_cases hS : okS fr to (shB bs).length ps.length sent
    · have hf : runF K fr to (numF at0 ot ps) st (shB bs) sent ps = ⟨sent + 1, ps ++ [(⟨sent + 1, fr, to, shB bs⟩ : Pc)], sent + 1, (⟨0, 0, 0, []⟩ : Pc), 0, 0⟩ := by unfold runF; rw [if_pos k3, if_pos hS]
      rw [hf]; exact run_s1 kd fr to at0 st ot bs sent ps hl hb hbl hk K hK (by omega) hs0 hS
    · have hf : runF K fr to (numF at0 ot ps) st (shB bs) sent ps = ⟨0, [], 0, (⟨0, 0, 0, []⟩ : Pc), 0, sendE fr to (shB bs).length⟩ := by unfold runF; rw [if_pos k3, if_neg hS]
      rw [hf]; exact run_s0 kd fr to at0 st ot bs sent ps hl hb hbl hk K hK (by omega) hs0 hS
  by_cases k5 : K < 5
  · cases hF : fnd (numF at0 ot ps) ps with
    | true =>
      obtain ⟨x, hx, hn⟩ := fnd_t hF
      cases st with
      | true =>
        have hf : runF K fr to (numF at0 ot ps) true (shB bs) sent ps = ⟨sent, ps, 0, x, 0, 0⟩ := by unfold runF; rw [if_neg k3, if_pos k5, if_pos hF, if_pos rfl, prc_eq hx]
        rw [hf]; exact run_ct kd fr to at0 true ot bs sent ps hl hb hbl hk K hK (by omega) rfl x hx hn
      | false =>
        have hf : runF K fr to (numF at0 ot ps) false (shB bs) sent ps = ⟨sent, ps.eraseIdx (srch (numF at0 ot ps) ps), 0, x, 0, 0⟩ := by unfold runF; rw [if_neg k3, if_pos k5, if_pos hF, if_neg (by decide), prc_eq hx]
        rw [hf]; exact run_cf kd fr to at0 false ot bs sent ps hl hb hbl hk K hK (by omega) rfl x hx hn
    | false =>
      have hf : runF K fr to (numF at0 ot ps) st (shB bs) sent ps = ⟨0, [], 0, (⟨0, 0, 0, []⟩ : Pc), 0, 4⟩ := by unfold runF; rw [if_neg k3, if_pos k5, if_neg (by rw [hF]; decide)]
      rw [hf]; exact run_cn kd fr to at0 st ot bs sent ps hl hb hbl hk K hK (by omega) hF
  by_cases k6 : K < 6
  · cases hF : fnd (numF at0 ot ps) ps with
    | true =>
      obtain ⟨x, hx, hn⟩ := fnd_t hF
      have hf : runF K fr to (numF at0 ot ps) st (shB bs) sent ps = ⟨sent, ps.eraseIdx (srch (numF at0 ot ps) ps), 0, (⟨0, 0, 0, []⟩ : Pc), 0, 0⟩ := by unfold runF; rw [if_neg k3, if_neg k5, if_pos k6, if_pos hF]
      rw [hf]; exact run_lt kd fr to at0 st ot bs sent ps hl hb hbl hk K hK (by omega) x hx hn
    | false =>
      have hf : runF K fr to (numF at0 ot ps) st (shB bs) sent ps = ⟨0, [], 0, (⟨0, 0, 0, []⟩ : Pc), 0, 4⟩ := by unfold runF; rw [if_neg k3, if_neg k5, if_pos k6, if_neg (by rw [hF]; decide)]
      rw [hf]; exact run_ln kd fr to at0 st ot bs sent ps hl hb hbl hk K hK (by omega) hF
  by_cases hnd : 1 ≤ fr ∧ fr ≤ 7
  · have hf : runF K fr to (numF at0 ot ps) st (shB bs) sent ps = ⟨sent, keepL fr ps, 0, (⟨0, 0, 0, []⟩ : Pc), (ps.length : Int) - (keepL fr ps).length, 0⟩ := by unfold runF; rw [if_neg k3, if_neg k5, if_neg k6, if_pos hnd]
    rw [hf]; exact run_gt kd fr to at0 st ot bs sent ps hl hb hbl hk K hK (by omega) hnd
  · have hf : runF K fr to (numF at0 ot ps) st (shB bs) sent ps = ⟨0, [], 0, (⟨0, 0, 0, []⟩ : Pc), 0, 2⟩ := by unfold runF; rw [if_neg k3, if_neg k5, if_neg k6, if_neg hnd]
    rw [hf]; exact run_gn kd fr to at0 st ot bs sent ps hl hb hbl hk K hK (by omega) hnd
theorem okL_le {sent : Int} : ∀ {ps : List Pc} {last : Int}, okL sent last ps = true → ∀ p ∈ ps, p.num ≤ sent
  | [], _, _, p, h => by simp at h
  | q :: ps, last, h, p, hp => by
    simp only [okL, okP, Bool.and_eq_true, decide_eq_true_eq] at h
    rcases List.mem_cons.1 hp with rfl | hp
    · exact h.1.2.1
    · exact okL_le h.2 p hp
theorem okN_le {sent : Int} {ps : List Pc} (h : okN sent ps = true) : ∀ p ∈ ps, p.num ≤ sent := by
  unfold okN at h; simp only [Bool.and_eq_true] at h; exact okL_le h.2
theorem srt_uniq {ps : List Pc} {p q : Pc} (hs : srt ps) (hp : p ∈ ps) (hq : q ∈ ps) (e : q.num = p.num) : q = p := by
  obtain ⟨i, hi⟩ := List.getElem?_of_mem hp
  obtain ⟨j, hj⟩ := List.getElem?_of_mem hq
  rcases Nat.lt_trichotomy i j with h | h | h
  · have := hs i j p q h hi hj; omega
  · subst h; rw [hi] at hj; cases hj; rfl
  · have := hs j i q p h hj hi; omega
theorem er_mem {ps : List Pc} {i : Nat} {x q : Pc} (hs : srt ps) (hx : ps[i]? = some x) : q ∈ ps.eraseIdx i ↔ (q ∈ ps ∧ q.num ≠ x.num) := by
  rw [List.mem_eraseIdx_iff_getElem?]
  constructor
  · rintro ⟨j, hj, hq⟩
    refine ⟨List.mem_of_getElem? hq, fun e => ?_⟩
    rcases Nat.lt_or_gt_of_ne hj with h | h
    · have := hs j i q x h hq hx; omega
    · have := hs i j x q h hx hq; omega
  · rintro ⟨hq, hn⟩
    obtain ⟨j, hj⟩ := List.getElem?_of_mem hq
    exact ⟨j, fun e => by subst e; rw [hx] at hj; cases hj; exact hn rfl, hj⟩
def gP (K fr N : Int) (st : Bool) (p : Pc) : Prop := (K = 6 ∧ (p.fr = fr ∨ p.to = fr)) ∨ (¬ K = 6 ∧ 2 < K ∧ p.num = N ∧ ¬ (K < 5 ∧ st = true))
theorem run_core {sent : Int} {ps T : List Pc} {g : Pc → Prop} (hk : okN sent ps = true) (hT : ∀ q ∈ T, q ∈ ps ∨ q.num = sent + 1) (hc : ∀ p ∈ ps, p ∈ T ↔ ¬ g p) : ∀ p ∈ ps, (g p → ∀ q ∈ T, q.num ≠ p.num) ∧ (¬ g p → p ∈ T ∧ ∀ q ∈ T, q.num = p.num → q = p) := fun p hp => by
  have hs := okN_srt hk
  have hle := okN_le hk p hp
  have key : ∀ q ∈ T, q.num = p.num → q = p := fun q hq e => by
    rcases hT q hq with h | h
    · exact srt_uniq hs hp h e
    · omega
  exact ⟨fun hg q hq e => (hc p hp).1 (key q hq e ▸ hq) hg, fun hg => ⟨(hc p hp).2 hg, key⟩⟩
theorem sendE_ne {fr to : Int} {len : Nat} : sendE fr to len ≠ 0 := by unfold sendE; repeat' split
                                                                       all_goals decide
theorem run_bad {K fr to N sent : Int} {st : Bool} {bs : List Int} {ps : List Pc} (he : (runF K fr to N st bs sent ps).e ≠ 0) : (runF K fr to N st bs sent ps).ps = [] ∧ (runF K fr to N st bs sent ps).s = 0 := by
  unfold runF at he ⊢
  repeat' split
  all_goals first | exact ⟨rfl, rfl⟩ | (exfalso; simp_all; done)
theorem run_pure {K fr to N sent : Int} {st : Bool} {bs : List Int} {ps : List Pc} (hk : okN sent ps = true) (he : (runF K fr to N st bs sent ps).e = 0) (h0 : 0 ≤ K) (h7 : K < 7) : (runF K fr to N st bs sent ps).ps.length ≤ ps.length + 1 ∧ ∀ p ∈ ps, (gP K fr N st p → ∀ q ∈ (runF K fr to N st bs sent ps).ps, q.num ≠ p.num) ∧ (¬ gP K fr N st p → p ∈ (runF K fr to N st bs sent ps).ps ∧ ∀ q ∈ (runF K fr to N st bs sent ps).ps, q.num = p.num → q = p) := by
  have hs := okN_srt hk
  by_cases k3 : K < 3
  · by_cases hS : okS fr to bs.length ps.length sent
    · have hf : (runF K fr to N st bs sent ps).ps = ps ++ [(⟨sent + 1, fr, to, bs⟩ : Pc)] := by unfold runF; rw [if_pos k3, if_pos hS]
      rw [hf]
      refine ⟨by simp, run_core hk (fun q hq => ?_) (fun p hp => ⟨fun _ hg => ?_, fun _ => List.mem_append_left _ hp⟩)⟩
      · rcases List.mem_append.1 hq with h | h
        · exact .inl h
        · rw [List.mem_singleton] at h; subst h; exact .inr rfl
      · unfold gP at hg; omega
    · have hf : (runF K fr to N st bs sent ps).e = sendE fr to bs.length := by unfold runF; rw [if_pos k3, if_neg hS]
      rw [hf] at he; exact absurd he sendE_ne
  by_cases k5 : K < 5
  · cases hF : fnd N ps with
    | true =>
      obtain ⟨x, hx, hn⟩ := fnd_t hF
      cases st with
      | true =>
        have hf : (runF K fr to N true bs sent ps).ps = ps := by unfold runF; rw [if_neg k3, if_pos k5, if_pos hF, if_pos rfl]
        rw [hf]
        refine ⟨by omega, run_core hk (fun q hq => .inl hq) (fun p hp => ⟨fun _ hg => ?_, fun _ => hp⟩)⟩
        unfold gP at hg; rcases hg with hg | hg
        · omega
        · exact hg.2.2.2 ⟨k5, rfl⟩
      | false =>
        have hf : (runF K fr to N false bs sent ps).ps = ps.eraseIdx (srch N ps) := by unfold runF; rw [if_neg k3, if_pos k5, if_pos hF, if_neg (by decide)]
        rw [hf]
        refine ⟨Nat.le_trans (List.length_eraseIdx_le _ _) (Nat.le_succ _), run_core hk (fun q hq => .inl ((er_mem hs hx).1 hq).1) (fun p hp => ⟨fun h hg => ?_, fun hg => (er_mem hs hx).2 ⟨hp, fun e => hg ?_⟩⟩)⟩
        · have := ((er_mem hs hx).1 h).2
          unfold gP at hg; rcases hg with hg | hg
          · omega
          · exact this (by rw [hn]; exact hg.2.2.1)
        · unfold gP; exact .inr ⟨by omega, by omega, by rw [e, hn], fun h => by cases h.2⟩
    | false =>
      have hf : (runF K fr to N st bs sent ps).e = 4 := by unfold runF; rw [if_neg k3, if_pos k5, if_neg (by rw [hF]; decide)]
      rw [hf] at he; cases he
  by_cases k6 : K < 6
  · cases hF : fnd N ps with
    | true =>
      obtain ⟨x, hx, hn⟩ := fnd_t hF
      have hf : (runF K fr to N st bs sent ps).ps = ps.eraseIdx (srch N ps) := by unfold runF; rw [if_neg k3, if_neg k5, if_pos k6, if_pos hF]
      rw [hf]
      refine ⟨Nat.le_trans (List.length_eraseIdx_le _ _) (Nat.le_succ _), run_core hk (fun q hq => .inl ((er_mem hs hx).1 hq).1) (fun p hp => ⟨fun h hg => ?_, fun hg => (er_mem hs hx).2 ⟨hp, fun e => hg ?_⟩⟩)⟩
      · have := ((er_mem hs hx).1 h).2
        unfold gP at hg; rcases hg with hg | hg
        · omega
        · exact this (by rw [hn]; exact hg.2.2.1)
      · unfold gP; exact .inr ⟨by omega, by omega, by rw [e, hn], fun h => by omega⟩
    | false =>
      have hf : (runF K fr to N st bs sent ps).e = 4 := by unfold runF; rw [if_neg k3, if_neg k5, if_pos k6, if_neg (by rw [hF]; decide)]
      rw [hf] at he; cases he
  by_cases hnd : 1 ≤ fr ∧ fr ≤ 7
  · have hf : (runF K fr to N st bs sent ps).ps = keepL fr ps := by unfold runF; rw [if_neg k3, if_neg k5, if_neg k6, if_pos hnd]
    rw [hf]
    have hm : ∀ q, q ∈ keepL fr ps ↔ q ∈ ps ∧ ¬ (q.fr = fr ∨ q.to = fr) := fun q => by unfold keepL; rw [List.mem_filter]; simp
    refine ⟨Nat.le_trans (keepL_len _ _) (Nat.le_succ _), run_core hk (fun q hq => .inl ((hm q).1 hq).1) (fun p hp => ⟨fun h hg => ?_, fun hg => (hm p).2 ⟨hp, fun e => hg (.inl ⟨by omega, e⟩)⟩⟩)⟩
    unfold gP at hg; rcases hg with hg | hg
    · exact ((hm p).1 h).2 hg.2
    · omega
  · have hf : (runF K fr to N st bs sent ps).e = 2 := by unfold runF; rw [if_neg k3, if_neg k5, if_neg k6, if_neg hnd]
    rw [hf] at he; cases he
end Go.Proofs.Ytaafippakgofiaa
