import Derived.Test.YtaafippakgofiaaNe4
import Derived.Test.YtaafippakgofiaaWzm
import Derived.Test.YtaafippakgofiaaNb1
import Derived.Test.YtaafippakgofiaaRows
namespace Go.Proofs.Ytaafippakgofiaa
open Go Go.RowKit Wx
set_option linter.unusedVariables false
set_option linter.unusedSimpArgs false
set_option maxHeartbeats 4000000
structure Ot where
  kd : Int
  fr : Int
  to : Int
  at0 : Int
  st : Bool
  ot : Bool
  bs : List Int
abbrev eOt (x : Ot) : List RT := [RT.v (.int .i64 x.kd), RT.v (.int .i64 x.fr), RT.v (.int .i64 x.to), RT.v (.int .i64 x.at0), RT.v (.bool x.st), RT.v (.bool x.ot), RT.ro 1 (x.bs.map eB)]
abbrev enB (b : Bool) : A0 := .one (.v (.bool b))
abbrev enO (x : Ot) : A0 := .agg [.v (.int .i64 x.kd), .v (.int .i64 x.fr), .v (.int .i64 x.to), .v (.int .i64 x.at0), .v (.bool x.st), .v (.bool x.ot), .ro false 1 (x.bs.map eB)]
theorem look_some {z : Value} {es : Y.MS} {L : List (Int × Ot)} {k : Int} {A : A0 → Bool → Prop} {v : Ot} (HM : Z.MapL .u64 enO es L) (hv : Z.lookK L k = some v) (h : A (enO v) true) : Z.lookN .u64 z es k A := by
  obtain ⟨_, h2⟩ := Z.pos_look (k := k) (i := 0) HM.ents
  obtain ⟨j, e, g1, g2, g3, g4, g5⟩ := h2 v hv
  exact ⟨_, _, by unfold Y.lookM; rw [g1], g4 ▸ h⟩
theorem look_is {z : Value} {es : Y.MS} {L : List (Int × Bool)} {k : Int} {A : A0 → Bool → Prop} {b : Bool} (HM : Z.MapL .u64 enB es L) (hv : (Z.lookK L k).getD false = b) (hz : Y.zeroA z = enB false) (h : ∀ ok, A (enB b) ok) : Z.lookN .u64 z es k A := by
  refine Z.MapL.look HM (z0 := false) hz ?_
  rw [hv]; exact h _
def goodP (sent : Int) (p : Pc) : Prop := p.num ≤ sent ∧ (1 ≤ p.fr ∧ p.fr ≤ 7) ∧ (1 ≤ p.to ∧ p.to ≤ 7) ∧ p.fr ≠ p.to ∧ p.bs.length ≤ 30000
theorem okL_all {sent : Int} : ∀ {ps : List Pc} {last : Int}, okL sent last ps = true ↔ ps.Pairwise (fun a b => a.num < b.num) ∧ ∀ p ∈ ps, last < p.num ∧ goodP sent p
  | [], last => by simp [okL]
  | q :: ps, last => by
    simp only [okL, okP, Bool.and_eq_true, decide_eq_true_eq, okL_all (ps := ps), List.pairwise_cons, List.mem_cons, goodP]
    constructor
    · rintro ⟨h1, h2, h3⟩
      refine ⟨⟨fun b hb => (h3 b hb).1, h2⟩, ?_⟩
      rintro b (rfl | hb)
      · exact h1
      · have := h3 b hb; exact ⟨by omega, this.2⟩
    · rintro ⟨⟨h1, h2⟩, h3⟩
      exact ⟨h3 q (.inl rfl), h2, fun b hb => ⟨h1 b hb, (h3 b (.inr hb)).2⟩⟩
theorem okN_all {sent : Int} {ps : List Pc} : okN sent ps = true ↔ (sent ≤ 4611686018427387904 ∧ ps.length ≤ 60) ∧ ps.Pairwise (fun a b => a.num < b.num) ∧ ∀ p ∈ ps, 0 < p.num ∧ goodP sent p := by
  unfold okN; simp only [Bool.and_eq_true, decide_eq_true_eq, okL_all]
theorem okN_sub {sent : Int} {ps qs : List Pc} (h : okN sent ps = true) (hs : qs.Sublist ps) : okN sent qs = true := by
  obtain ⟨h1, h2, h3⟩ := okN_all.1 h
  exact okN_all.2 ⟨⟨h1.1, Nat.le_trans hs.length_le h1.2⟩, h2.sublist hs, fun p hp => h3 p (hs.subset hp)⟩
theorem okN_snoc {sent fr to : Int} {bs : List Int} {ps : List Pc} (h : okN sent ps = true) (h0 : 0 ≤ sent) (hS : okS fr to bs.length ps.length sent) : okN (sent + 1) (ps ++ [⟨sent + 1, fr, to, bs⟩]) = true := by
  obtain ⟨h1, h2, h3⟩ := okN_all.1 h
  unfold okS at hS
  refine okN_all.2 ⟨⟨by omega, by rw [List.length_append]; simp; omega⟩, List.pairwise_append.2 ⟨h2, by simp, fun a ha b hb => ?_⟩, fun p hp => ?_⟩
  · simp at hb; subst hb
    have := (h3 a ha).2.1; show a.num < sent + 1; omega
  · rcases List.mem_append.1 hp with hp | hp
    · obtain ⟨g1, g2, g3⟩ := h3 p hp
      exact ⟨g1, by omega, g3⟩
    · simp at hp; subst hp
      exact ⟨by show 0 < sent + 1; omega, by show sent + 1 ≤ sent + 1; omega, hS.1, hS.2.1, hS.2.2.1, hS.2.2.2.1⟩
structure NI (sent : Int) (ps : List Pc) (LS : List (Int × Ot)) (LO : List (Int × Bool)) : Prop where
  ok : okN sent ps = true
  s0 : 0 ≤ sent
  len : (LS.length : Int) = sent
  key : ∀ y, (Z.lookK LS y).isSome = true ↔ 1 ≤ y ∧ y ≤ sent
  par : ∀ p ∈ ps, ∃ o, Z.lookK LS p.num = some o ∧ o.fr = p.fr ∧ o.to = p.to ∧ shB o.bs = p.bs
  ovk : ∀ y, (Z.lookK LO y).getD false = true → 1 ≤ y ∧ y ≤ sent
  ov : ∀ y, 1 ≤ y → y ≤ sent → ((Z.lookK LO y).getD false = true ↔ ∀ p ∈ ps, p.num ≠ y)
  bsl : ∀ y v, Z.lookK LS y = some v → v.bs.length ≤ 9223372036854775807
theorem NI.zero : NI 0 [] [] [] := ⟨by decide, by decide, rfl, fun y => by simp [Z.lookK]; omega, fun p hp => absurd hp (by simp), fun y hy => by simp [Z.lookK] at hy, fun y h1 h2 => by omega, fun y v hv => by simp [Z.lookK] at hv⟩
theorem NI.rng {sent : Int} {ps : List Pc} {LS : List (Int × Ot)} {LO : List (Int × Bool)} (h : NI sent ps LS LO) {p : Pc} (hp : p ∈ ps) : 1 ≤ p.num ∧ p.num ≤ sent := by
  obtain ⟨_, _, h3⟩ := okN_all.1 h.ok
  have := h3 p hp
  exact ⟨by omega, this.2.1⟩
theorem NI.not {sent : Int} {ps : List Pc} {LS : List (Int × Ot)} {LO : List (Int × Bool)} (h : NI sent ps LS LO) {p : Pc} (hp : p ∈ ps) : (Z.lookK LO p.num).getD false = false := by
  obtain ⟨h1, h2⟩ := h.rng hp
  exact Bool.eq_false_iff.2 fun hd => (h.ov _ h1 h2).1 hd p hp rfl
theorem NI.uniq {sent : Int} {ps : List Pc} {LS : List (Int × Ot)} {LO : List (Int × Bool)} (h : NI sent ps LS LO) {p q : Pc} (hp : p ∈ ps) (hq : q ∈ ps) (e : q.num = p.num) : q = p := srt_uniq (okN_srt h.ok) hp hq e
theorem NI.send {sent fr to kd at0 : Int} {st ot : Bool} {bs : List Int} {ps : List Pc} {LS : List (Int × Ot)} {LO : List (Int × Bool)} (h : NI sent ps LS LO) (hS : okS fr to (shB bs).length ps.length sent) (hob : bs.length ≤ 9223372036854775807) : NI (sent + 1) (ps ++ [⟨sent + 1, fr, to, shB bs⟩]) (Z.putK LS (sent + 1) ⟨kd, fr, to, at0, st, ot, bs⟩) LO := by
  have hno : Z.lookK LS (sent + 1) = none := by
    cases hl : Z.lookK LS (sent + 1) with
    | none => rfl
    | some v => have := (h.key (sent + 1)).1 (by rw [hl]; rfl); omega
  refine ⟨okN_snoc h.ok h.s0 hS, by have := h.s0; omega, ?_, fun y => ?_, fun p hp => ?_, fun y hy => ?_, fun y h1 h2 => ?_, fun y v hv => ?_⟩
  · rw [Z.put_new hno, List.length_append]; have := h.len; simp; omega
  · rw [Z.look_put]
    by_cases e : sent + 1 = y
    · rw [if_pos e]; have := h.s0; simp; omega
    · rw [if_neg e, h.key]; omega
  · rw [Z.look_put]
    rcases List.mem_append.1 hp with hp | hp
    · have := h.rng hp
      rw [if_neg (by omega)]; exact h.par p hp
    · simp at hp; subst hp
      rw [if_pos rfl]; exact ⟨_, rfl, rfl, rfl, rfl⟩
  · have := h.ovk y hy; omega
  · by_cases e : y = sent + 1
    · subst e
      constructor
      · intro hd; have := h.ovk _ hd; omega
      · intro hn; exact absurd rfl (hn ⟨sent + 1, fr, to, shB bs⟩ (by simp))
    · rw [h.ov y h1 (by omega)]
      constructor
      · intro hn p hp
        rcases List.mem_append.1 hp with hp | hp
        · exact hn p hp
        · simp at hp; subst hp; exact fun e2 => e e2.symm
      · intro hn p hp; exact hn p (List.mem_append_left _ hp)
  · rw [Z.look_put] at hv
    split at hv
    · cases hv; exact hob
    · exact h.bsl y v hv
theorem NI.drop {sent N : Int} {ps : List Pc} {LS : List (Int × Ot)} {LO : List (Int × Bool)} {x : Pc} (h : NI sent ps LS LO) (hx : ps[srch N ps]? = some x) (hn : x.num = N) : NI sent (ps.eraseIdx (srch N ps)) LS (Z.putK LO N true) := by
  have hm := fun q => er_mem (q := q) (okN_srt h.ok) hx
  have hxm := List.mem_of_getElem? hx
  have hr := h.rng hxm
  refine ⟨okN_sub h.ok (List.eraseIdx_sublist _ _), h.s0, h.len, h.key, fun p hp => h.par p ((hm p).1 hp).1, fun y hy => ?_, fun y h1 h2 => ?_, h.bsl⟩
  · rw [Z.look_put] at hy
    by_cases e : N = y
    · omega
    · rw [if_neg e] at hy; exact h.ovk y hy
  · rw [Z.look_put]
    by_cases e : N = y
    · rw [if_pos e]
      simp only [Option.getD_some, true_iff]
      intro p hp; have := ((hm p).1 hp).2; omega
    · rw [if_neg e, h.ov y h1 h2]
      constructor
      · intro hn2 p hp; exact hn2 p ((hm p).1 hp).1
      · intro hn2 p hp e2; exact hn2 p ((hm p).2 ⟨hp, by omega⟩) e2
theorem NI.stay {sent N : Int} {ps : List Pc} {LS : List (Int × Ot)} {LO : List (Int × Bool)} {x : Pc} (h : NI sent ps LS LO) (hx : ps[srch N ps]? = some x) (hn : x.num = N) : NI sent ps LS (Z.putK LO N false) := by
  have hxm := List.mem_of_getElem? hx
  have hd := h.not hxm
  rw [hn] at hd
  have hl : ∀ y, (Z.lookK (Z.putK LO N false) y).getD false = (Z.lookK LO y).getD false := fun y => by
    rw [Z.look_put]
    by_cases e : N = y
    · subst e; rw [if_pos rfl, hd]; rfl
    · rw [if_neg e]
  exact ⟨h.ok, h.s0, h.len, h.key, h.par, fun y hy => h.ovk y (by rw [← hl]; exact hy), fun y h1 h2 => by rw [hl]; exact h.ov y h1 h2, h.bsl⟩
def touch (fr : Int) (o : Ot) : Bool := decide (o.fr = fr) || decide (o.to = fr)
def touchK (fr : Int) (LS : List (Int × Ot)) (y : Int) : Bool := (Z.lookK LS y).any (touch fr)
theorem NI.cut {sent fr : Int} {ps : List Pc} {LS : List (Int × Ot)} {LO LO' : List (Int × Bool)} (h : NI sent ps LS LO) (hO : ∀ y, (Z.lookK LO' y).getD false = ((Z.lookK LO y).getD false || touchK fr LS y)) : NI sent (keepL fr ps) LS LO' := by
  have hm : ∀ q, q ∈ keepL fr ps ↔ q ∈ ps ∧ ¬ (q.fr = fr ∨ q.to = fr) := fun q => by unfold keepL; rw [List.mem_filter]; simp
  have ht : ∀ p ∈ ps, (touchK fr LS p.num = true ↔ (p.fr = fr ∨ p.to = fr)) := fun p hp => by
    obtain ⟨o, h1, h2, h3, _⟩ := h.par p hp
    unfold touchK touch; rw [h1]; simp [h2, h3]
  refine ⟨okN_sub h.ok List.filter_sublist, h.s0, h.len, h.key, fun p hp => h.par p ((hm p).1 hp).1, fun y hy => ?_, fun y h1 h2 => ?_, h.bsl⟩
  · rw [hO] at hy
    cases hd : (Z.lookK LO y).getD false with
    | true => exact h.ovk y hd
    | false =>
      rw [hd, Bool.false_or] at hy
      refine (h.key y).1 ?_
      unfold touchK at hy
      cases hl : Z.lookK LS y with
      | none => rw [hl] at hy; cases hy
      | some v => rfl
  · rw [hO, Bool.or_eq_true, h.ov y h1 h2]
    constructor
    · rintro (hn | hn) p hp e
      · exact hn p ((hm p).1 hp).1 e
      · subst e; exact ((hm p).1 hp).2 ((ht p ((hm p).1 hp).1).1 hn)
    · intro hn
      by_cases he : ∃ p ∈ ps, p.num = y
      · obtain ⟨p, hp, rfl⟩ := he
        right
        refine (ht p hp).2 (Classical.byContradiction fun hg => ?_)
        exact hn p ((hm p).2 ⟨hp, hg⟩) rfl
      · left; exact fun p hp e => he ⟨p, hp, e⟩
def leftN (LO : List (Int × Bool)) (r : List (Int × Ot)) : Nat := (r.filter fun z => !(Z.lookK LO z.1).getD false).length
theorem NI.left {sent : Int} {ps : List Pc} {LS : List (Int × Ot)} {LO : List (Int × Bool)} (h : NI sent ps LS LO) (hn : (LS.map (·.1)).Nodup) : leftN LO LS = ps.length := by
  have h1 : leftN LO LS = ((LS.map (·.1)).filter fun y => !(Z.lookK LO y).getD false).length := by
    unfold leftN; rw [List.filter_map, List.length_map]; rfl
  rw [h1, ← List.length_map (f := fun p : Pc => p.num)]
  refine List.Perm.length_eq ((List.perm_ext_iff_of_nodup (hn.sublist List.filter_sublist) ?_).2 fun y => ?_)
  · obtain ⟨_, h2, _⟩ := okN_all.1 h.ok
    rw [List.nodup_iff_pairwise_ne, List.pairwise_map]
    exact h2.imp fun hlt => by omega
  · rw [List.mem_filter]
    simp only [Bool.not_eq_true', List.mem_map]
    have hk : y ∈ LS.map (·.1) ↔ 1 ≤ y ∧ y ≤ sent := by
      rw [← h.key]
      cases hl : Z.lookK LS y with
      | none => simp [Z.look_none.1 hl]
      | some v =>
        simp only [Option.isSome_some, iff_true]
        exact Classical.byContradiction fun hc => by rw [Z.look_none.2 hc] at hl; cases hl
    constructor
    · rintro ⟨g1, g2⟩
      have g3 := hk.1 (by simpa using g1)
      have g4 := h.ov y g3.1 g3.2
      rw [g2] at g4
      refine Classical.byContradiction fun hc => ?_
      have := g4.2 fun p hp e => hc ⟨p, hp, e⟩
      cases this
    · rintro ⟨p, hp, rfl⟩
      exact ⟨by simpa using hk.2 (h.rng hp), h.not hp⟩
theorem left_step {LO : List (Int × Bool)} {r s : List (Int × Ot)} {z : Int × Ot} (h : r.Perm (z :: s)) : leftN LO r = leftN LO s + if (Z.lookK LO z.1).getD false = true then 0 else 1 := by
  unfold leftN
  rw [(h.filter _).length_eq, List.filter_cons]
  cases (Z.lookK LO z.1).getD false <;> simp
theorem cut_step {fr : Int} {LS r s : List (Int × Ot)} {LO L : List (Int × Bool)} {z : Int × Ot} {b : Bool} (hn : (LS.map (·.1)).Nodup) (hz : z ∈ LS) (h : r.Perm (z :: s)) (hrn : (r.map (·.1)).Nodup) (hL : ∀ y, (Z.lookK L y).getD false = if y ∈ r.map (·.1) then (Z.lookK LO y).getD false else ((Z.lookK LO y).getD false || touchK fr LS y)) (hb : b = ((Z.lookK LO z.1).getD false || touch fr z.2)) :
    ∀ y, (Z.lookK (Z.putK L z.1 b) y).getD false = if y ∈ s.map (·.1) then (Z.lookK LO y).getD false else ((Z.lookK LO y).getD false || touchK fr LS y) := fun y => by
  have hm : ∀ y, y ∈ r.map (·.1) ↔ y = z.1 ∨ y ∈ s.map (·.1) := fun y => by
    rw [(h.map (·.1)).mem_iff, List.map_cons, List.mem_cons]
  have hnz : z.1 ∉ s.map (·.1) := by
    have := (h.map (·.1)).nodup_iff.1 hrn
    rw [List.map_cons, List.nodup_cons] at this; exact this.1
  rw [Z.look_put]
  by_cases e : z.1 = y
  · subst e
    rw [if_pos rfl, if_neg hnz, hb]
    have := (Z.look_mem hn).2 (show (z.1, z.2) ∈ LS from hz)
    unfold touchK; rw [this]; rfl
  · rw [if_neg e, hL]
    by_cases hy : y ∈ s.map (·.1)
    · rw [if_pos hy, if_pos ((hm y).2 (.inr hy))]
    · rw [if_neg hy, if_neg fun hc => ((hm y).1 hc).elim (fun h9 => e h9.symm) hy]
theorem cut_same {fr : Int} {LS r : List (Int × Ot)} {LO L : List (Int × Bool)} {z : Int × Ot} (hz : z ∈ r) (hL : ∀ y, (Z.lookK L y).getD false = if y ∈ r.map (·.1) then (Z.lookK LO y).getD false else ((Z.lookK LO y).getD false || touchK fr LS y)) : (Z.lookK L z.1).getD false = (Z.lookK LO z.1).getD false := by
  rw [hL, if_pos (List.mem_map_of_mem hz)]
theorem NI.come {sent N : Int} {st : Bool} {ps : List Pc} {LS : List (Int × Ot)} {LO : List (Int × Bool)} {x : Pc} (h : NI sent ps LS LO) (hx : ps[srch N ps]? = some x) (hn : x.num = N) : NI sent (if st = true then ps else ps.eraseIdx (srch N ps)) LS (Z.putK LO N (!st)) := by
  cases st with
  | true => exact h.stay hx hn
  | false => exact h.drop hx hn
theorem cut_init {fr : Int} {LS : List (Int × Ot)} {LO : List (Int × Bool)} : ∀ y, (Z.lookK LO y).getD false = if y ∈ LS.map (·.1) then (Z.lookK LO y).getD false else ((Z.lookK LO y).getD false || touchK fr LS y) := fun y => by
  by_cases hy : y ∈ LS.map (·.1)
  · rw [if_pos hy]
  · rw [if_neg hy]; unfold touchK; rw [Z.look_none.2 hy]; simp
theorem run_cases {K fr to N sent : Int} {st : Bool} {bs : List Int} {ps : List Pc} (he : (runF K fr to N st bs sent ps).e = 0) (h0 : 0 ≤ K) (h7 : K < 7) :
    (K < 3 ∧ okS fr to bs.length ps.length sent ∧ runF K fr to N st bs sent ps = ⟨sent + 1, ps ++ [(⟨sent + 1, fr, to, bs⟩ : Pc)], sent + 1, (⟨0, 0, 0, []⟩ : Pc), 0, 0⟩) ∨
    ((K = 3 ∨ K = 4) ∧ ∃ x, ps[srch N ps]? = some x ∧ x.num = N ∧ runF K fr to N st bs sent ps = ⟨sent, (if st = true then ps else ps.eraseIdx (srch N ps)), 0, x, 0, 0⟩) ∨
    (K = 5 ∧ ∃ x, ps[srch N ps]? = some x ∧ x.num = N ∧ runF K fr to N st bs sent ps = ⟨sent, ps.eraseIdx (srch N ps), 0, (⟨0, 0, 0, []⟩ : Pc), 0, 0⟩) ∨
    (K = 6 ∧ runF K fr to N st bs sent ps = ⟨sent, keepL fr ps, 0, (⟨0, 0, 0, []⟩ : Pc), (ps.length : Int) - (keepL fr ps).length, 0⟩) := by
  by_cases k3 : K < 3
  · by_cases hS : okS fr to bs.length ps.length sent
    · exact .inl ⟨k3, hS, by unfold runF; rw [if_pos k3, if_pos hS]⟩
    · have hf : (runF K fr to N st bs sent ps).e = sendE fr to bs.length := by unfold runF; rw [if_pos k3, if_neg hS]
      rw [hf] at he; exact absurd he sendE_ne
  · by_cases k5 : K < 5
    · cases hF : fnd N ps with
      | true =>
        obtain ⟨x, hx, hn⟩ := fnd_t hF
        exact .inr (.inl ⟨by omega, x, hx, hn, by unfold runF; rw [if_neg k3, if_pos k5, if_pos hF, prc_eq hx]⟩)
      | false =>
        have hf : (runF K fr to N st bs sent ps).e = 4 := by unfold runF; rw [if_neg k3, if_pos k5, if_neg (by rw [hF]; decide)]
        rw [hf] at he; cases he
    · by_cases k6 : K < 6
      · cases hF : fnd N ps with
        | true =>
          obtain ⟨x, hx, hn⟩ := fnd_t hF
          exact .inr (.inr (.inl ⟨by omega, x, hx, hn, by unfold runF; rw [if_neg k3, if_neg k5, if_pos k6, if_pos hF]⟩))
        | false =>
          have hf : (runF K fr to N st bs sent ps).e = 4 := by unfold runF; rw [if_neg k3, if_neg k5, if_pos k6, if_neg (by rw [hF]; decide)]
          rw [hf] at he; cases he
      · by_cases hnd : 1 ≤ fr ∧ fr ≤ 7
        · exact .inr (.inr (.inr ⟨by omega, by unfold runF; rw [if_neg k3, if_neg k5, if_neg k6, if_pos hnd]⟩))
        · have hf : (runF K fr to N st bs sent ps).e = 2 := by unfold runF; rw [if_neg k3, if_neg k5, if_neg k6, if_neg hnd]
          rw [hf] at he; cases he
theorem okN_60 {sent : Int} {ps : List Pc} (h : okN sent ps = true) : ps.length ≤ 60 ∧ sent ≤ 4611686018427387904 ∧ ∀ p ∈ ps, p.bs.length ≤ 30001 := by
  obtain ⟨h1, h2, h3⟩ := okN_all.1 h
  exact ⟨h1.2, h1.1, fun p hp => by have := (h3 p hp).2.2.2.2.2; omega⟩
theorem bq_con (a : List Int) (hl : a.length ≤ 9223372036854775807) : Con Try.prog 20 [.one (.ro false 1 (a.map eB)), .one (.ro false 1 (a.map eB))] (fun rx rK rt => rx = .val (.bool true) ∧ rK = [] ∧ rt = 0) := by
  refine Z.con_ofF tabOk 10 Try.f20 _ Try.func20 (by kernel_rfl) rfl rfl rfl rfl ?_
  repeat' ((conv => whnf); first
    | ((with_reducible refine strN_src ?_ ?_ ?_); (focus (exact fun _ => rfl)); (focus ((try simp only [LN] at *) <;> omega)))
    | ((with_reducible apply ex_and); exact rfl))
  all_goals (try (conv => whnf))
  all_goals try (show Nat.ble _ _ = true; rfl)
  all_goals first
    | ((first | (with_reducible apply Z.retF1) | (with_reducible apply Z.retF2) | (with_reducible apply Z.retF0)); (focus (exact rfl)); (repeat' (first | exact trivial | (with_reducible apply Z.frz_one) | (with_reducible apply Z.frz_agg) | (with_reducible apply Z.fq_int) | (with_reducible apply Z.fq_bool) | (exact Z.frz_nil) | (exact Z.frz_osl0 rfl rfl rfl) | (with_reducible apply Z.fq_nil) | (with_reducible apply Z.fq_ro) | ((with_reducible apply Z.fq_gsl); (focus (first | rfl | exact Z.isB_map _ | exact Z.gB_snoc.symm)); (focus (exact fun _ => rfl))) | ((with_reducible apply Z.fq_osl); (focus (exact rfl)); (focus (first | exact rfl | (simp only [List.length_map, Nat.zero_add]; done) | ((try simp only [LN] at *) <;> omega))); (focus (exact fun _ => rfl))) | ((with_reducible apply Z.fq_src); (focus (exact rfl)); (focus (first | exact rfl | (simp only [List.length_map, Nat.zero_add]; done) | ((try simp only [LN] at *) <;> omega))); (focus (exact fun _ => rfl))) | exact rfl | ((apply Z.fq_osl); (focus (exact rfl)); (focus (first | exact rfl | (simp only [List.length_map, Nat.zero_add]; done) | ((try simp only [LN] at *) <;> omega))); (focus (exact fun _ => rfl))) | ((apply Z.fq_src); (focus (exact rfl)); (focus (first | exact rfl | (simp only [List.length_map, Nat.zero_add]; done) | ((try simp only [LN] at *) <;> omega))); (focus (exact fun _ => rfl))) | (apply Z.fq_ro) | (apply Z.fq_int) | (apply Z.fq_bool) | apply And.intro)); (all_goals (try exact (fun _ => none))); all_goals (first | rfl | (simp; done)))
    | (exfalso; rename_i hz; cases hz; done)
    | (exfalso; (try simp only [LN] at *) <;> omega)
    | (fail)

end Go.Proofs.Ytaafippakgofiaa
namespace Go.Proofs.Ytaafippakgofiaa
open Go Go.RowKit Wx
set_option linter.unusedVariables false
set_option linter.unusedSimpArgs false
set_option maxHeartbeats 4000000
theorem netsends_con (ops : List Ot) (hlo : ops.length ≤ 9223372036854775807) (hbs : ∀ o ∈ ops, o.bs.length ≤ 9223372036854775807) : Con Try.prog 4 [.one (.ro false 7 (ops.map eOt))] (fun rx rK rt => rx = .val (.bool true) ∧ rK = [] ∧ rt = 0) := by
  refine Z.con_ofF tabOk 168 Try.f4 _ Try.func4 (by kernel_rfl) rfl rfl rfl rfl ?_
  repeat' ((conv => whnf); first
    | ((with_reducible apply spB_cong); (focus (simp only [beq_self_eq_true, bne_self_eq_false, Bool.true_bne, Bool.false_bne, Bool.bne_true, Bool.bne_false, Bool.true_beq, Bool.false_beq, Bool.not_true, Bool.not_false, Bool.not_not, Int.reduceBEq, Int.reduceBNe, Int.reduceLE, Int.reduceLT, Int.reduceEq, decide_true, decide_false]; rfl)))
    | with_reducible first | refine spB_yes (by decide) ?_ | refine spB_no (by decide) ?_ | refine spB_f ?_ | refine spB_not ?_ | refine spB_yes (by assumption) ?_ | refine spB_no (by assumption) ?_
    | ((first | (with_reducible refine Z.conZ_mz ?_ (wakes_con) ?_) | (with_reducible refine Z.callZ_mk ?_ (wakes_con) ?_)); (focus ((repeat' (first | exact trivial | exact rfl | exact Z.low_nil | exact Z.low_nil2 | exact low_osl (fun _ => rfl) | (refine Z.low_osln ?_ (fun _ => rfl); (simp only [List.length_map]; done)) | exact low_oslr (fun _ => rfl) | exact Z.low_gslm (by first | rfl | exact Z.kb_some rfl) (fun _ => rfl) | exact .inl rfl | exact .inr ⟨_, rfl⟩ | apply And.intro)); done)))
    | (focus (exact (rfl : Nat.ble _ _ = true))))
  all_goals (try (conv => whnf))
  all_goals try (show Nat.ble _ _ = true; rfl)
  all_goals try (exfalso; rename_i hz; cases hz; done)
  all_goals try (exfalso; (try simp only [LN] at *) <;> omega)
  refine Z.loopK tabOk (fun zq : Nat × Int × List Pc × Y.MS × Y.MS => [(22, .val (.int .i64 (zq.1 : Int)))]) (fun zq : Nat × Int × List Pc × Y.MS × Y.MS => ([(0, some (Z.Ob.b ⟨[[.v (.int .u64 zq.2.1), .ro true 4 (zq.2.2.1.map eP)]], 2, 28, true⟩)), (1, some (Z.Ob.m zq.2.2.2.1)), (2, some (Z.Ob.m zq.2.2.2.2))] : Z.Kr)) (fun zq => zq.1 ≤ ops.length ∧ zq.1 ≤ 60 ∧ ∃ LS LO, Z.MapL .u64 enO zq.2.2.2.1 LS ∧ Z.MapL .u64 enB zq.2.2.2.2 LO ∧ NI zq.2.1 zq.2.2.1 LS LO) (fun zq => ops.length - zq.1) (0, 0, [], ⟨[], 0⟩, ⟨[], 0⟩) 3 [(3, _), (4, _), (5, _), (20, _), (21, _)] ⟨rfl, rfl, rfl, rfl, rfl, trivial⟩ [] trivial ?_ ?_ rfl rfl ⟨Nat.zero_le _, by decide, [], [], Z.MapL.nil, Z.MapL.nil, NI.zero⟩ ?_
  · repeat' (first | exact trivial | apply And.intro | exact ⟨_, rfl, rfl⟩ | exact ⟨_, rfl, Z.Imp.refl _⟩ | exact ⟨_, rfl, Z.Imp.nilg _⟩ | exact ⟨_, rfl, Z.Imp.nilr _ _⟩)
  · repeat' (first | exact trivial | (intro b hb; cases hb; done) | exact (fun b hb => ⟨b, hb, Z.ImpO.refl b⟩) | (intro b hb; cases hb; refine ⟨_, rfl, ⟨rfl, rfl, rfl⟩, ?_⟩; (repeat' (first | exact trivial | apply And.intro | exact Z.Imp.refl _ | exact Z.Imp.nilg _ | exact Z.Imp.nilr _ _)); done) | apply And.intro)
  rintro ⟨i, sent, ps, esS, esO⟩ HINV
  dsimp only at HINV ⊢
  obtain ⟨H1, H2, LS, LO, HMS, HMO, HN⟩ := HINV
  by_cases hil : i < ops.length
  rotate_left
  · skip
    repeat' ((conv => whnf); first
      | (with_reducible refine spB_dec ?_ ?_ <;> intro _ <;> (try (exfalso; first | contradiction | omega | (rename_i hz; refine hz ?_; simp; done) | (simp only [LN] at *; omega))))
      | (focus (exact (rfl : Nat.ble _ _ = true))))
    all_goals (try (conv => whnf))
    all_goals try (show Nat.ble _ _ = true; rfl)
    all_goals first
      | ((first | (with_reducible apply Z.retF1) | (with_reducible apply Z.retF2) | (with_reducible apply Z.retF0)); (focus (exact rfl)); (repeat' (first | exact trivial | (with_reducible apply Z.frz_one) | (with_reducible apply Z.frz_agg) | (with_reducible apply Z.fq_int) | (with_reducible apply Z.fq_bool) | (exact Z.frz_nil) | (exact Z.frz_osl0 rfl rfl rfl) | (with_reducible apply Z.fq_nil) | (with_reducible apply Z.fq_ro) | ((with_reducible apply Z.fq_gsl); (focus (first | rfl | exact Z.isB_map _ | exact Z.gB_snoc.symm)); (focus (exact fun _ => rfl))) | ((with_reducible apply Z.fq_osl); (focus (exact rfl)); (focus (first | exact rfl | (simp only [List.length_map, Nat.zero_add]; done) | ((try simp only [LN] at *) <;> omega))); (focus (exact fun _ => rfl))) | ((with_reducible apply Z.fq_src); (focus (exact rfl)); (focus (first | exact rfl | (simp only [List.length_map, Nat.zero_add]; done) | ((try simp only [LN] at *) <;> omega))); (focus (exact fun _ => rfl))) | exact rfl | ((apply Z.fq_osl); (focus (exact rfl)); (focus (first | exact rfl | (simp only [List.length_map, Nat.zero_add]; done) | ((try simp only [LN] at *) <;> omega))); (focus (exact fun _ => rfl))) | ((apply Z.fq_src); (focus (exact rfl)); (focus (first | exact rfl | (simp only [List.length_map, Nat.zero_add]; done) | ((try simp only [LN] at *) <;> omega))); (focus (exact fun _ => rfl))) | (apply Z.fq_ro) | (apply Z.fq_int) | (apply Z.fq_bool) | apply And.intro)); (all_goals (try exact (fun _ => none))); all_goals (rfl))
      | (exfalso; rename_i hz; cases hz; done)
      | (exfalso; (try simp only [LN] at *) <;> omega)
      | (fail)
  by_cases h80 : i = 60
  · skip
    repeat' ((conv => whnf); first
      | (with_reducible refine spB_dec ?_ ?_ <;> intro _ <;> (try (exfalso; first | contradiction | omega | (rename_i hz; refine hz ?_; simp; done) | (simp only [LN] at *; omega))))
      | (with_reducible refine spB_beq ?_ ?_ <;> intro _ <;> (try (exfalso; first | contradiction | omega | (rename_i hz; refine hz ?_; simp; done) | (simp only [LN] at *; omega))))
      | ((with_reducible apply ixN_litp); (focus (exact rfl)); (focus ((try simp only [LN] at *) <;> omega)))
      | ((with_reducible refine rowN_map ?_ ?_); (focus ((try simp only [LN] at *) <;> omega)); intro x hx)
      | (focus (exact (rfl : Nat.ble _ _ = true))))
    all_goals (try (conv => whnf))
    all_goals try (show Nat.ble _ _ = true; rfl)
    all_goals first
      | ((first | (with_reducible apply Z.retF1) | (with_reducible apply Z.retF2) | (with_reducible apply Z.retF0)); (focus (exact rfl)); (repeat' (first | exact trivial | (with_reducible apply Z.frz_one) | (with_reducible apply Z.frz_agg) | (with_reducible apply Z.fq_int) | (with_reducible apply Z.fq_bool) | (exact Z.frz_nil) | (exact Z.frz_osl0 rfl rfl rfl) | (with_reducible apply Z.fq_nil) | (with_reducible apply Z.fq_ro) | ((with_reducible apply Z.fq_gsl); (focus (first | rfl | exact Z.isB_map _ | exact Z.gB_snoc.symm)); (focus (exact fun _ => rfl))) | ((with_reducible apply Z.fq_osl); (focus (exact rfl)); (focus (first | exact rfl | (simp only [List.length_map, Nat.zero_add]; done) | ((try simp only [LN] at *) <;> omega))); (focus (exact fun _ => rfl))) | ((with_reducible apply Z.fq_src); (focus (exact rfl)); (focus (first | exact rfl | (simp only [List.length_map, Nat.zero_add]; done) | ((try simp only [LN] at *) <;> omega))); (focus (exact fun _ => rfl))) | exact rfl | ((apply Z.fq_osl); (focus (exact rfl)); (focus (first | exact rfl | (simp only [List.length_map, Nat.zero_add]; done) | ((try simp only [LN] at *) <;> omega))); (focus (exact fun _ => rfl))) | ((apply Z.fq_src); (focus (exact rfl)); (focus (first | exact rfl | (simp only [List.length_map, Nat.zero_add]; done) | ((try simp only [LN] at *) <;> omega))); (focus (exact fun _ => rfl))) | (apply Z.fq_ro) | (apply Z.fq_int) | (apply Z.fq_bool) | apply And.intro)); (all_goals (try exact (fun _ => none))); all_goals (rfl))
      | (exfalso; rename_i hz; cases hz; done)
      | (exfalso; (try simp only [LN] at *) <;> omega)
      | (fail)
  obtain ⟨o, ho⟩ := getElem?_some' (xs := ops) (i := i) hil
  have hob := hbs o (List.mem_of_getElem? ho)
  obtain ⟨hl60, hs62, hb⟩ := okN_60 HN.ok
  have hs0 := HN.s0
  have hLS := HN.len
  have c0 := num_con o.kd o.fr o.to o.at0 o.st o.ot o.bs sent ps (by omega)
  have c1 := run_con o.kd o.fr o.to o.at0 o.st o.ot o.bs sent ps (by omega) hb hob HN.ok HN.s0
  have h7 := Int.emod_lt_of_pos (IntKind.u64.wrap o.kd) (show (0 : Int) < 7 by decide)
  have h0 := Int.emod_nonneg (IntKind.u64.wrap o.kd) (show (7 : Int) ≠ 0 by decide)
  generalize hK : IntKind.u64.wrap o.kd % 7 = K at *
  generalize numF o.at0 o.ot ps = N at *
  by_cases he : (runF K o.fr o.to N o.st (shB o.bs) sent ps).e = 0
  rotate_left
  · generalize runF K o.fr o.to N o.st (shB o.bs) sent ps = T at *
    repeat' ((conv => whnf); first
      | (with_reducible refine spB_dec ?_ ?_ <;> intro _ <;> (try (exfalso; first | contradiction | omega | (rename_i hz; refine hz ?_; simp; done) | (simp only [LN] at *; omega))))
      | (with_reducible refine spB_beq ?_ ?_ <;> intro _ <;> (try (exfalso; first | contradiction | omega | (rename_i hz; refine hz ?_; simp; done) | (simp only [LN] at *; omega))))
      | (with_reducible refine spB_bne ?_ ?_ <;> intro _ <;> (try (exfalso; first | contradiction | omega | (rename_i hz; refine hz ?_; simp; done) | (simp only [LN] at *; omega))))
      | with_reducible first | refine Z.rowN_known ho ?_
      | ((with_reducible apply ixN_litp); (focus (exact rfl)); (focus ((try simp only [LN] at *) <;> omega)))
      | with_reducible refine wr_i64 (by first | omega | (simp only [LN] at *; omega)) ?_
      | ((first | (with_reducible refine Z.conZ_mz ?_ (c0) ?_) | (with_reducible refine Z.callZ_mk ?_ (c0) ?_) | (with_reducible refine Z.conZ_mz ?_ (c1) ?_) | (with_reducible refine Z.callZ_mk ?_ (c1) ?_)); (focus ((repeat' (first | exact trivial | exact rfl | exact Z.low_nil | exact Z.low_nil2 | exact low_osl (fun _ => rfl) | (refine Z.low_osln ?_ (fun _ => rfl); (simp only [List.length_map]; done)) | exact low_oslr (fun _ => rfl) | exact Z.low_gslm (by first | rfl | exact Z.kb_some rfl) (fun _ => rfl) | exact .inl rfl | exact .inr ⟨_, rfl⟩ | apply And.intro)); done)))
      | (focus (exact (rfl : Nat.ble _ _ = true))))
    all_goals (try (conv => whnf))
    all_goals try (show Nat.ble _ _ = true; rfl)
    all_goals first
      | ((refine Z.rndK ((i + 1, sent, ps, esS, esO)) (fun s => [0, 1, 2]) rfl rfl rfl rfl ?_ ?_ ?_ ?_); (focus (repeat' (first | exact trivial | exact Z.map_sub (Z.MapL.ren HMS fun _ => rfl) rfl | exact Z.map_sub (Z.MapL.ren HMO fun _ => rfl) rfl | exact Z.it_sub rfl | exact rfl | (rw [List.map_append]; exact rfl) | apply And.intro))); (focus (repeat' (first | exact trivial | exact Z.map_sub (Z.MapL.ren HMS fun _ => rfl) rfl | exact Z.map_sub (Z.MapL.ren HMO fun _ => rfl) rfl | exact Z.it_sub rfl | (intro b hb; cases hb; rfl) | (intro b hb; cases hb; subst hlb; rfl) | (intro b hb; cases hb; rw [List.map_append]; rfl) | (intro b hb; cases hb; done) | exact Z.blk_sub rfl rfl (ren_map fun _ => rfl) | exact Z.blk_sub rfl rfl (Z.ren_app (ren_map fun _ => rfl) (ren_map fun _ => rfl)) | exact Z.blk_sub rfl (by first | (rw [List.map_append]; rfl) | (rw [List.map_set]; rfl) | simp only [List.map_append, List.map_cons, List.map_nil, List.map_set]) (ren_map fun _ => rfl) | exact Z.gB_sub rfl rfl (ren_map fun _ => rfl) | exact Z.gB_sub' rfl (by first | rfl | (rw [List.map_append]; rfl) | simp only [List.map_append, List.map_cons, List.map_nil]) (ren_map fun _ => rfl) | apply And.intro))); (focus (dsimp only; exact ⟨by omega, by omega, LS, LO, HMS, HMO, HN⟩)); ((try dsimp only); omega))
      | (exfalso; rename_i hz; cases hz; done)
      | (exfalso; (try simp only [LN] at *) <;> omega)
      | (exfalso; first | contradiction | omega | (rename_i hz; refine hz ?_; simp; done) | (simp only [LN] at *; omega))
      | (fail)
  rcases run_cases he h0 h7 with ⟨k, hS, hT⟩ | ⟨k, x, hx, hn, hT⟩ | ⟨k, x, hx, hn, hT⟩ | ⟨k, hT⟩
  · rw [hT] at c1
    dsimp only at c1
    clear hT he
    have HN2 : NI (sent + 1) (ps ++ [(⟨sent + 1, o.fr, o.to, shB o.bs⟩ : Pc)]) (Z.putK LS (sent + 1) o) LO := HN.send hS hob
    have ck := check_t (sent + 1) (ps ++ [(⟨sent + 1, o.fr, o.to, shB o.bs⟩ : Pc)]) (by have := (okN_60 HN2.ok).1; omega) HN2.ok
    have hl62 := (okN_60 HN2.ok).1
    have hk3 : K = 0 ∨ K = 1 ∨ K = 2 := by omega
    rcases hk3 with rfl | rfl | rfl
    all_goals (
      skip
      repeat' ((conv => whnf); first
        | with_reducible first | refine spB_t ?_
        | ((with_reducible apply spB_cong); (focus (simp only [beq_self_eq_true, bne_self_eq_false, Bool.true_bne, Bool.false_bne, Bool.bne_true, Bool.bne_false, Bool.true_beq, Bool.false_beq, Bool.not_true, Bool.not_false, Bool.not_not, Int.reduceBEq, Int.reduceBNe, Int.reduceLE, Int.reduceLT, Int.reduceEq, decide_true, decide_false, bne_self_eq_false, beq_self_eq_true]; rfl)))
        | with_reducible first | refine spB_yes (by decide) ?_ | refine spB_no (by decide) ?_ | refine spB_f ?_ | refine spB_not ?_ | refine spB_yes (by assumption) ?_ | refine spB_no (by assumption) ?_
        | (with_reducible refine spB_dec ?_ ?_ <;> intro _ <;> (try (exfalso; first | contradiction | omega | (rename_i hz; refine hz ?_; simp; done) | (simp only [LN] at *; omega))))
        | (with_reducible refine spB_beq ?_ ?_ <;> intro _ <;> (try (exfalso; first | contradiction | omega | (rename_i hz; refine hz ?_; simp; done) | (simp only [LN] at *; omega))))
        | (with_reducible refine spB_bne ?_ ?_ <;> intro _ <;> (try (exfalso; first | contradiction | omega | (rename_i hz; refine hz ?_; simp; done) | (simp only [LN] at *; omega))))
        | with_reducible first | refine Z.rowN_known ho ?_
        | ((with_reducible refine vN_K hK ?_ ?_); (focus (exact Int.tmod_eq_emod_of_nonneg (wrap0 _))))
        | with_reducible first | refine Z.MapL.len HMS ?_
        | ((with_reducible refine Z.MapL.upd' HMS (v := o) ?_ ?_); (focus (rfl)); (intro esHMS HMS))
        | ((with_reducible apply ixN_litp); (focus (exact rfl)); (focus ((try simp only [LN] at *) <;> omega)))
        | with_reducible refine wr_u64 (by omega) ?_
        | with_reducible first | refine wr_mk _ rfl ?_
        | with_reducible refine nzN_mk (by omega) ?_
        | ((first | (with_reducible refine Z.conZ_mz ?_ (ck) ?_) | (with_reducible refine Z.callZ_mk ?_ (ck) ?_) | (with_reducible refine Z.conZ_mz ?_ (c0) ?_) | (with_reducible refine Z.callZ_mk ?_ (c0) ?_) | (with_reducible refine Z.conZ_mz ?_ (c1) ?_) | (with_reducible refine Z.callZ_mk ?_ (c1) ?_)); (focus ((repeat' (first | exact trivial | exact rfl | exact Z.low_nil | exact Z.low_nil2 | exact low_osl (fun _ => rfl) | (refine Z.low_osln ?_ (fun _ => rfl); (simp only [List.length_map]; done)) | exact low_oslr (fun _ => rfl) | exact Z.low_gslm (by first | rfl | exact Z.kb_some rfl) (fun _ => rfl) | exact .inl rfl | exact .inr ⟨_, rfl⟩ | apply And.intro)); done)))
        | (focus (exact (rfl : Nat.ble _ _ = true))))
      all_goals (try (conv => whnf))
      all_goals try (show Nat.ble _ _ = true; rfl)
      all_goals try (exfalso; rename_i hz; cases hz; done)
      all_goals try (exfalso; (try simp only [LN] at *) <;> omega)
      all_goals try (exfalso; first | contradiction | omega | (rename_i hz; refine hz ?_; simp; done) | (simp only [LN] at *; omega))
      have hlf := HN2.left HMS.keys
      refine Z.loopK tabOk (fun zq : List Nat × List (Int × Ot) × Int => [(14, .val (.int .i64 zq.2.2))]) (fun zq : List Nat × List (Int × Ot) × Int => ([(5, some (Z.Ob.i ⟨1, esHMS.c, zq.1, esHMS.c⟩))] : Z.Kr)) (fun zq => Z.LeftL .u64 enO esHMS zq.1 zq.2.1 ∧ zq.2.2 = (((ps ++ [(⟨sent + 1, o.fr, o.to, shB o.bs⟩ : Pc)])).length : Int) - (leftN LO zq.2.1 : Int) ∧ 0 ≤ zq.2.2) (fun zq => zq.2.1.length) ([], (Z.putK LS (sent + 1) o), 0) 6 [(3, _), (4, _), (5, _), (20, _), (21, _), (22, _), (146, _)] ⟨rfl, rfl, rfl, rfl, rfl, rfl, rfl, trivial⟩ [(0, some _), (1, some _), (2, some _), (3, some _), (4, some _)] ⟨rfl, rfl, rfl, rfl, rfl, trivial⟩ ?_ ?_ rfl rfl ⟨HMS.left, (by (try dsimp only); rw [hlf]; simp), Int.le_refl 0⟩ ?_
      · repeat' (first | exact trivial | apply And.intro | exact ⟨_, rfl, rfl⟩ | exact ⟨_, rfl, Z.Imp.refl _⟩ | exact ⟨_, rfl, Z.Imp.nilg _⟩ | exact ⟨_, rfl, Z.Imp.nilr _ _⟩)
      · repeat' (first | exact trivial | (intro b hb; cases hb; done) | exact (fun b hb => ⟨b, hb, Z.ImpO.refl b⟩) | (intro b hb; cases hb; refine ⟨_, rfl, ⟨rfl, rfl, rfl⟩, ?_⟩; (repeat' (first | exact trivial | apply And.intro | exact Z.Imp.refl _ | exact Z.Imp.nilg _ | exact Z.Imp.nilr _ _)); done) | apply And.intro)
      rintro ⟨seen, r, lc⟩ HINV
      dsimp only at HINV ⊢
      obtain ⟨HR, HC, HC0⟩ := HINV
      repeat' ((conv => whnf); first
        | with_reducible first | refine spB_t ?_
        | ((with_reducible apply spB_cong); (focus (simp only [beq_self_eq_true, bne_self_eq_false, Bool.true_bne, Bool.false_bne, Bool.bne_true, Bool.bne_false, Bool.true_beq, Bool.false_beq, Bool.not_true, Bool.not_false, Bool.not_not, Int.reduceBEq, Int.reduceBNe, Int.reduceLE, Int.reduceLT, Int.reduceEq, decide_true, decide_false]; rfl)))
        | with_reducible first | refine spB_yes (by decide) ?_ | refine spB_no (by decide) ?_ | refine spB_f ?_ | refine spB_not ?_ | refine spB_yes (by assumption) ?_ | refine spB_no (by assumption) ?_
        | (with_reducible refine spB_bne ?_ ?_ <;> intro _ <;> (try (exfalso; first | contradiction | omega | (rename_i hz; refine hz ?_; simp; done) | (simp only [LN] at *; omega))))
        | (with_reducible refine spB_mk ?_ ?_ <;> intro _ <;> (try (exfalso; first | contradiction | omega | (rename_i hz; refine hz ?_; simp; done) | (simp only [LN] at *; omega))))
        | ((with_reducible refine Z.MapL.next HMS ?_ ?_ HR ?_ ?_); (focus rfl); (focus rfl); (focus (intro hr0; have hlc : lc = (((ps ++ [(⟨sent + 1, o.fr, o.to, shB o.bs⟩ : Pc)])).length : Int) := by rw [HC, hr0]; simp [leftN])); rotate_left; (focus (intro y9 b9 r9 hp9 hl9 hm9; have hst := left_step (LO := LO) hp9)))
        | ((with_reducible refine Z.MapL.entry HMS hm9 (s := seen) ?_ ?_ ?_); (focus rfl); (focus (exact rfl)))
        | ((with_reducible refine Z.MapL.look HMO (z0 := false) ?_ ?_); (focus rfl))
        | with_reducible refine wr_i64 (by first | omega | (simp only [LN] at *; omega)) ?_
        | ((first | (with_reducible refine Z.conZ_mz ?_ (ck) ?_) | (with_reducible refine Z.callZ_mk ?_ (ck) ?_) | (with_reducible refine Z.conZ_mz ?_ (c0) ?_) | (with_reducible refine Z.callZ_mk ?_ (c0) ?_) | (with_reducible refine Z.conZ_mz ?_ (c1) ?_) | (with_reducible refine Z.callZ_mk ?_ (c1) ?_)); (focus ((repeat' (first | exact trivial | exact rfl | exact Z.low_nil | exact Z.low_nil2 | exact low_osl (fun _ => rfl) | (refine Z.low_osln ?_ (fun _ => rfl); (simp only [List.length_map]; done)) | exact low_oslr (fun _ => rfl) | exact Z.low_gslm (by first | rfl | exact Z.kb_some rfl) (fun _ => rfl) | exact .inl rfl | exact .inr ⟨_, rfl⟩ | apply And.intro)); done)))
        | (focus (exact (rfl : Nat.ble _ _ = true))))
      all_goals (try (conv => whnf))
      all_goals try (show Nat.ble _ _ = true; rfl)
      all_goals first
        | ((refine Z.rndK ((seen ++ [b9], r9, lc + 1)) (fun s => [0, 1, 2, 3, 4, 5]) rfl rfl rfl rfl ?_ ?_ ?_ ?_); (focus (repeat' (first | exact trivial | exact Z.map_sub (Z.MapL.ren HMS fun _ => rfl) rfl | exact Z.map_sub (Z.MapL.ren HMO fun _ => rfl) rfl | exact Z.it_sub rfl | exact rfl | (rw [List.map_append]; exact rfl) | apply And.intro))); (focus (repeat' (first | exact trivial | exact Z.map_sub (Z.MapL.ren HMS fun _ => rfl) rfl | exact Z.map_sub (Z.MapL.ren HMO fun _ => rfl) rfl | exact Z.it_sub rfl | (intro b hb; cases hb; rfl) | (intro b hb; cases hb; subst hlb; rfl) | (intro b hb; cases hb; rw [List.map_append]; rfl) | (intro b hb; cases hb; done) | exact Z.blk_sub rfl rfl (ren_map fun _ => rfl) | exact Z.blk_sub rfl rfl (Z.ren_app (ren_map fun _ => rfl) (ren_map fun _ => rfl)) | exact Z.blk_sub rfl (by first | (rw [List.map_append]; rfl) | (rw [List.map_set]; rfl) | simp only [List.map_append, List.map_cons, List.map_nil, List.map_set]) (ren_map fun _ => rfl) | exact Z.gB_sub rfl rfl (ren_map fun _ => rfl) | exact Z.gB_sub' rfl (by first | rfl | (rw [List.map_append]; rfl) | simp only [List.map_append, List.map_cons, List.map_nil]) (ren_map fun _ => rfl) | apply And.intro))); (focus (refine ⟨hl9, ?_, by (try dsimp only); omega⟩; (try dsimp only); (have hv9 : (Z.lookK LO y9.1).getD false = false := by first | assumption | exact Bool.eq_false_iff.2 (by assumption) | simp_all); rw [hv9] at hst; simp only [Bool.false_eq_true, if_false] at hst; omega)); (have h8 := hp9.length_eq; simp only [List.length_cons] at h8; (try dsimp only); omega))
        | ((refine Z.rndK ((seen ++ [b9], r9, lc)) (fun s => [0, 1, 2, 3, 4, 5]) rfl rfl rfl rfl ?_ ?_ ?_ ?_); (focus (repeat' (first | exact trivial | exact Z.map_sub (Z.MapL.ren HMS fun _ => rfl) rfl | exact Z.map_sub (Z.MapL.ren HMO fun _ => rfl) rfl | exact Z.it_sub rfl | exact rfl | (rw [List.map_append]; exact rfl) | apply And.intro))); (focus (repeat' (first | exact trivial | exact Z.map_sub (Z.MapL.ren HMS fun _ => rfl) rfl | exact Z.map_sub (Z.MapL.ren HMO fun _ => rfl) rfl | exact Z.it_sub rfl | (intro b hb; cases hb; rfl) | (intro b hb; cases hb; subst hlb; rfl) | (intro b hb; cases hb; rw [List.map_append]; rfl) | (intro b hb; cases hb; done) | exact Z.blk_sub rfl rfl (ren_map fun _ => rfl) | exact Z.blk_sub rfl rfl (Z.ren_app (ren_map fun _ => rfl) (ren_map fun _ => rfl)) | exact Z.blk_sub rfl (by first | (rw [List.map_append]; rfl) | (rw [List.map_set]; rfl) | simp only [List.map_append, List.map_cons, List.map_nil, List.map_set]) (ren_map fun _ => rfl) | exact Z.gB_sub rfl rfl (ren_map fun _ => rfl) | exact Z.gB_sub' rfl (by first | rfl | (rw [List.map_append]; rfl) | simp only [List.map_append, List.map_cons, List.map_nil]) (ren_map fun _ => rfl) | apply And.intro))); (focus (refine ⟨hl9, ?_, HC0⟩; (try dsimp only); (have hv9 : (Z.lookK LO y9.1).getD false = true := by first | assumption | exact Bool.eq_false_iff.2 (by assumption) | simp_all); rw [hv9] at hst; simp only [if_true] at hst; omega)); (have h8 := hp9.length_eq; simp only [List.length_cons] at h8; (try dsimp only); omega))
        | ((refine Z.rndK ((i + 1, (sent + 1), (ps ++ [(⟨sent + 1, o.fr, o.to, shB o.bs⟩ : Pc)]), esHMS, esO)) (fun s => [0, 1, 2]) rfl rfl rfl rfl ?_ ?_ ?_ ?_); (focus (repeat' (first | exact trivial | exact Z.map_sub (Z.MapL.ren HMS fun _ => rfl) rfl | exact Z.map_sub (Z.MapL.ren HMO fun _ => rfl) rfl | exact Z.it_sub rfl | exact rfl | (rw [List.map_append]; exact rfl) | apply And.intro))); (focus (repeat' (first | exact trivial | exact Z.map_sub (Z.MapL.ren HMS fun _ => rfl) rfl | exact Z.map_sub (Z.MapL.ren HMO fun _ => rfl) rfl | exact Z.it_sub rfl | (intro b hb; cases hb; rfl) | (intro b hb; cases hb; subst hlb; rfl) | (intro b hb; cases hb; rw [List.map_append]; rfl) | (intro b hb; cases hb; done) | exact Z.blk_sub rfl rfl (ren_map fun _ => rfl) | exact Z.blk_sub rfl rfl (Z.ren_app (ren_map fun _ => rfl) (ren_map fun _ => rfl)) | exact Z.blk_sub rfl (by first | (rw [List.map_append]; rfl) | (rw [List.map_set]; rfl) | simp only [List.map_append, List.map_cons, List.map_nil, List.map_set]) (ren_map fun _ => rfl) | exact Z.gB_sub rfl rfl (ren_map fun _ => rfl) | exact Z.gB_sub' rfl (by first | rfl | (rw [List.map_append]; rfl) | simp only [List.map_append, List.map_cons, List.map_nil]) (ren_map fun _ => rfl) | apply And.intro))); (focus (exact ⟨by dsimp only; omega, by dsimp only; omega, (Z.putK LS (sent + 1) o), LO, HMS, HMO, HN2⟩)); ((try dsimp only); omega))
        | (exfalso; rename_i hz; cases hz; done)
        | (exfalso; (try simp only [LN] at *) <;> omega)
        | (exfalso; first | contradiction | omega | (rename_i hz; refine hz ?_; simp; done) | (simp only [LN] at *; omega))
        | (exfalso; simp_all; done)
        | (fail))
  · rw [hT] at c1
    dsimp only at c1
    clear hT he
    have HN2 : NI sent (if o.st = true then ps else ps.eraseIdx (srch N ps)) LS (Z.putK LO N (!o.st)) := HN.come hx hn (st := o.st)
    have ck := check_t sent (if o.st = true then ps else ps.eraseIdx (srch N ps)) (by have := (okN_60 HN2.ok).1; omega) HN2.ok
    have hl62 := (okN_60 HN2.ok).1
    obtain ⟨o2, vS0, e1, e2, hsb⟩ := HN.par x (List.mem_of_getElem? hx)
    have vO0 := HN.not (List.mem_of_getElem? hx)
    have hxb := hb x (List.mem_of_getElem? hx)
    obtain ⟨kd2, fr2, to2, at2, st2, ot2, bs2⟩ := o2
    simp only at e1 e2 hsb
    subst e1 e2
    have vS := vS0
    have vO := vO0
    rw [hn] at vS vO c1
    have hob2 : bs2.length ≤ 9223372036854775807 := HN.bsl _ _ vS0
    have cb := bytes_con kd2 x.fr x.to at2 st2 ot2 bs2 hob2
    rw [hsb] at cb
    have cq := bq_con x.bs (by omega)
    rcases k with rfl | rfl
    all_goals (
      skip
      repeat' ((conv => whnf); first
        | with_reducible first | refine spB_t ?_
        | ((with_reducible apply spB_cong); (focus (simp only [beq_self_eq_true, bne_self_eq_false, Bool.true_bne, Bool.false_bne, Bool.bne_true, Bool.bne_false, Bool.true_beq, Bool.false_beq, Bool.not_true, Bool.not_false, Bool.not_not, Int.reduceBEq, Int.reduceBNe, Int.reduceLE, Int.reduceLT, Int.reduceEq, decide_true, decide_false, bne_self_eq_false, beq_self_eq_true]; rfl)))
        | with_reducible first | refine spB_yes (by decide) ?_ | refine spB_no (by decide) ?_ | refine spB_f ?_ | refine spB_not ?_ | refine spB_yes (by assumption) ?_ | refine spB_no (by assumption) ?_
        | (with_reducible refine spB_dec ?_ ?_ <;> intro _ <;> (try (exfalso; first | contradiction | omega | (rename_i hz; refine hz ?_; simp; done) | (simp only [LN] at *; omega))))
        | (with_reducible refine spB_beq ?_ ?_ <;> intro _ <;> (try (exfalso; first | contradiction | omega | (rename_i hz; refine hz ?_; simp; done) | (simp only [LN] at *; omega))))
        | with_reducible first | refine Z.rowN_known ho ?_
        | ((with_reducible refine vN_K hK ?_ ?_); (focus (exact Int.tmod_eq_emod_of_nonneg (wrap0 _))))
        | ((with_reducible refine look_some HMS vS ?_))
        | ((with_reducible refine look_is HMO vO ?_ ?_); (focus rfl); (intro okk))
        | ((with_reducible refine Z.MapL.upd' HMO (v := !o.st) ?_ ?_); (focus (rfl)); (intro esHMO HMO))
        | ((with_reducible apply ixN_litp); (focus (exact rfl)); (focus ((try simp only [LN] at *) <;> omega)))
        | with_reducible first | refine wr_mk _ rfl ?_
        | with_reducible refine nzN_mk (by omega) ?_
        | ((first | (with_reducible refine Z.conZ_mz ?_ (ck) ?_) | (with_reducible refine Z.callZ_mk ?_ (ck) ?_) | (with_reducible refine Z.conZ_mz ?_ (c0) ?_) | (with_reducible refine Z.callZ_mk ?_ (c0) ?_) | (with_reducible refine Z.conZ_mz ?_ (c1) ?_) | (with_reducible refine Z.callZ_mk ?_ (c1) ?_) | (with_reducible refine Z.conZ_mz ?_ (cq) ?_) | (with_reducible refine Z.callZ_mk ?_ (cq) ?_) | (with_reducible refine Z.conZ_mz ?_ (cb) ?_) | (with_reducible refine Z.callZ_mk ?_ (cb) ?_)); (focus ((repeat' (first | exact trivial | exact rfl | exact Z.low_nil | exact Z.low_nil2 | exact low_osl (fun _ => rfl) | (refine Z.low_osln ?_ (fun _ => rfl); (simp only [List.length_map]; done)) | exact low_oslr (fun _ => rfl) | exact Z.low_gslm (by first | rfl | exact Z.kb_some rfl) (fun _ => rfl) | exact .inl rfl | exact .inr ⟨_, rfl⟩ | apply And.intro)); done)))
        | with_reducible first | refine Z.drawZ_rule tabOk mixOk ?_ | refine Z.apZ_mk (by kernel_rfl) ?_
        | (focus (exact (rfl : Nat.ble _ _ = true))))
      all_goals (try (conv => whnf))
      all_goals try (show Nat.ble _ _ = true; rfl)
      all_goals try (exfalso; rename_i hz; cases hz; done)
      all_goals try (exfalso; (try simp only [LN] at *) <;> omega)
      all_goals try (exfalso; first | contradiction | omega | (rename_i hz; refine hz ?_; simp; done) | (simp only [LN] at *; omega))
      have hlf := HN2.left HMS.keys
      refine Z.loopK tabOk (fun zq : List Nat × List (Int × Ot) × Int => [(14, .val (.int .i64 zq.2.2))]) (fun zq : List Nat × List (Int × Ot) × Int => ([(7, some (Z.Ob.i ⟨1, esS.c, zq.1, esS.c⟩))] : Z.Kr)) (fun zq => Z.LeftL .u64 enO esS zq.1 zq.2.1 ∧ zq.2.2 = (((if o.st = true then ps else ps.eraseIdx (srch N ps))).length : Int) - (leftN (Z.putK LO N (!o.st)) zq.2.1 : Int) ∧ 0 ≤ zq.2.2) (fun zq => zq.2.1.length) ([], LS, 0) 8 [(3, _), (4, _), (5, _), (20, _), (21, _), (22, _), (146, _)] ⟨rfl, rfl, rfl, rfl, rfl, rfl, rfl, trivial⟩ [(0, some _), (1, some _), (2, some _), (3, some _), (4, some _), (5, some _)] ⟨rfl, rfl, rfl, rfl, rfl, rfl, trivial⟩ ?_ ?_ rfl rfl ⟨HMS.left, (by (try dsimp only); rw [hlf]; simp), Int.le_refl 0⟩ ?_
      · repeat' (first | exact trivial | apply And.intro | exact ⟨_, rfl, rfl⟩ | exact ⟨_, rfl, Z.Imp.refl _⟩ | exact ⟨_, rfl, Z.Imp.nilg _⟩ | exact ⟨_, rfl, Z.Imp.nilr _ _⟩)
      · repeat' (first | exact trivial | (intro b hb; cases hb; done) | exact (fun b hb => ⟨b, hb, Z.ImpO.refl b⟩) | (intro b hb; cases hb; refine ⟨_, rfl, ⟨rfl, rfl, rfl⟩, ?_⟩; (repeat' (first | exact trivial | apply And.intro | exact Z.Imp.refl _ | exact Z.Imp.nilg _ | exact Z.Imp.nilr _ _)); done) | apply And.intro)
      rintro ⟨seen, r, lc⟩ HINV
      dsimp only at HINV ⊢
      obtain ⟨HR, HC, HC0⟩ := HINV
      repeat' ((conv => whnf); first
        | with_reducible first | refine spB_t ?_
        | ((with_reducible apply spB_cong); (focus (simp only [beq_self_eq_true, bne_self_eq_false, Bool.true_bne, Bool.false_bne, Bool.bne_true, Bool.bne_false, Bool.true_beq, Bool.false_beq, Bool.not_true, Bool.not_false, Bool.not_not, Int.reduceBEq, Int.reduceBNe, Int.reduceLE, Int.reduceLT, Int.reduceEq, decide_true, decide_false]; rfl)))
        | with_reducible first | refine spB_yes (by decide) ?_ | refine spB_no (by decide) ?_ | refine spB_f ?_ | refine spB_not ?_ | refine spB_yes (by assumption) ?_ | refine spB_no (by assumption) ?_
        | (with_reducible refine spB_bne ?_ ?_ <;> intro _ <;> (try (exfalso; first | contradiction | omega | (rename_i hz; refine hz ?_; simp; done) | (simp only [LN] at *; omega))))
        | (with_reducible refine spB_mk ?_ ?_ <;> intro _ <;> (try (exfalso; first | contradiction | omega | (rename_i hz; refine hz ?_; simp; done) | (simp only [LN] at *; omega))))
        | ((with_reducible refine Z.MapL.next HMS ?_ ?_ HR ?_ ?_); (focus rfl); (focus rfl); (focus (intro hr0; have hlc : lc = (((if o.st = true then ps else ps.eraseIdx (srch N ps))).length : Int) := by rw [HC, hr0]; simp [leftN])); rotate_left; (focus (intro y9 b9 r9 hp9 hl9 hm9; have hst := left_step (LO := (Z.putK LO N (!o.st))) hp9)))
        | ((with_reducible refine Z.MapL.entry HMS hm9 (s := seen) ?_ ?_ ?_); (focus rfl); (focus (exact rfl)))
        | ((with_reducible refine Z.MapL.look HMO (z0 := false) ?_ ?_); (focus rfl))
        | with_reducible refine wr_i64 (by first | omega | (simp only [LN] at *; omega)) ?_
        | ((first | (with_reducible refine Z.conZ_mz ?_ (ck) ?_) | (with_reducible refine Z.callZ_mk ?_ (ck) ?_) | (with_reducible refine Z.conZ_mz ?_ (c0) ?_) | (with_reducible refine Z.callZ_mk ?_ (c0) ?_) | (with_reducible refine Z.conZ_mz ?_ (c1) ?_) | (with_reducible refine Z.callZ_mk ?_ (c1) ?_) | (with_reducible refine Z.conZ_mz ?_ (cq) ?_) | (with_reducible refine Z.callZ_mk ?_ (cq) ?_) | (with_reducible refine Z.conZ_mz ?_ (cb) ?_) | (with_reducible refine Z.callZ_mk ?_ (cb) ?_)); (focus ((repeat' (first | exact trivial | exact rfl | exact Z.low_nil | exact Z.low_nil2 | exact low_osl (fun _ => rfl) | (refine Z.low_osln ?_ (fun _ => rfl); (simp only [List.length_map]; done)) | exact low_oslr (fun _ => rfl) | exact Z.low_gslm (by first | rfl | exact Z.kb_some rfl) (fun _ => rfl) | exact .inl rfl | exact .inr ⟨_, rfl⟩ | apply And.intro)); done)))
        | (focus (exact (rfl : Nat.ble _ _ = true))))
      all_goals (try (conv => whnf))
      all_goals try (show Nat.ble _ _ = true; rfl)
      all_goals first
        | ((refine Z.rndK ((seen ++ [b9], r9, lc + 1)) (fun s => [0, 1, 2, 3, 4, 5, 6, 7]) rfl rfl rfl rfl ?_ ?_ ?_ ?_); (focus (repeat' (first | exact trivial | exact Z.map_sub (Z.MapL.ren HMS fun _ => rfl) rfl | exact Z.map_sub (Z.MapL.ren HMO fun _ => rfl) rfl | exact Z.it_sub rfl | exact rfl | (rw [List.map_append]; exact rfl) | apply And.intro))); (focus (repeat' (first | exact trivial | exact Z.map_sub (Z.MapL.ren HMS fun _ => rfl) rfl | exact Z.map_sub (Z.MapL.ren HMO fun _ => rfl) rfl | exact Z.it_sub rfl | (intro b hb; cases hb; rfl) | (intro b hb; cases hb; subst hlb; rfl) | (intro b hb; cases hb; rw [List.map_append]; rfl) | (intro b hb; cases hb; done) | exact Z.blk_sub rfl rfl (ren_map fun _ => rfl) | exact Z.blk_sub rfl rfl (Z.ren_app (ren_map fun _ => rfl) (ren_map fun _ => rfl)) | exact Z.blk_sub rfl (by first | (rw [List.map_append]; rfl) | (rw [List.map_set]; rfl) | simp only [List.map_append, List.map_cons, List.map_nil, List.map_set]) (ren_map fun _ => rfl) | exact Z.gB_sub rfl rfl (ren_map fun _ => rfl) | exact Z.gB_sub' rfl (by first | rfl | (rw [List.map_append]; rfl) | simp only [List.map_append, List.map_cons, List.map_nil]) (ren_map fun _ => rfl) | apply And.intro))); (focus (refine ⟨hl9, ?_, by (try dsimp only); omega⟩; (try dsimp only); (have hv9 : (Z.lookK (Z.putK LO N (!o.st)) y9.1).getD false = false := by first | assumption | exact Bool.eq_false_iff.2 (by assumption) | simp_all); rw [hv9] at hst; simp only [Bool.false_eq_true, if_false] at hst; omega)); (have h8 := hp9.length_eq; simp only [List.length_cons] at h8; (try dsimp only); omega))
        | ((refine Z.rndK ((seen ++ [b9], r9, lc)) (fun s => [0, 1, 2, 3, 4, 5, 6, 7]) rfl rfl rfl rfl ?_ ?_ ?_ ?_); (focus (repeat' (first | exact trivial | exact Z.map_sub (Z.MapL.ren HMS fun _ => rfl) rfl | exact Z.map_sub (Z.MapL.ren HMO fun _ => rfl) rfl | exact Z.it_sub rfl | exact rfl | (rw [List.map_append]; exact rfl) | apply And.intro))); (focus (repeat' (first | exact trivial | exact Z.map_sub (Z.MapL.ren HMS fun _ => rfl) rfl | exact Z.map_sub (Z.MapL.ren HMO fun _ => rfl) rfl | exact Z.it_sub rfl | (intro b hb; cases hb; rfl) | (intro b hb; cases hb; subst hlb; rfl) | (intro b hb; cases hb; rw [List.map_append]; rfl) | (intro b hb; cases hb; done) | exact Z.blk_sub rfl rfl (ren_map fun _ => rfl) | exact Z.blk_sub rfl rfl (Z.ren_app (ren_map fun _ => rfl) (ren_map fun _ => rfl)) | exact Z.blk_sub rfl (by first | (rw [List.map_append]; rfl) | (rw [List.map_set]; rfl) | simp only [List.map_append, List.map_cons, List.map_nil, List.map_set]) (ren_map fun _ => rfl) | exact Z.gB_sub rfl rfl (ren_map fun _ => rfl) | exact Z.gB_sub' rfl (by first | rfl | (rw [List.map_append]; rfl) | simp only [List.map_append, List.map_cons, List.map_nil]) (ren_map fun _ => rfl) | apply And.intro))); (focus (refine ⟨hl9, ?_, HC0⟩; (try dsimp only); (have hv9 : (Z.lookK (Z.putK LO N (!o.st)) y9.1).getD false = true := by first | assumption | exact Bool.eq_false_iff.2 (by assumption) | simp_all); rw [hv9] at hst; simp only [if_true] at hst; omega)); (have h8 := hp9.length_eq; simp only [List.length_cons] at h8; (try dsimp only); omega))
        | ((refine Z.rndK ((i + 1, sent, (if o.st = true then ps else ps.eraseIdx (srch N ps)), esS, esHMO)) (fun s => [0, 1, 2]) rfl rfl rfl rfl ?_ ?_ ?_ ?_); (focus (repeat' (first | exact trivial | exact Z.map_sub (Z.MapL.ren HMS fun _ => rfl) rfl | exact Z.map_sub (Z.MapL.ren HMO fun _ => rfl) rfl | exact Z.it_sub rfl | exact rfl | (rw [List.map_append]; exact rfl) | apply And.intro))); (focus (repeat' (first | exact trivial | exact Z.map_sub (Z.MapL.ren HMS fun _ => rfl) rfl | exact Z.map_sub (Z.MapL.ren HMO fun _ => rfl) rfl | exact Z.it_sub rfl | (intro b hb; cases hb; rfl) | (intro b hb; cases hb; subst hlb; rfl) | (intro b hb; cases hb; rw [List.map_append]; rfl) | (intro b hb; cases hb; done) | exact Z.blk_sub rfl rfl (ren_map fun _ => rfl) | exact Z.blk_sub rfl rfl (Z.ren_app (ren_map fun _ => rfl) (ren_map fun _ => rfl)) | exact Z.blk_sub rfl (by first | (rw [List.map_append]; rfl) | (rw [List.map_set]; rfl) | simp only [List.map_append, List.map_cons, List.map_nil, List.map_set]) (ren_map fun _ => rfl) | exact Z.gB_sub rfl rfl (ren_map fun _ => rfl) | exact Z.gB_sub' rfl (by first | rfl | (rw [List.map_append]; rfl) | simp only [List.map_append, List.map_cons, List.map_nil]) (ren_map fun _ => rfl) | apply And.intro))); (focus (exact ⟨by dsimp only; omega, by dsimp only; omega, LS, (Z.putK LO N (!o.st)), HMS, HMO, HN2⟩)); ((try dsimp only); omega))
        | (exfalso; rename_i hz; cases hz; done)
        | (exfalso; (try simp only [LN] at *) <;> omega)
        | (exfalso; first | contradiction | omega | (rename_i hz; refine hz ?_; simp; done) | (simp only [LN] at *; omega))
        | (exfalso; simp_all; done)
        | (fail))
  · rw [hT] at c1
    dsimp only at c1
    clear hT he
    have HN2 : NI sent (ps.eraseIdx (srch N ps)) LS (Z.putK LO N true) := HN.drop hx hn
    have ck := check_t sent (ps.eraseIdx (srch N ps)) (by have := (okN_60 HN2.ok).1; omega) HN2.ok
    have hl62 := (okN_60 HN2.ok).1
    have vO := HN.not (List.mem_of_getElem? hx)
    rw [hn] at vO
    subst k
    all_goals (
      skip
      repeat' ((conv => whnf); first
        | with_reducible first | refine spB_t ?_
        | ((with_reducible apply spB_cong); (focus (simp only [beq_self_eq_true, bne_self_eq_false, Bool.true_bne, Bool.false_bne, Bool.bne_true, Bool.bne_false, Bool.true_beq, Bool.false_beq, Bool.not_true, Bool.not_false, Bool.not_not, Int.reduceBEq, Int.reduceBNe, Int.reduceLE, Int.reduceLT, Int.reduceEq, decide_true, decide_false, bne_self_eq_false, beq_self_eq_true]; rfl)))
        | with_reducible first | refine spB_yes (by decide) ?_ | refine spB_no (by decide) ?_ | refine spB_f ?_ | refine spB_not ?_ | refine spB_yes (by assumption) ?_ | refine spB_no (by assumption) ?_
        | (with_reducible refine spB_dec ?_ ?_ <;> intro _ <;> (try (exfalso; first | contradiction | omega | (rename_i hz; refine hz ?_; simp; done) | (simp only [LN] at *; omega))))
        | (with_reducible refine spB_beq ?_ ?_ <;> intro _ <;> (try (exfalso; first | contradiction | omega | (rename_i hz; refine hz ?_; simp; done) | (simp only [LN] at *; omega))))
        | with_reducible first | refine Z.rowN_known ho ?_
        | ((with_reducible refine vN_K hK ?_ ?_); (focus (exact Int.tmod_eq_emod_of_nonneg (wrap0 _))))
        | ((with_reducible refine look_is HMO vO ?_ ?_); (focus rfl); (intro okk))
        | ((with_reducible refine Z.MapL.upd' HMO (v := true) ?_ ?_); (focus (rfl)); (intro esHMO HMO))
        | ((with_reducible apply ixN_litp); (focus (exact rfl)); (focus ((try simp only [LN] at *) <;> omega)))
        | with_reducible first | refine wr_mk _ rfl ?_
        | with_reducible refine nzN_mk (by omega) ?_
        | ((first | (with_reducible refine Z.conZ_mz ?_ (ck) ?_) | (with_reducible refine Z.callZ_mk ?_ (ck) ?_) | (with_reducible refine Z.conZ_mz ?_ (c0) ?_) | (with_reducible refine Z.callZ_mk ?_ (c0) ?_) | (with_reducible refine Z.conZ_mz ?_ (c1) ?_) | (with_reducible refine Z.callZ_mk ?_ (c1) ?_)); (focus ((repeat' (first | exact trivial | exact rfl | exact Z.low_nil | exact Z.low_nil2 | exact low_osl (fun _ => rfl) | (refine Z.low_osln ?_ (fun _ => rfl); (simp only [List.length_map]; done)) | exact low_oslr (fun _ => rfl) | exact Z.low_gslm (by first | rfl | exact Z.kb_some rfl) (fun _ => rfl) | exact .inl rfl | exact .inr ⟨_, rfl⟩ | apply And.intro)); done)))
        | (focus (exact (rfl : Nat.ble _ _ = true))))
      all_goals (try (conv => whnf))
      all_goals try (show Nat.ble _ _ = true; rfl)
      all_goals try (exfalso; rename_i hz; cases hz; done)
      all_goals try (exfalso; (try simp only [LN] at *) <;> omega)
      all_goals try (exfalso; first | contradiction | omega | (rename_i hz; refine hz ?_; simp; done) | (simp only [LN] at *; omega))
      have hlf := HN2.left HMS.keys
      refine Z.loopK tabOk (fun zq : List Nat × List (Int × Ot) × Int => [(14, .val (.int .i64 zq.2.2))]) (fun zq : List Nat × List (Int × Ot) × Int => ([(5, some (Z.Ob.i ⟨1, esS.c, zq.1, esS.c⟩))] : Z.Kr)) (fun zq => Z.LeftL .u64 enO esS zq.1 zq.2.1 ∧ zq.2.2 = (((ps.eraseIdx (srch N ps))).length : Int) - (leftN (Z.putK LO N true) zq.2.1 : Int) ∧ 0 ≤ zq.2.2) (fun zq => zq.2.1.length) ([], LS, 0) 6 [(3, _), (4, _), (5, _), (20, _), (21, _), (22, _), (146, _)] ⟨rfl, rfl, rfl, rfl, rfl, rfl, rfl, trivial⟩ [(0, some _), (1, some _), (2, some _), (3, some _), (4, some _)] ⟨rfl, rfl, rfl, rfl, rfl, trivial⟩ ?_ ?_ rfl rfl ⟨HMS.left, (by (try dsimp only); rw [hlf]; simp), Int.le_refl 0⟩ ?_
      · repeat' (first | exact trivial | apply And.intro | exact ⟨_, rfl, rfl⟩ | exact ⟨_, rfl, Z.Imp.refl _⟩ | exact ⟨_, rfl, Z.Imp.nilg _⟩ | exact ⟨_, rfl, Z.Imp.nilr _ _⟩)
      · repeat' (first | exact trivial | (intro b hb; cases hb; done) | exact (fun b hb => ⟨b, hb, Z.ImpO.refl b⟩) | (intro b hb; cases hb; refine ⟨_, rfl, ⟨rfl, rfl, rfl⟩, ?_⟩; (repeat' (first | exact trivial | apply And.intro | exact Z.Imp.refl _ | exact Z.Imp.nilg _ | exact Z.Imp.nilr _ _)); done) | apply And.intro)
      rintro ⟨seen, r, lc⟩ HINV
      dsimp only at HINV ⊢
      obtain ⟨HR, HC, HC0⟩ := HINV
      repeat' ((conv => whnf); first
        | with_reducible first | refine spB_t ?_
        | ((with_reducible apply spB_cong); (focus (simp only [beq_self_eq_true, bne_self_eq_false, Bool.true_bne, Bool.false_bne, Bool.bne_true, Bool.bne_false, Bool.true_beq, Bool.false_beq, Bool.not_true, Bool.not_false, Bool.not_not, Int.reduceBEq, Int.reduceBNe, Int.reduceLE, Int.reduceLT, Int.reduceEq, decide_true, decide_false]; rfl)))
        | with_reducible first | refine spB_yes (by decide) ?_ | refine spB_no (by decide) ?_ | refine spB_f ?_ | refine spB_not ?_ | refine spB_yes (by assumption) ?_ | refine spB_no (by assumption) ?_
        | (with_reducible refine spB_bne ?_ ?_ <;> intro _ <;> (try (exfalso; first | contradiction | omega | (rename_i hz; refine hz ?_; simp; done) | (simp only [LN] at *; omega))))
        | (with_reducible refine spB_mk ?_ ?_ <;> intro _ <;> (try (exfalso; first | contradiction | omega | (rename_i hz; refine hz ?_; simp; done) | (simp only [LN] at *; omega))))
        | ((with_reducible refine Z.MapL.next HMS ?_ ?_ HR ?_ ?_); (focus rfl); (focus rfl); (focus (intro hr0; have hlc : lc = (((ps.eraseIdx (srch N ps))).length : Int) := by rw [HC, hr0]; simp [leftN])); rotate_left; (focus (intro y9 b9 r9 hp9 hl9 hm9; have hst := left_step (LO := (Z.putK LO N true)) hp9)))
        | ((with_reducible refine Z.MapL.entry HMS hm9 (s := seen) ?_ ?_ ?_); (focus rfl); (focus (exact rfl)))
        | ((with_reducible refine Z.MapL.look HMO (z0 := false) ?_ ?_); (focus rfl))
        | with_reducible refine wr_i64 (by first | omega | (simp only [LN] at *; omega)) ?_
        | ((first | (with_reducible refine Z.conZ_mz ?_ (ck) ?_) | (with_reducible refine Z.callZ_mk ?_ (ck) ?_) | (with_reducible refine Z.conZ_mz ?_ (c0) ?_) | (with_reducible refine Z.callZ_mk ?_ (c0) ?_) | (with_reducible refine Z.conZ_mz ?_ (c1) ?_) | (with_reducible refine Z.callZ_mk ?_ (c1) ?_)); (focus ((repeat' (first | exact trivial | exact rfl | exact Z.low_nil | exact Z.low_nil2 | exact low_osl (fun _ => rfl) | (refine Z.low_osln ?_ (fun _ => rfl); (simp only [List.length_map]; done)) | exact low_oslr (fun _ => rfl) | exact Z.low_gslm (by first | rfl | exact Z.kb_some rfl) (fun _ => rfl) | exact .inl rfl | exact .inr ⟨_, rfl⟩ | apply And.intro)); done)))
        | (focus (exact (rfl : Nat.ble _ _ = true))))
      all_goals (try (conv => whnf))
      all_goals try (show Nat.ble _ _ = true; rfl)
      all_goals first
        | ((refine Z.rndK ((seen ++ [b9], r9, lc + 1)) (fun s => [0, 1, 2, 3, 4, 5]) rfl rfl rfl rfl ?_ ?_ ?_ ?_); (focus (repeat' (first | exact trivial | exact Z.map_sub (Z.MapL.ren HMS fun _ => rfl) rfl | exact Z.map_sub (Z.MapL.ren HMO fun _ => rfl) rfl | exact Z.it_sub rfl | exact rfl | (rw [List.map_append]; exact rfl) | apply And.intro))); (focus (repeat' (first | exact trivial | exact Z.map_sub (Z.MapL.ren HMS fun _ => rfl) rfl | exact Z.map_sub (Z.MapL.ren HMO fun _ => rfl) rfl | exact Z.it_sub rfl | (intro b hb; cases hb; rfl) | (intro b hb; cases hb; subst hlb; rfl) | (intro b hb; cases hb; rw [List.map_append]; rfl) | (intro b hb; cases hb; done) | exact Z.blk_sub rfl rfl (ren_map fun _ => rfl) | exact Z.blk_sub rfl rfl (Z.ren_app (ren_map fun _ => rfl) (ren_map fun _ => rfl)) | exact Z.blk_sub rfl (by first | (rw [List.map_append]; rfl) | (rw [List.map_set]; rfl) | simp only [List.map_append, List.map_cons, List.map_nil, List.map_set]) (ren_map fun _ => rfl) | exact Z.gB_sub rfl rfl (ren_map fun _ => rfl) | exact Z.gB_sub' rfl (by first | rfl | (rw [List.map_append]; rfl) | simp only [List.map_append, List.map_cons, List.map_nil]) (ren_map fun _ => rfl) | apply And.intro))); (focus (refine ⟨hl9, ?_, by (try dsimp only); omega⟩; (try dsimp only); (have hv9 : (Z.lookK (Z.putK LO N true) y9.1).getD false = false := by first | assumption | exact Bool.eq_false_iff.2 (by assumption) | simp_all); rw [hv9] at hst; simp only [Bool.false_eq_true, if_false] at hst; omega)); (have h8 := hp9.length_eq; simp only [List.length_cons] at h8; (try dsimp only); omega))
        | ((refine Z.rndK ((seen ++ [b9], r9, lc)) (fun s => [0, 1, 2, 3, 4, 5]) rfl rfl rfl rfl ?_ ?_ ?_ ?_); (focus (repeat' (first | exact trivial | exact Z.map_sub (Z.MapL.ren HMS fun _ => rfl) rfl | exact Z.map_sub (Z.MapL.ren HMO fun _ => rfl) rfl | exact Z.it_sub rfl | exact rfl | (rw [List.map_append]; exact rfl) | apply And.intro))); (focus (repeat' (first | exact trivial | exact Z.map_sub (Z.MapL.ren HMS fun _ => rfl) rfl | exact Z.map_sub (Z.MapL.ren HMO fun _ => rfl) rfl | exact Z.it_sub rfl | (intro b hb; cases hb; rfl) | (intro b hb; cases hb; subst hlb; rfl) | (intro b hb; cases hb; rw [List.map_append]; rfl) | (intro b hb; cases hb; done) | exact Z.blk_sub rfl rfl (ren_map fun _ => rfl) | exact Z.blk_sub rfl rfl (Z.ren_app (ren_map fun _ => rfl) (ren_map fun _ => rfl)) | exact Z.blk_sub rfl (by first | (rw [List.map_append]; rfl) | (rw [List.map_set]; rfl) | simp only [List.map_append, List.map_cons, List.map_nil, List.map_set]) (ren_map fun _ => rfl) | exact Z.gB_sub rfl rfl (ren_map fun _ => rfl) | exact Z.gB_sub' rfl (by first | rfl | (rw [List.map_append]; rfl) | simp only [List.map_append, List.map_cons, List.map_nil]) (ren_map fun _ => rfl) | apply And.intro))); (focus (refine ⟨hl9, ?_, HC0⟩; (try dsimp only); (have hv9 : (Z.lookK (Z.putK LO N true) y9.1).getD false = true := by first | assumption | exact Bool.eq_false_iff.2 (by assumption) | simp_all); rw [hv9] at hst; simp only [if_true] at hst; omega)); (have h8 := hp9.length_eq; simp only [List.length_cons] at h8; (try dsimp only); omega))
        | ((refine Z.rndK ((i + 1, sent, (ps.eraseIdx (srch N ps)), esS, esHMO)) (fun s => [0, 1, 2]) rfl rfl rfl rfl ?_ ?_ ?_ ?_); (focus (repeat' (first | exact trivial | exact Z.map_sub (Z.MapL.ren HMS fun _ => rfl) rfl | exact Z.map_sub (Z.MapL.ren HMO fun _ => rfl) rfl | exact Z.it_sub rfl | exact rfl | (rw [List.map_append]; exact rfl) | apply And.intro))); (focus (repeat' (first | exact trivial | exact Z.map_sub (Z.MapL.ren HMS fun _ => rfl) rfl | exact Z.map_sub (Z.MapL.ren HMO fun _ => rfl) rfl | exact Z.it_sub rfl | (intro b hb; cases hb; rfl) | (intro b hb; cases hb; subst hlb; rfl) | (intro b hb; cases hb; rw [List.map_append]; rfl) | (intro b hb; cases hb; done) | exact Z.blk_sub rfl rfl (ren_map fun _ => rfl) | exact Z.blk_sub rfl rfl (Z.ren_app (ren_map fun _ => rfl) (ren_map fun _ => rfl)) | exact Z.blk_sub rfl (by first | (rw [List.map_append]; rfl) | (rw [List.map_set]; rfl) | simp only [List.map_append, List.map_cons, List.map_nil, List.map_set]) (ren_map fun _ => rfl) | exact Z.gB_sub rfl rfl (ren_map fun _ => rfl) | exact Z.gB_sub' rfl (by first | rfl | (rw [List.map_append]; rfl) | simp only [List.map_append, List.map_cons, List.map_nil]) (ren_map fun _ => rfl) | apply And.intro))); (focus (exact ⟨by dsimp only; omega, by dsimp only; omega, LS, (Z.putK LO N true), HMS, HMO, HN2⟩)); ((try dsimp only); omega))
        | (exfalso; rename_i hz; cases hz; done)
        | (exfalso; (try simp only [LN] at *) <;> omega)
        | (exfalso; first | contradiction | omega | (rename_i hz; refine hz ?_; simp; done) | (simp only [LN] at *; omega))
        | (exfalso; simp_all; done)
        | (fail))
  · rw [hT] at c1
    dsimp only at c1
    clear hT he
    subst k
    all_goals (
      skip
      repeat' ((conv => whnf); first
        | ((with_reducible apply spB_cong); (focus (simp only [beq_self_eq_true, bne_self_eq_false, Bool.true_bne, Bool.false_bne, Bool.bne_true, Bool.bne_false, Bool.true_beq, Bool.false_beq, Bool.not_true, Bool.not_false, Bool.not_not, Int.reduceBEq, Int.reduceBNe, Int.reduceLE, Int.reduceLT, Int.reduceEq, decide_true, decide_false, bne_self_eq_false, beq_self_eq_true]; rfl)))
        | with_reducible first | refine spB_yes (by decide) ?_ | refine spB_no (by decide) ?_ | refine spB_f ?_ | refine spB_not ?_ | refine spB_yes (by assumption) ?_ | refine spB_no (by assumption) ?_
        | (with_reducible refine spB_dec ?_ ?_ <;> intro _ <;> (try (exfalso; first | contradiction | omega | (rename_i hz; refine hz ?_; simp; done) | (simp only [LN] at *; omega))))
        | (with_reducible refine spB_beq ?_ ?_ <;> intro _ <;> (try (exfalso; first | contradiction | omega | (rename_i hz; refine hz ?_; simp; done) | (simp only [LN] at *; omega))))
        | with_reducible first | refine Z.rowN_known ho ?_
        | ((with_reducible refine vN_K hK ?_ ?_); (focus (exact Int.tmod_eq_emod_of_nonneg (wrap0 _))))
        | ((with_reducible apply ixN_litp); (focus (exact rfl)); (focus ((try simp only [LN] at *) <;> omega)))
        | with_reducible first | refine wr_mk _ rfl ?_
        | with_reducible refine nzN_mk (by omega) ?_
        | ((first | (with_reducible refine Z.conZ_mz ?_ (c0) ?_) | (with_reducible refine Z.callZ_mk ?_ (c0) ?_) | (with_reducible refine Z.conZ_mz ?_ (c1) ?_) | (with_reducible refine Z.callZ_mk ?_ (c1) ?_)); (focus ((repeat' (first | exact trivial | exact rfl | exact Z.low_nil | exact Z.low_nil2 | exact low_osl (fun _ => rfl) | (refine Z.low_osln ?_ (fun _ => rfl); (simp only [List.length_map]; done)) | exact low_oslr (fun _ => rfl) | exact Z.low_gslm (by first | rfl | exact Z.kb_some rfl) (fun _ => rfl) | exact .inl rfl | exact .inr ⟨_, rfl⟩ | apply And.intro)); done)))
        | (focus (exact (rfl : Nat.ble _ _ = true))))
      all_goals (try (conv => whnf))
      all_goals try (show Nat.ble _ _ = true; rfl)
      all_goals try (exfalso; rename_i hz; cases hz; done)
      all_goals try (exfalso; (try simp only [LN] at *) <;> omega)
      all_goals try (exfalso; first | contradiction | omega | (rename_i hz; refine hz ?_; simp; done) | (simp only [LN] at *; omega))
      refine Z.loopK tabOk (fun zq : List Nat × List (Int × Ot) × Y.MS => []) (fun zq : List Nat × List (Int × Ot) × Y.MS => ([(5, some (Z.Ob.i ⟨1, esS.c, zq.1, esS.c⟩)), (2, some (Z.Ob.m zq.2.2))] : Z.Kr)) (fun zq => Z.LeftL .u64 enO esS zq.1 zq.2.1 ∧ (∀ z ∈ zq.2.1, z ∈ LS) ∧ (zq.2.1.map (·.1)).Nodup ∧ ∃ L, Z.MapL .u64 enB zq.2.2 L ∧ ∀ y, (Z.lookK L y).getD false = if y ∈ zq.2.1.map (·.1) then (Z.lookK LO y).getD false else ((Z.lookK LO y).getD false || touchK o.fr LS y)) (fun zq => zq.2.1.length) ([], LS, esO) 6 [(3, _), (4, _), (5, _), (7, _), (9, _), (20, _), (21, _), (22, _), (43, _)] ⟨rfl, rfl, rfl, rfl, rfl, rfl, rfl, rfl, rfl, trivial⟩ [(0, some _), (1, some _), (3, some _), (4, some _)] ⟨rfl, rfl, rfl, rfl, trivial⟩ ?_ ?_ rfl rfl ⟨HMS.left, fun z hz => hz, HMS.keys, LO, HMO, cut_init⟩ ?_
      · repeat' (first | exact trivial | apply And.intro | exact ⟨_, rfl, rfl⟩ | exact ⟨_, rfl, Z.Imp.refl _⟩ | exact ⟨_, rfl, Z.Imp.nilg _⟩ | exact ⟨_, rfl, Z.Imp.nilr _ _⟩)
      · repeat' (first | exact trivial | (intro b hb; cases hb; done) | exact (fun b hb => ⟨b, hb, Z.ImpO.refl b⟩) | (intro b hb; cases hb; refine ⟨_, rfl, ⟨rfl, rfl, rfl⟩, ?_⟩; (repeat' (first | exact trivial | apply And.intro | exact Z.Imp.refl _ | exact Z.Imp.nilg _ | exact Z.Imp.nilr _ _)); done) | apply And.intro)
      rintro ⟨seen, r, esO2⟩ HINV
      dsimp only at HINV ⊢
      obtain ⟨HR, HY, HRN, LO2, HMO, HL⟩ := HINV
      repeat' ((conv => whnf); first
        | with_reducible first | refine spB_t ?_
        | with_reducible first | refine spB_yes (by decide) ?_ | refine spB_no (by decide) ?_ | refine spB_f ?_ | refine spB_not ?_ | refine spB_yes (by assumption) ?_ | refine spB_no (by assumption) ?_
        | (with_reducible refine spB_beq ?_ ?_ <;> intro _ <;> (try (exfalso; first | contradiction | omega | (rename_i hz; refine hz ?_; simp; done) | (simp only [LN] at *; omega))))
        | (with_reducible refine spB_mk ?_ ?_ <;> intro _ <;> (try (exfalso; first | contradiction | omega | (rename_i hz; refine hz ?_; simp; done) | (simp only [LN] at *; omega))))
        | ((with_reducible refine Z.MapL.next HMS ?_ ?_ HR ?_ ?_); (focus rfl); (focus rfl); (focus (intro hr0; skip)); rotate_left; (focus (intro y9 b9 r9 hp9 hl9 hm9; have vO := cut_same (z := y9) (hp9.mem_iff.2 (by simp)) HL)))
        | ((with_reducible refine Z.MapL.entry HMS hm9 (s := seen) ?_ ?_ ?_); (focus rfl); (focus (exact rfl)))
        | ((with_reducible refine look_is HMO vO ?_ ?_); (focus rfl); (intro okk))
        | ((with_reducible refine Z.MapL.upd' HMO (v := ((Z.lookK LO y9.1).getD false || touch o.fr y9.2)) ?_ ?_); (focus (show A0.one (Ce.v (Value.bool _)) = A0.one (Ce.v (Value.bool _)); refine congrArg (fun z => A0.one (Ce.v (Value.bool z))) ?_; unfold touch; cases h1 : (Z.lookK LO y9.1).getD false <;> by_cases h2 : y9.2.fr = o.fr <;> first | (exfalso; simp_all; done) | (rw [decide_eq_false h2]; rfl) | (rw [decide_eq_true h2]; rfl) | rfl)); (intro esHMO HMO))
        | (focus (exact (rfl : Nat.ble _ _ = true))))
      all_goals (try (conv => whnf))
      all_goals try (show Nat.ble _ _ = true; rfl)
      all_goals try ((refine Z.rndK ((seen ++ [b9], r9, esHMO)) (fun s => [0, 1, 2, 3, 4, 5]) rfl rfl rfl rfl ?_ ?_ ?_ ?_); (focus (repeat' (first | exact trivial | exact Z.map_sub (Z.MapL.ren HMS fun _ => rfl) rfl | exact Z.map_sub (Z.MapL.ren HMO fun _ => rfl) rfl | exact Z.it_sub rfl | exact rfl | (rw [List.map_append]; exact rfl) | apply And.intro))); (focus (repeat' (first | exact trivial | exact Z.map_sub (Z.MapL.ren HMS fun _ => rfl) rfl | exact Z.map_sub (Z.MapL.ren HMO fun _ => rfl) rfl | exact Z.it_sub rfl | (intro b hb; cases hb; rfl) | (intro b hb; cases hb; subst hlb; rfl) | (intro b hb; cases hb; rw [List.map_append]; rfl) | (intro b hb; cases hb; done) | exact Z.blk_sub rfl rfl (ren_map fun _ => rfl) | exact Z.blk_sub rfl rfl (Z.ren_app (ren_map fun _ => rfl) (ren_map fun _ => rfl)) | exact Z.blk_sub rfl (by first | (rw [List.map_append]; rfl) | (rw [List.map_set]; rfl) | simp only [List.map_append, List.map_cons, List.map_nil, List.map_set]) (ren_map fun _ => rfl) | exact Z.gB_sub rfl rfl (ren_map fun _ => rfl) | exact Z.gB_sub' rfl (by first | rfl | (rw [List.map_append]; rfl) | simp only [List.map_append, List.map_cons, List.map_nil]) (ren_map fun _ => rfl) | apply And.intro))); (focus (exact ⟨hl9, fun z hz => HY z (hp9.mem_iff.2 (List.mem_cons_of_mem _ hz)), by have h8 := (hp9.map (·.1)).nodup_iff.1 HRN; rw [List.map_cons, List.nodup_cons] at h8; exact h8.2, _, HMO, cut_step HMS.keys (HY y9 (hp9.mem_iff.2 (by simp))) hp9 HRN HL rfl⟩)); (have h8 := hp9.length_eq; simp only [List.length_cons] at h8; (try dsimp only); omega))
      all_goals try (exfalso; rename_i hz; cases hz; done)
      all_goals try (exfalso; (try simp only [LN] at *) <;> omega)
      have hr1 : r = [] := by assumption
      rw [hr1] at HL
      have HN2 : NI sent (keepL o.fr ps) LS LO2 := HN.cut fun y => (HL y).trans (if_neg (by simp))
      have ck := check_t sent (keepL o.fr ps) (by have := (okN_60 HN2.ok).1; omega) HN2.ok
      have hl62 := (okN_60 HN2.ok).1
      have hlf := HN2.left HMS.keys
      refine Z.loopK tabOk (fun zq : List Nat × List (Int × Ot) × Int => [(14, .val (.int .i64 zq.2.2))]) (fun zq : List Nat × List (Int × Ot) × Int => ([(6, some (Z.Ob.i ⟨1, esS.c, zq.1, esS.c⟩))] : Z.Kr)) (fun zq => Z.LeftL .u64 enO esS zq.1 zq.2.1 ∧ zq.2.2 = (((keepL o.fr ps)).length : Int) - (leftN LO2 zq.2.1 : Int) ∧ 0 ≤ zq.2.2) (fun zq => zq.2.1.length) ([], LS, 0) 7 [(3, _), (4, _), (5, _), (20, _), (21, _), (22, _), (146, _)] ⟨rfl, rfl, rfl, rfl, rfl, rfl, rfl, trivial⟩ [(0, some _), (1, some _), (2, some _), (3, some _), (4, some _), (5, some _)] ⟨rfl, rfl, rfl, rfl, rfl, rfl, trivial⟩ ?_ ?_ rfl rfl ⟨HMS.left, (by (try dsimp only); rw [hlf]; simp), Int.le_refl 0⟩ ?_
      · repeat' (first | exact trivial | apply And.intro | exact ⟨_, rfl, rfl⟩ | exact ⟨_, rfl, Z.Imp.refl _⟩ | exact ⟨_, rfl, Z.Imp.nilg _⟩ | exact ⟨_, rfl, Z.Imp.nilr _ _⟩)
      · repeat' (first | exact trivial | (intro b hb; cases hb; done) | exact (fun b hb => ⟨b, hb, Z.ImpO.refl b⟩) | (intro b hb; cases hb; refine ⟨_, rfl, ⟨rfl, rfl, rfl⟩, ?_⟩; (repeat' (first | exact trivial | apply And.intro | exact Z.Imp.refl _ | exact Z.Imp.nilg _ | exact Z.Imp.nilr _ _)); done) | apply And.intro)
      rintro ⟨seen, r, lc⟩ HINV
      dsimp only at HINV ⊢
      obtain ⟨HR, HC, HC0⟩ := HINV
      repeat' ((conv => whnf); first
        | with_reducible first | refine spB_t ?_
        | ((with_reducible apply spB_cong); (focus (simp only [beq_self_eq_true, bne_self_eq_false, Bool.true_bne, Bool.false_bne, Bool.bne_true, Bool.bne_false, Bool.true_beq, Bool.false_beq, Bool.not_true, Bool.not_false, Bool.not_not, Int.reduceBEq, Int.reduceBNe, Int.reduceLE, Int.reduceLT, Int.reduceEq, decide_true, decide_false]; rfl)))
        | with_reducible first | refine spB_yes (by decide) ?_ | refine spB_no (by decide) ?_ | refine spB_f ?_ | refine spB_not ?_ | refine spB_yes (by assumption) ?_ | refine spB_no (by assumption) ?_
        | (with_reducible refine spB_bne ?_ ?_ <;> intro _ <;> (try (exfalso; first | contradiction | omega | (rename_i hz; refine hz ?_; simp; done) | (simp only [LN] at *; omega))))
        | (with_reducible refine spB_mk ?_ ?_ <;> intro _ <;> (try (exfalso; first | contradiction | omega | (rename_i hz; refine hz ?_; simp; done) | (simp only [LN] at *; omega))))
        | ((with_reducible refine Z.MapL.next HMS ?_ ?_ HR ?_ ?_); (focus rfl); (focus rfl); (focus (intro hr0; have hlc : lc = (((keepL o.fr ps)).length : Int) := by rw [HC, hr0]; simp [leftN])); rotate_left; (focus (intro y9 b9 r9 hp9 hl9 hm9; have hst := left_step (LO := LO2) hp9)))
        | ((with_reducible refine Z.MapL.entry HMS hm9 (s := seen) ?_ ?_ ?_); (focus rfl); (focus (exact rfl)))
        | ((with_reducible refine Z.MapL.look HMO (z0 := false) ?_ ?_); (focus rfl))
        | with_reducible refine wr_i64 (by first | omega | (simp only [LN] at *; omega)) ?_
        | ((first | (with_reducible refine Z.conZ_mz ?_ (ck) ?_) | (with_reducible refine Z.callZ_mk ?_ (ck) ?_)); (focus ((repeat' (first | exact trivial | exact rfl | exact Z.low_nil | exact Z.low_nil2 | exact low_osl (fun _ => rfl) | (refine Z.low_osln ?_ (fun _ => rfl); (simp only [List.length_map]; done)) | exact low_oslr (fun _ => rfl) | exact Z.low_gslm (by first | rfl | exact Z.kb_some rfl) (fun _ => rfl) | exact .inl rfl | exact .inr ⟨_, rfl⟩ | apply And.intro)); done)))
        | (focus (exact (rfl : Nat.ble _ _ = true))))
      all_goals (try (conv => whnf))
      all_goals try (show Nat.ble _ _ = true; rfl)
      all_goals first
        | ((refine Z.rndK ((seen ++ [b9], r9, lc + 1)) (fun s => [0, 1, 2, 3, 4, 5, 6]) rfl rfl rfl rfl ?_ ?_ ?_ ?_); (focus (repeat' (first | exact trivial | exact Z.map_sub (Z.MapL.ren HMS fun _ => rfl) rfl | exact Z.map_sub (Z.MapL.ren HMO fun _ => rfl) rfl | exact Z.it_sub rfl | exact rfl | (rw [List.map_append]; exact rfl) | apply And.intro))); (focus (repeat' (first | exact trivial | exact Z.map_sub (Z.MapL.ren HMS fun _ => rfl) rfl | exact Z.map_sub (Z.MapL.ren HMO fun _ => rfl) rfl | exact Z.it_sub rfl | (intro b hb; cases hb; rfl) | (intro b hb; cases hb; subst hlb; rfl) | (intro b hb; cases hb; rw [List.map_append]; rfl) | (intro b hb; cases hb; done) | exact Z.blk_sub rfl rfl (ren_map fun _ => rfl) | exact Z.blk_sub rfl rfl (Z.ren_app (ren_map fun _ => rfl) (ren_map fun _ => rfl)) | exact Z.blk_sub rfl (by first | (rw [List.map_append]; rfl) | (rw [List.map_set]; rfl) | simp only [List.map_append, List.map_cons, List.map_nil, List.map_set]) (ren_map fun _ => rfl) | exact Z.gB_sub rfl rfl (ren_map fun _ => rfl) | exact Z.gB_sub' rfl (by first | rfl | (rw [List.map_append]; rfl) | simp only [List.map_append, List.map_cons, List.map_nil]) (ren_map fun _ => rfl) | apply And.intro))); (focus (refine ⟨hl9, ?_, by (try dsimp only); omega⟩; (try dsimp only); (have hv9 : (Z.lookK LO2 y9.1).getD false = false := by first | assumption | exact Bool.eq_false_iff.2 (by assumption) | simp_all); rw [hv9] at hst; simp only [Bool.false_eq_true, if_false] at hst; omega)); (have h8 := hp9.length_eq; simp only [List.length_cons] at h8; (try dsimp only); omega))
        | ((refine Z.rndK ((seen ++ [b9], r9, lc)) (fun s => [0, 1, 2, 3, 4, 5, 6]) rfl rfl rfl rfl ?_ ?_ ?_ ?_); (focus (repeat' (first | exact trivial | exact Z.map_sub (Z.MapL.ren HMS fun _ => rfl) rfl | exact Z.map_sub (Z.MapL.ren HMO fun _ => rfl) rfl | exact Z.it_sub rfl | exact rfl | (rw [List.map_append]; exact rfl) | apply And.intro))); (focus (repeat' (first | exact trivial | exact Z.map_sub (Z.MapL.ren HMS fun _ => rfl) rfl | exact Z.map_sub (Z.MapL.ren HMO fun _ => rfl) rfl | exact Z.it_sub rfl | (intro b hb; cases hb; rfl) | (intro b hb; cases hb; subst hlb; rfl) | (intro b hb; cases hb; rw [List.map_append]; rfl) | (intro b hb; cases hb; done) | exact Z.blk_sub rfl rfl (ren_map fun _ => rfl) | exact Z.blk_sub rfl rfl (Z.ren_app (ren_map fun _ => rfl) (ren_map fun _ => rfl)) | exact Z.blk_sub rfl (by first | (rw [List.map_append]; rfl) | (rw [List.map_set]; rfl) | simp only [List.map_append, List.map_cons, List.map_nil, List.map_set]) (ren_map fun _ => rfl) | exact Z.gB_sub rfl rfl (ren_map fun _ => rfl) | exact Z.gB_sub' rfl (by first | rfl | (rw [List.map_append]; rfl) | simp only [List.map_append, List.map_cons, List.map_nil]) (ren_map fun _ => rfl) | apply And.intro))); (focus (refine ⟨hl9, ?_, HC0⟩; (try dsimp only); (have hv9 : (Z.lookK LO2 y9.1).getD false = true := by first | assumption | exact Bool.eq_false_iff.2 (by assumption) | simp_all); rw [hv9] at hst; simp only [if_true] at hst; omega)); (have h8 := hp9.length_eq; simp only [List.length_cons] at h8; (try dsimp only); omega))
        | ((refine Z.rndK ((i + 1, sent, (keepL o.fr ps), esS, esO2)) (fun s => [0, 1, 2]) rfl rfl rfl rfl ?_ ?_ ?_ ?_); (focus (repeat' (first | exact trivial | exact Z.map_sub (Z.MapL.ren HMS fun _ => rfl) rfl | exact Z.map_sub (Z.MapL.ren HMO fun _ => rfl) rfl | exact Z.it_sub rfl | exact rfl | (rw [List.map_append]; exact rfl) | apply And.intro))); (focus (repeat' (first | exact trivial | exact Z.map_sub (Z.MapL.ren HMS fun _ => rfl) rfl | exact Z.map_sub (Z.MapL.ren HMO fun _ => rfl) rfl | exact Z.it_sub rfl | (intro b hb; cases hb; rfl) | (intro b hb; cases hb; subst hlb; rfl) | (intro b hb; cases hb; rw [List.map_append]; rfl) | (intro b hb; cases hb; done) | exact Z.blk_sub rfl rfl (ren_map fun _ => rfl) | exact Z.blk_sub rfl rfl (Z.ren_app (ren_map fun _ => rfl) (ren_map fun _ => rfl)) | exact Z.blk_sub rfl (by first | (rw [List.map_append]; rfl) | (rw [List.map_set]; rfl) | simp only [List.map_append, List.map_cons, List.map_nil, List.map_set]) (ren_map fun _ => rfl) | exact Z.gB_sub rfl rfl (ren_map fun _ => rfl) | exact Z.gB_sub' rfl (by first | rfl | (rw [List.map_append]; rfl) | simp only [List.map_append, List.map_cons, List.map_nil]) (ren_map fun _ => rfl) | apply And.intro))); (focus (exact ⟨by dsimp only; omega, by dsimp only; omega, LS, LO2, HMS, HMO, HN2⟩)); ((try dsimp only); omega))
        | (exfalso; rename_i hz; cases hz; done)
        | (exfalso; (try simp only [LN] at *) <;> omega)
        | (exfalso; first | contradiction | omega | (rename_i hz; refine hz ?_; simp; done) | (simp only [LN] at *; omega))
        | (exfalso; simp_all; done)
        | (fail))

end Go.Proofs.Ytaafippakgofiaa
namespace Go.Proofs.Ytaafippakgofiaa
open Go Go.RowKit Wx
set_option linter.unusedVariables false
set_option linter.unusedSimpArgs false
set_option maxHeartbeats 4000000
def okOt (x : Ot) : Prop := (Lit.int .i64 x.kd).wf = true ∧ (Lit.int .i64 x.fr).wf = true ∧ (Lit.int .i64 x.to).wf = true ∧ (Lit.int .i64 x.at0).wf = true ∧ (x.bs.length ≤ maxLen ∧ ∀ z ∈ x.bs, (Lit.int .u8 z).wf = true) ∧ True
theorem rowOt (row : List RT) (h : RowF (.st (.cons 3 1 (.int .i64) (.cons 3 1 (.int .i64) (.cons 3 1 (.int .i64) (.cons 3 1 (.int .i64) (.cons 4 1 .bool (.cons 4 1 .bool (.cons 43 1 (.sl (.int .u8) 5 1) .nil)))))))) row) : ∃ x, row = eOt x ∧ okOt x := by
  obtain ⟨a0, r0, rfl, _, ⟨z0, rfl, w0⟩, a1, r1, rfl, _, ⟨z1, rfl, w1⟩, a2, r2, rfl, _, ⟨z2, rfl, w2⟩, a3, r3, rfl, _, ⟨z3, rfl, w3⟩, a4, r4, rfl, _, ⟨z4, rfl⟩, a5, r5, rfl, _, ⟨z5, rfl⟩, a6, r6, rfl, _, ⟨rows6, rfl, l6, h6⟩, rfl⟩ := h
  obtain ⟨z6, rfl, k6⟩ := rows_map eB (fun z => (Lit.int .u8 z).wf = true) rowNu8 rows6 h6
  exact ⟨⟨z0, z1, z2, z3, z4, z5, z6⟩, rfl, w0, w1, w2, w3, ⟨by simpa using l6, k6⟩, trivial⟩
namespace netSends
theorem main (avs : List A0) (h : All2 FitA [(.sl (.st (.cons 3 1 (.int .i64) (.cons 3 1 (.int .i64) (.cons 3 1 (.int .i64) (.cons 3 1 (.int .i64) (.cons 4 1 .bool (.cons 4 1 .bool (.cons 43 1 (.sl (.int .u8) 5 1) .nil)))))))) 45 7)] avs) : Con Try.prog 4 avs (fun x K t => x = .val (.bool true) ∧ K = [] ∧ t = 0) := by
  obtain ⟨x0, rfl, h0⟩ : ∃ x0, avs = [x0] ∧ FitA (.sl (.st (.cons 3 1 (.int .i64) (.cons 3 1 (.int .i64) (.cons 3 1 (.int .i64) (.cons 3 1 (.int .i64) (.cons 4 1 .bool (.cons 4 1 .bool (.cons 43 1 (.sl (.int .u8) 5 1) .nil)))))))) 45 7) x0 := by
    cases avs with
    | nil => exact h.elim
    | cons x0 r => cases r with
      | nil => exact ⟨x0, rfl, h.1⟩
      | cons => exact h.2.elim
  clear h
  obtain ⟨r0, ⟨rows0, hr0, ll, hrows0⟩, rfl⟩ := h0
  simp only [List.cons.injEq, and_true] at hr0
  subst hr0
  obtain ⟨l, rfl, kl⟩ := rows_map eOt (okOt) rowOt rows0 hrows0
  rw [List.length_map] at ll
  exact netsends_con l (by simpa [maxLen] using ll) (fun o ho => by have := (kl o ho).2.2.2.2.1.1; simpa [maxLen] using this)
end netSends
end Go.Proofs.Ytaafippakgofiaa
