import Derived.Test.YtllnmdmmmkoiaaaLib3
import Derived.Test.YtllnmdmmmkoiaaaLib4
import Derived.Test.YtllnmdmmmkoiaaaLib5
namespace Go.Proofs.Ytllnmdmmmkoiaaa
open Go Go.RowKit Wx
set_option linter.unusedVariables false
set_option linter.unusedSimpArgs false
set_option maxHeartbeats 4000000
structure Wk where
  id : Int
  sl : Int
deriving DecidableEq
structure Pl where
  task : Int
  wk : Int
deriving DecidableEq
abbrev eW (x : Wk) : List RT := [RT.v (.int .i64 x.id), RT.v (.int .i64 x.sl)]
abbrev eL (x : Pl) : List RT := [RT.v (.int .i64 x.task), RT.v (.int .i64 x.wk)]
abbrev cL (x : Pl) : List Ce := [Ce.v (.int .i64 x.task), Ce.v (.int .i64 x.wk)]
abbrev eI (z : Int) : List RT := [RT.v (.int .i64 z)]
abbrev cI (z : Int) : List Ce := [Ce.v (.int .i64 z)]
abbrev enI (z : Int) : A0 := .one (.v (.int .i64 z))
def okW : Int → List Wk → Bool
  | _, [] => true
  | a, w :: l => decide ((1 ≤ w.id ∧ w.id ≤ 4) ∧ (1 ≤ w.sl ∧ w.sl ≤ 8) ∧ a < w.id) && okW w.id l
def okT : Int → List Pl → Bool
  | _, [] => true
  | a, p :: l => decide ((0 ≤ p.task ∧ p.task < 16) ∧ a < p.task) && okT p.task l
def slF : List Wk → Int → Int
  | [], _ => 0
  | w :: l, y => if w.id = y then w.sl else slF l y
def cnt : List Pl → Int → Int
  | [], _ => 0
  | p :: l, y => (if p.wk = y then 1 else 0) + cnt l y
def okC (ws : List Wk) (ps : List Pl) : Bool := (ws.map (·.id) ++ ps.map (·.wk)).all fun y => decide (cnt ps y ≤ slF ws y)
def okF (ws : List Wk) (ps : List Pl) : Bool := okW 0 ws && okT (-1) ps && okC ws ps
def wsrt (ws : List Wk) : Prop := ws.Pairwise fun a b => a.id < b.id
def psrt (ps : List Pl) : Prop := ps.Pairwise fun a b => a.task < b.task
theorem okW_all : ∀ {ws : List Wk} {a : Int}, okW a ws = true ↔ wsrt ws ∧ ∀ w ∈ ws, a < w.id ∧ 1 ≤ w.id ∧ w.id ≤ 4 ∧ 1 ≤ w.sl ∧ w.sl ≤ 8
  | [], a => by simp [okW, wsrt]
  | w :: l, a => by
    simp only [okW, Bool.and_eq_true, decide_eq_true_eq, okW_all (ws := l), wsrt, List.pairwise_cons, List.mem_cons]
    constructor
    · rintro ⟨h1, h2, h3⟩
      refine ⟨⟨fun b hb => (h3 b hb).1, h2⟩, ?_⟩
      rintro b (rfl | hb)
      · omega
      · have := h3 b hb; omega
    · rintro ⟨⟨h1, h2⟩, h3⟩
      refine ⟨?_, h2, fun b hb => ?_⟩
      · have := h3 w (.inl rfl); omega
      · have := h3 b (.inr hb); have := h1 b hb; omega
theorem okT_all : ∀ {ps : List Pl} {a : Int}, okT a ps = true ↔ psrt ps ∧ ∀ p ∈ ps, a < p.task ∧ 0 ≤ p.task ∧ p.task < 16
  | [], a => by simp [okT, psrt]
  | w :: l, a => by
    simp only [okT, Bool.and_eq_true, decide_eq_true_eq, okT_all (ps := l), psrt, List.pairwise_cons, List.mem_cons]
    constructor
    · rintro ⟨h1, h2, h3⟩
      refine ⟨⟨fun b hb => (h3 b hb).1, h2⟩, ?_⟩
      rintro b (rfl | hb)
      · omega
      · have := h3 b hb; omega
    · rintro ⟨⟨h1, h2⟩, h3⟩
      refine ⟨?_, h2, fun b hb => ?_⟩
      · have := h3 w (.inl rfl); omega
      · have := h3 b (.inr hb); have := h1 b hb; omega
theorem srt_len {α : Type} {f : α → Int} : ∀ {l : List α} {a b : Int}, l.Pairwise (fun x y => f x < f y) → (∀ x ∈ l, a < f x ∧ f x < b) → a < b → (l.length : Int) < b - a
  | [], a, b, _, _, h => by simp; omega
  | x :: l, a, b, h, g, hab => by
    rw [List.pairwise_cons] at h
    have hx := g x (by simp)
    have := srt_len (a := f x) (b := b) h.2 (fun y hy => ⟨h.1 y hy, (g y (by simp [hy])).2⟩) hx.2
    simp only [List.length_cons]; omega
theorem okW_len {ws : List Wk} (h : okW 0 ws = true) : ws.length ≤ 4 := by
  obtain ⟨h1, h2⟩ := okW_all.1 h
  have := srt_len (f := Wk.id) (a := 0) (b := 5) h1 (fun w hw => by have := h2 w hw; omega) (by decide)
  omega
theorem okT_len {ps : List Pl} (h : okT (-1) ps = true) : ps.length ≤ 16 := by
  obtain ⟨h1, h2⟩ := okT_all.1 h
  have := srt_len (f := Pl.task) (a := -1) (b := 16) h1 (fun w hw => by have := h2 w hw; omega) (by decide)
  omega
theorem cnt_nn : ∀ {ps : List Pl} {y : Int}, 0 ≤ cnt ps y ∧ cnt ps y ≤ ps.length
  | [], y => by simp [cnt]
  | p :: l, y => by
    have := cnt_nn (ps := l) (y := y)
    simp only [cnt, List.length_cons]; split <;> omega
theorem cnt_pos : ∀ {ps : List Pl} {y : Int}, 0 < cnt ps y → y ∈ ps.map (·.wk)
  | [], y, h => by simp [cnt] at h
  | p :: l, y, h => by
    simp only [cnt] at h
    by_cases hp : p.wk = y
    · simp [hp]
    · rw [if_neg hp] at h
      have := cnt_pos (ps := l) (y := y) (by omega)
      rw [List.map_cons]; exact List.mem_cons_of_mem _ this
theorem cnt_app : ∀ {ps qs : List Pl} {y : Int}, cnt (ps ++ qs) y = cnt ps y + cnt qs y
  | [], qs, y => by simp [cnt]
  | p :: l, qs, y => by simp only [List.cons_append, cnt, cnt_app]; omega
theorem slF_b : ∀ {ws : List Wk} {y : Int}, (∀ w ∈ ws, 1 ≤ w.sl ∧ w.sl ≤ 8) → 0 ≤ slF ws y ∧ slF ws y ≤ 8
  | [], y, _ => by simp [slF]
  | w :: l, y, h => by
    simp only [slF]
    have := h w (by simp)
    have := slF_b (ws := l) (y := y) fun x hx => h x (by simp [hx])
    split <;> omega
theorem okW_sl {ws : List Wk} (h : okW 0 ws = true) (y : Int) : 0 ≤ slF ws y ∧ slF ws y ≤ 8 := slF_b fun w hw => by have := (okW_all.1 h).2 w hw; omega
theorem slF_nn {ws : List Wk} (h : okW 0 ws = true) : ∀ y, 0 ≤ slF ws y := fun y => (okW_sl h y).1
theorem okC_iff {ws : List Wk} {ps : List Pl} (h : okW 0 ws = true) : okC ws ps = true ↔ ∀ y, cnt ps y ≤ slF ws y := by
  unfold okC
  rw [List.all_eq_true]
  constructor
  · intro g y
    by_cases hy : y ∈ ws.map (·.id) ++ ps.map (·.wk)
    · exact of_decide_eq_true (g y hy)
    · have h1 := slF_nn h y
      have h2 := cnt_nn (ps := ps) (y := y)
      by_cases h3 : 0 < cnt ps y
      · exact absurd (List.mem_append_right _ (cnt_pos h3)) hy
      · omega
  · intro g y _
    exact decide_eq_true (g y)
def sumK (L : List (Int × Int)) : Int := (L.map (·.2)).sum
theorem sum_put {k v : Int} : ∀ {L : List (Int × Int)}, sumK (Z.putK L k v) = sumK L - (Z.lookK L k).getD 0 + v
  | [] => by simp [sumK, Z.putK, Z.lookK]
  | (a, w) :: l => by
    simp only [Z.putK, Z.lookK]
    by_cases h : a = k
    · simp only [if_pos h, sumK, List.map_cons, List.sum_cons, Option.getD_some]; omega
    · have := sum_put (k := k) (v := v) (L := l)
      simp only [if_neg h, sumK, List.map_cons, List.sum_cons] at *; omega
def sumW (ws : List Wk) : Int := (ws.map (·.sl)).sum
/-- What a map tells of the workers so far. -/
def mapW (ws : List Wk) : List (Int × Int) := ws.map fun w => (w.id, w.sl)
theorem look_mapW : ∀ {ws : List Wk} {y : Int}, (Z.lookK (mapW ws) y).getD 0 = slF ws y
  | [], y => rfl
  | w :: l, y => by
    simp only [mapW, List.map_cons, Z.lookK, slF]
    split
    · rfl
    · exact look_mapW (ws := l)
theorem sum_mapW {ws : List Wk} : sumK (mapW ws) = sumW ws := by unfold sumK sumW mapW; rw [List.map_map]; rfl
theorem mapW_snoc {ws : List Wk} {i : Nat} {w : Wk} (hs : wsrt ws) (h : ws[i]? = some w) : Z.putK (mapW (ws.take i)) w.id w.sl = mapW (ws.take (i + 1)) := by
  rw [Z.put_new, take_snoc h]
  · unfold mapW; rw [List.map_append]; rfl
  · rw [Z.look_none]
    simp only [mapW, List.map_map, List.mem_map, Function.comp]
    rintro ⟨x, hx, hxe⟩
    obtain ⟨j, hj⟩ := List.getElem?_of_mem hx
    obtain ⟨hjl, hje⟩ := List.getElem?_eq_some_iff.1 hj
    rw [List.length_take] at hjl
    obtain ⟨hi, hie⟩ := List.getElem?_eq_some_iff.1 h
    have := List.pairwise_iff_getElem.1 hs j i (by omega) hi (by omega)
    rw [List.getElem_take] at hje
    rw [hje, hie] at this
    omega
theorem cnt_snoc {ps : List Pl} {j : Nat} {p : Pl} (h : ps[j]? = some p) {y : Int} : cnt (ps.take (j + 1)) y = cnt (ps.take j) y + if p.wk = y then 1 else 0 := by
  rw [take_snoc h, cnt_app]; simp [cnt]
theorem free_step {ws : List Wk} {ps : List Pl} {j : Nat} {p : Pl} {L : List (Int × Int)} {v : Int} (h : ps[j]? = some p) (hL : ∀ y, (Z.lookK L y).getD 0 = slF ws y - cnt (ps.take j) y) (hv : v = (Z.lookK L p.wk).getD 0 - 1) : ∀ y, (Z.lookK (Z.putK L p.wk v) y).getD 0 = slF ws y - cnt (ps.take (j + 1)) y := fun y => by
  rw [Z.look_put, cnt_snoc h]
  by_cases hy : p.wk = y
  · rw [if_pos hy, if_pos hy, ← hy, hv, hL]; simp; omega
  · rw [if_neg hy, if_neg hy, hL]; omega
theorem free_all {ws : List Wk} {ps : List Pl} {L : List (Int × Int)} (hw : okW 0 ws = true) (hL : ∀ y, (Z.lookK L y).getD 0 = slF ws y - cnt ps y) (h : ∀ z ∈ L, 0 ≤ z.2) : okC ws ps = true := by
  refine (okC_iff hw).2 fun y => ?_
  have := hL y
  cases hl : Z.lookK L y with
  | none => rw [hl] at this; simp at this; omega
  | some v =>
    have hm : (y, v) ∈ L := by
      clear hL this h
      induction L with
      | nil => cases hl
      | cons a l ih =>
        obtain ⟨a1, a2⟩ := a
        simp only [Z.lookK] at hl
        split at hl
        · rename_i e; cases hl; subst e; simp
        · exact List.mem_cons_of_mem _ (ih hl)
    have h9 := h _ hm
    rw [hl] at this; simp at this h9; omega
theorem free_not {ws : List Wk} {ps : List Pl} {L : List (Int × Int)} {z : Int × Int} (hw : okW 0 ws = true) (hn : (L.map (·.1)).Nodup) (hL : ∀ y, (Z.lookK L y).getD 0 = slF ws y - cnt ps y) (hz : z ∈ L) (h : z.2 < 0) : okC ws ps = false := by
  refine Bool.eq_false_iff.2 fun g => ?_
  have h1 := (okC_iff hw).1 g z.1
  have h2 := (Z.look_mem hn).2 (show (z.1, z.2) ∈ L from hz)
  have h3 := hL z.1
  rw [h2] at h3
  simp at h3; omega
theorem sum_perm {r s : List (Int × Int)} (h : r.Perm s) : sumK r = sumK s := by
  unfold sumK
  induction h with
  | nil => rfl
  | cons x _ ih => simp only [List.map_cons, List.sum_cons, ih]
  | swap x y l => simp only [List.map_cons, List.sum_cons]; omega
  | trans _ _ a b => exact a.trans b
theorem check_con (ws : List Wk) (ps : List Pl) (hw : ws.length ≤ 9223372036854775807) (hp : ps.length ≤ 9223372036854775807) : Con Try.prog 23 [.agg [.ro false 2 ((ws).map eW), .ro false 2 ((ps).map eL)]] (fun rx rK rt => rx = .val (.int .i64 (bif okF ws ps then 0 else 210)) ∧ rK = [] ∧ rt = 0) := by
  refine Z.con_ofF tabOk 58 Try.f23 _ Try.func23 (by kernel_rfl) rfl rfl rfl rfl ?_
  repeat' ((conv => whnf); first
    | ((with_reducible apply ex_and); exact rfl))
  all_goals (try (conv => whnf))
  all_goals try (show Nat.ble _ _ = true; rfl)
  refine Z.loopK tabOk (fun zq : Nat × Int => [(13, .val (.int .i64 (zq.1 : Int))), (3, .val (.int .i64 zq.2))]) (fun zq : Nat × Int => ([] : Z.Kr)) (fun zq => zq.1 ≤ ws.length ∧ okW 0 ws = okW zq.2 (ws.drop zq.1)) (fun zq => ws.length - zq.1) (0, 0) 1 [(1, _), (11, _), (12, _)] ⟨rfl, rfl, rfl, trivial⟩ [(0, some _)] ⟨rfl, trivial⟩ ?_ ?_ rfl rfl ⟨Nat.zero_le _, rfl⟩ ?_
  · repeat' (first | exact trivial | apply And.intro | exact ⟨_, rfl, Z.Imp.refl _⟩)
  · repeat' (first | exact trivial)
  rintro ⟨i, a⟩ HINV
  dsimp only at HINV ⊢
  obtain ⟨HI, HO⟩ := HINV
  by_cases hi : i < ws.length
  · obtain ⟨w, hx⟩ := getElem?_some' (xs := ws) (i := i) hi
    repeat' ((conv => whnf); first
      | with_reducible first | refine spB_t ?_
      | ((with_reducible apply spB_cong); (focus (simp only [beq_self_eq_true, bne_self_eq_false, Bool.true_bne, Bool.false_bne, Bool.bne_true, Bool.bne_false, Bool.true_beq, Bool.false_beq, Bool.not_true, Bool.not_false, Bool.not_not, Int.reduceBEq, Int.reduceBNe, Int.reduceLE, Int.reduceLT, Int.reduceEq, decide_true, decide_false]; rfl)))
      | with_reducible first | refine spB_no (by decide) ?_ | refine spB_not ?_
      | (with_reducible refine spB_dec ?_ ?_ <;> intro _ <;> (try (exfalso; first | contradiction | omega | (rename_i hz; refine hz ?_; simp; done) | (simp only [LN] at *; omega))))
      | with_reducible first | refine Z.rowN_known hx ?_
      | ((with_reducible apply ixN_litp); (focus (exact rfl)); (focus ((try simp only [LN] at *) <;> omega)))
      | with_reducible refine wr_i64 (by first | omega | (simp only [LN] at *; omega)) ?_
      | with_reducible first | refine Z.callZ_in tabOk 21 Try.f33 _ Try.func33 (by kernel_rfl) rfl rfl rfl ?_
      | ((with_reducible apply ex_and); exact rfl))
    all_goals (try (conv => whnf))
    all_goals try (show Nat.ble _ _ = true; rfl)
    all_goals first
      | ((refine Z.rndK ((i + 1, w.id)) (fun s => [0]) rfl rfl rfl rfl ?_ ?_ ?_ ?_); (focus (repeat' (first | exact trivial | exact rfl | apply And.intro))); (focus (repeat' (first | exact trivial | (intro b hb; cases hb; rfl) | apply And.intro))); (focus (refine ⟨by dsimp only; omega, ?_⟩; (try dsimp only); rw [HO, drop_cons hx, okW, decide_eq_true (p := (1 ≤ w.id ∧ w.id ≤ 4) ∧ (1 ≤ w.sl ∧ w.sl ≤ 8) ∧ a < w.id) (by omega), Bool.true_and])); ((try dsimp only); omega))
      | ((first | (with_reducible apply Z.retF1)); (focus (exact rfl)); (repeat' (first | exact trivial | (with_reducible apply Z.frz_one) | (with_reducible apply Z.fq_int) | apply And.intro)); (all_goals (try exact (fun _ => none))); all_goals ((have hf : okF ws ps = false := by unfold okF; rw [HO, drop_cons hx, okW, decide_eq_false (p := (1 ≤ w.id ∧ w.id ≤ 4) ∧ (1 ≤ w.sl ∧ w.sl ≤ 8) ∧ a < w.id) (by omega)]; rfl); rw [hf]; rfl))
  have hkw : okW 0 ws = true := by rw [HO, drop_end hi]; rfl
  have hwl := okW_len hkw
  have hsw := (okW_all.1 hkw).1
  repeat' ((conv => whnf); first
    | (with_reducible refine spB_dec ?_ ?_ <;> intro _ <;> (try (exfalso; first | contradiction | omega | (rename_i hz; refine hz ?_; simp; done) | (simp only [LN] at *; omega)))))
  all_goals (try (conv => whnf))
  all_goals try (show Nat.ble _ _ = true; rfl)
  all_goals try (exfalso; (try simp only [LN] at *) <;> omega)
  refine Z.loopK tabOk (fun zq : Nat × Int => [(32, .val (.int .i64 (zq.1 : Int))), (3, .val (.int .i64 zq.2))]) (fun zq : Nat × Int => ([] : Z.Kr)) (fun zq => zq.1 ≤ ps.length ∧ okT (-1) ps = okT zq.2 (ps.drop zq.1)) (fun zq => ps.length - zq.1) (0, -1) 1 [(1, _), (30, _), (31, _)] ⟨rfl, rfl, rfl, trivial⟩ [(0, some _)] ⟨rfl, trivial⟩ ?_ ?_ rfl rfl ⟨Nat.zero_le _, rfl⟩ ?_
  · repeat' (first | exact trivial | apply And.intro | exact ⟨_, rfl, Z.Imp.refl _⟩)
  · repeat' (first | exact trivial)
  rintro ⟨i1, a⟩ HINV
  dsimp only at HINV ⊢
  obtain ⟨HI1, HO1⟩ := HINV
  by_cases hi1 : i1 < ps.length
  · obtain ⟨q, hx⟩ := getElem?_some' (xs := ps) (i := i1) hi1
    repeat' ((conv => whnf); first
      | with_reducible first | refine spB_t ?_
      | ((with_reducible apply spB_cong); (focus (simp only [beq_self_eq_true, bne_self_eq_false, Bool.true_bne, Bool.false_bne, Bool.bne_true, Bool.bne_false, Bool.true_beq, Bool.false_beq, Bool.not_true, Bool.not_false, Bool.not_not, Int.reduceBEq, Int.reduceBNe, Int.reduceLE, Int.reduceLT, Int.reduceEq, decide_true, decide_false]; rfl)))
      | with_reducible first | refine spB_no (by decide) ?_ | refine spB_not ?_
      | (with_reducible refine spB_dec ?_ ?_ <;> intro _ <;> (try (exfalso; first | contradiction | omega | (rename_i hz; refine hz ?_; simp; done) | (simp only [LN] at *; omega))))
      | with_reducible first | refine Z.rowN_known hx ?_
      | ((with_reducible apply ixN_litp); (focus (exact rfl)); (focus ((try simp only [LN] at *) <;> omega)))
      | with_reducible refine wr_i64 (by first | omega | (simp only [LN] at *; omega)) ?_
      | with_reducible first | refine Z.callZ_in tabOk 9 Try.f56 _ Try.func56 (by kernel_rfl) rfl rfl rfl ?_
      | ((with_reducible apply ex_and); exact rfl))
    all_goals (try (conv => whnf))
    all_goals try (show Nat.ble _ _ = true; rfl)
    all_goals first
      | ((refine Z.rndK ((i1 + 1, q.task)) (fun s => [0]) rfl rfl rfl rfl ?_ ?_ ?_ ?_); (focus (repeat' (first | exact trivial | exact rfl | apply And.intro))); (focus (repeat' (first | exact trivial | (intro b hb; cases hb; rfl) | apply And.intro))); (focus (refine ⟨by dsimp only; omega, ?_⟩; (try dsimp only); rw [HO1, drop_cons hx, okT, decide_eq_true (p := (0 ≤ q.task ∧ q.task < 16) ∧ a < q.task) (by omega), Bool.true_and])); ((try dsimp only); omega))
      | ((first | (with_reducible apply Z.retF1)); (focus (exact rfl)); (repeat' (first | exact trivial | (with_reducible apply Z.frz_one) | (with_reducible apply Z.fq_int) | apply And.intro)); (all_goals (try exact (fun _ => none))); all_goals ((have hf : okF ws ps = false := by unfold okF; rw [HO1, drop_cons hx, okT, decide_eq_false (p := (0 ≤ q.task ∧ q.task < 16) ∧ a < q.task) (by omega), Bool.false_and, Bool.and_false]; rfl); rw [hf]; rfl))
  have hkp : okT (-1) ps = true := by rw [HO1, drop_end hi1]; rfl
  have hpl := okT_len hkp
  repeat' ((conv => whnf); first
    | (with_reducible refine spB_dec ?_ ?_ <;> intro _ <;> (try (exfalso; first | contradiction | omega | (rename_i hz; refine hz ?_; simp; done) | (simp only [LN] at *; omega))))
    | with_reducible first | refine Z.callZ_in tabOk 36 Try.f47 _ Try.func47 (by kernel_rfl) rfl rfl rfl ?_)
  all_goals (try (conv => whnf))
  all_goals try (show Nat.ble _ _ = true; rfl)
  all_goals try (exfalso; (try simp only [LN] at *) <;> omega)
  refine Z.loopK tabOk (fun zq : Nat × Y.MS => [(12, .val (.int .i64 (zq.1 : Int)))]) (fun zq : Nat × Y.MS => ([(2, some (Z.Ob.m zq.2))] : Z.Kr)) (fun zq => zq.1 ≤ ws.length ∧ Z.MapL .i64 enI zq.2 (mapW (ws.take zq.1))) (fun zq => ws.length - zq.1) (0, ⟨[], 0⟩) 3 [(1, _), (3, _), (10, _), (11, _)] ⟨rfl, rfl, rfl, rfl, trivial⟩ [(0, some _), (1, some _)] ⟨rfl, rfl, trivial⟩ ?_ ?_ rfl rfl ⟨Nat.zero_le _, Z.MapL.nil⟩ ?_
  · repeat' (first | exact trivial | apply And.intro | exact ⟨_, rfl, Z.Imp.refl _⟩)
  · repeat' (first | exact trivial | exact (fun b hb => ⟨b, hb, Z.ImpO.refl b⟩) | apply And.intro)
  rintro ⟨i2, es⟩ HINV
  dsimp only at HINV ⊢
  obtain ⟨HI2, HM⟩ := HINV
  by_cases hi2 : i2 < ws.length
  · obtain ⟨w, hx⟩ := getElem?_some' (xs := ws) (i := i2) hi2
    repeat' ((conv => whnf); first
      | (with_reducible refine spB_dec ?_ ?_ <;> intro _ <;> (try (exfalso; first | contradiction | omega | (rename_i hz; refine hz ?_; simp; done) | (simp only [LN] at *; omega))))
      | with_reducible first | refine Z.rowN_known hx ?_
      | ((with_reducible refine Z.MapL.upd' HM (v := w.sl) ?_ ?_); (focus rfl); (intro es3 HM))
      | ((with_reducible apply ixN_litp); (focus (exact rfl)); (focus ((try simp only [LN] at *) <;> omega)))
      | with_reducible refine wr_i64 (by first | omega | (simp only [LN] at *; omega)) ?_)
    all_goals (try (conv => whnf))
    all_goals try (show Nat.ble _ _ = true; rfl)
    all_goals first
      | ((refine Z.rndK ((i2 + 1, es3)) (fun s => [0, 1, 2]) rfl rfl rfl rfl ?_ ?_ ?_ ?_); (focus (repeat' (first | exact trivial | exact rfl | apply And.intro))); (focus (repeat' (first | exact trivial | exact Z.map_sub (Z.MapL.ren HM fun _ => rfl) rfl | (intro b hb; cases hb; rfl) | apply And.intro))); (focus (refine ⟨by dsimp only; omega, ?_⟩; (try dsimp only); rw [← mapW_snoc hsw hx]; exact HM)); ((try dsimp only); omega))
  have hw9 := take_end hi2
  rw [hw9] at HM
  repeat' ((conv => whnf); first
    | (with_reducible refine spB_dec ?_ ?_ <;> intro _ <;> (try (exfalso; first | contradiction | omega | (rename_i hz; refine hz ?_; simp; done) | (simp only [LN] at *; omega)))))
  all_goals (try (conv => whnf))
  all_goals try (show Nat.ble _ _ = true; rfl)
  all_goals try (exfalso; (try simp only [LN] at *) <;> omega)
  refine Z.loopK tabOk (fun zq : Nat × Y.MS => [(25, .val (.int .i64 (zq.1 : Int)))]) (fun zq : Nat × Y.MS => ([(2, some (Z.Ob.m zq.2))] : Z.Kr)) (fun zq => zq.1 ≤ ps.length ∧ ∃ L, Z.MapL .i64 enI zq.2 L ∧ (∀ y, (Z.lookK L y).getD 0 = slF ws y - cnt (ps.take zq.1) y) ∧ sumK L = sumW ws - (zq.1 : Int)) (fun zq => ps.length - zq.1) (0, es) 3 [(3, _), (23, _), (24, _)] ⟨rfl, rfl, rfl, trivial⟩ [(0, some _), (1, some _)] ⟨rfl, rfl, trivial⟩ ?_ ?_ rfl rfl ⟨Nat.zero_le _, _, HM, fun y => by rw [look_mapW]; simp [cnt], by rw [sum_mapW]; simp⟩ ?_
  · repeat' (first | exact trivial | apply And.intro | exact ⟨_, rfl, Z.Imp.refl _⟩)
  · repeat' (first | exact trivial | exact (fun b hb => ⟨b, hb, Z.ImpO.refl b⟩) | apply And.intro)
  rintro ⟨j2, es⟩ HINV
  dsimp only at HINV ⊢
  obtain ⟨HJ2, L, HM, HL, HS⟩ := HINV
  by_cases hj2 : j2 < ps.length
  · obtain ⟨q, hx⟩ := getElem?_some' (xs := ps) (i := j2) hj2
    have hv1 := HL q.wk
    have hv2 := okW_sl hkw q.wk
    have hv3 := cnt_nn (ps := ps.take j2) (y := q.wk)
    have hv4 : (ps.take j2).length ≤ 16 := by rw [List.length_take]; omega
    have hsp := sum_put (L := L) (k := q.wk) (v := (Z.lookK L q.wk).getD 0 - 1)
    repeat' ((conv => whnf); first
      | (with_reducible refine spB_dec ?_ ?_ <;> intro _ <;> (try (exfalso; first | contradiction | omega | (rename_i hz; refine hz ?_; simp; done) | (simp only [LN] at *; omega))))
      | with_reducible first | refine Z.rowN_known hx ?_
      | ((with_reducible refine Z.MapL.look HM (z0 := (0 : Int)) ?_ ?_); (focus rfl))
      | ((with_reducible refine Z.MapL.upd' HM (v := (Z.lookK L q.wk).getD 0 - 1) ?_ ?_); (focus rfl); (intro es3 HM))
      | ((with_reducible apply ixN_litp); (focus (exact rfl)); (focus ((try simp only [LN] at *) <;> omega)))
      | with_reducible refine wr_i64 (by first | omega | (simp only [LN] at *; omega)) ?_)
    all_goals (try (conv => whnf))
    all_goals try (show Nat.ble _ _ = true; rfl)
    all_goals first
      | ((refine Z.rndK ((j2 + 1, es3)) (fun s => [0, 1, 2]) rfl rfl rfl rfl ?_ ?_ ?_ ?_); (focus (repeat' (first | exact trivial | exact rfl | apply And.intro))); (focus (repeat' (first | exact trivial | exact Z.map_sub (Z.MapL.ren HM fun _ => rfl) rfl | (intro b hb; cases hb; rfl) | apply And.intro))); (focus (refine ⟨by dsimp only; omega, _, HM, free_step hx HL rfl, ?_⟩; (try dsimp only); omega)); ((try dsimp only); omega))
  have hp9 := take_end hj2
  rw [hp9] at HL
  have hjl : j2 = ps.length := by omega
  subst hjl
  repeat' ((conv => whnf); first
    | (with_reducible refine spB_dec ?_ ?_ <;> intro _ <;> (try (exfalso; first | contradiction | omega | (rename_i hz; refine hz ?_; simp; done) | (simp only [LN] at *; omega))))
    | ((with_reducible apply ex_and); exact rfl))
  all_goals (try (conv => whnf))
  all_goals try (show Nat.ble _ _ = true; rfl)
  all_goals try (exfalso; (try simp only [LN] at *) <;> omega)
  refine Z.loopK tabOk (fun zq : List Nat × List (Int × Int) => []) (fun zq : List Nat × List (Int × Int) => ([(3, some (Z.Ob.i ⟨2, es.c, zq.1, es.c⟩))] : Z.Kr)) (fun zq => Z.LeftL .i64 enI es zq.1 zq.2 ∧ (∀ z ∈ L, z ∈ zq.2 ∨ 0 ≤ z.2) ∧ ∀ z ∈ zq.2, z ∈ L) (fun zq => zq.2.length) ([], L) 4 [(51, _)] ⟨rfl, trivial⟩ [(0, some _), (1, some _), (2, some _)] ⟨rfl, rfl, rfl, trivial⟩ ?_ ?_ rfl rfl ⟨HM.left, fun z hz => .inl hz, fun z hz => hz⟩ ?_
  · repeat' (first | exact trivial)
  · repeat' (first | exact trivial | exact (fun b hb => ⟨b, hb, Z.ImpO.refl b⟩) | apply And.intro)
  rintro ⟨seen, r⟩ HINV
  dsimp only at HINV ⊢
  obtain ⟨HR, HZ, HY⟩ := HINV
  repeat' ((conv => whnf); first
    | with_reducible first | refine spB_t ?_
    | with_reducible first | refine spB_no (by decide) ?_
    | (with_reducible refine spB_dec ?_ ?_ <;> intro _ <;> (try (exfalso; first | contradiction | omega | (rename_i hz; refine hz ?_; simp; done) | (simp only [LN] at *; omega))))
    | ((with_reducible refine Z.MapL.next HM ?_ ?_ HR ?_ ?_); (focus rfl); (focus rfl); (focus intro hr0); rotate_left; (focus intro y9 b9 r9 hp9 hl9 hm9))
    | ((with_reducible refine Z.MapL.entry HM hm9 (s := seen) ?_ ?_ ?_); (focus rfl); (focus (exact rfl))))
  all_goals (try (conv => whnf))
  all_goals try (show Nat.ble _ _ = true; rfl)
  all_goals first
    | ((refine Z.rndK ((seen ++ [b9], r9)) (fun s => [0, 1, 2, 3]) rfl rfl rfl rfl ?_ ?_ ?_ ?_); (focus (repeat' (first | exact trivial | exact rfl | apply And.intro))); (focus (repeat' (first | exact trivial | exact Z.map_sub (Z.MapL.ren HM fun _ => rfl) rfl | exact Z.it_sub rfl | (intro b hb; cases hb; rfl) | apply And.intro))); (focus (refine ⟨hl9, ?_, fun z hz => HY z (hp9.mem_iff.2 (List.mem_cons_of_mem _ hz))⟩; intro z hz; rcases HZ z hz with h1 | h1; (rcases List.mem_cons.1 (hp9.mem_iff.1 h1) with h2 | h2; (right; subst h2; omega); exact .inl h2); exact .inr h1)); (have h8 := hp9.length_eq; simp only [List.length_cons] at h8; (try dsimp only); omega))
    | ((first | (with_reducible apply Z.retF1)); (focus (exact rfl)); (repeat' (first | exact trivial | (with_reducible apply Z.frz_one) | (with_reducible apply Z.fq_int) | apply And.intro)); (all_goals (try exact (fun _ => none))); all_goals (first | (have hf : okF ws ps = true := by unfold okF; rw [hkw, hkp, free_all hkw HL (fun z hz => (HZ z hz).resolve_left (by rw [hr0]; simp))]; rfl); rw [hf]; rfl | (have hf : okF ws ps = false := by unfold okF; rw [free_not hkw HM.keys HL (z := y9) (HY y9 (hp9.mem_iff.2 (by simp))) (by omega), Bool.and_false]); rw [hf]; rfl))

end Go.Proofs.Ytllnmdmmmkoiaaa
namespace Go.Proofs.Ytllnmdmmmkoiaaa
open Go Go.RowKit Wx
set_option linter.unusedVariables false
set_option linter.unusedSimpArgs false
set_option maxHeartbeats 4000000
def atL (ps : List Pl) (y : Int) : List Int := (ps.filter fun p => decide (p.wk = y)).map (·.task)
def whF : List Pl → Int → Int
  | [], _ => 0
  | p :: l, t => if p.task = t then p.wk else whF l t
def idxT (ps : List Pl) (t : Int) : Nat := ps.findIdx fun p => decide (p.task = t)
theorem atL_yes {ps : List Pl} {i : Nat} {x : Pl} {y : Int} (h : ps[i]? = some x) (hd : x.wk = y) : atL (ps.take (i + 1)) y = atL (ps.take i) y ++ [x.task] := by
  rw [take_snoc h]; unfold atL; rw [List.filter_append, List.map_append]; simp [hd]
theorem atL_no {ps : List Pl} {i : Nat} {x : Pl} {y : Int} (h : ps[i]? = some x) (hd : ¬ x.wk = y) : atL (ps.take (i + 1)) y = atL (ps.take i) y := by
  rw [take_snoc h]; unfold atL; rw [List.filter_append, List.map_append]; simp [hd]
theorem atL_le {ps : List Pl} {y : Int} : (atL ps y).length ≤ ps.length := by unfold atL; rw [List.length_map]; exact List.length_filter_le _ _
theorem atL_cnt {y : Int} : ∀ {ps : List Pl}, ((atL ps y).length : Int) = cnt ps y
  | [] => rfl
  | p :: l => by
    have := atL_cnt (y := y) (ps := l)
    unfold atL at this ⊢
    simp only [cnt, List.length_map] at this ⊢
    rw [List.filter_cons]
    by_cases h : p.wk = y
    · simp only [h, decide_true, if_true, List.length_cons]; omega
    · simp only [h, decide_false, Bool.false_eq_true, if_false]; omega
theorem sumW_snoc {ws : List Wk} {i : Nat} {w : Wk} (h : ws[i]? = some w) : sumW (ws.take (i + 1)) = sumW (ws.take i) + w.sl := by
  rw [take_snoc h]; unfold sumW; rw [List.map_append, List.sum_append]; simp
/-- What the document asks of the workers, and of the places, from a place on. -/
def rgW (ps : List Pl) : Int → List Wk → Bool
  | _, [] => true
  | a, w :: l => decide ((1 ≤ w.id ∧ w.id ≤ 4) ∧ (1 ≤ w.sl ∧ w.sl ≤ 8) ∧ a < w.id) && (decide (cnt ps w.id ≤ w.sl) && rgW ps w.id l)
def rgP (ws : List Wk) : Int → List Pl → Bool
  | _, [] => true
  | a, p :: l => decide ((0 ≤ p.task ∧ p.task < 16) ∧ a < p.task) && (decide (slF ws p.wk ≠ 0) && rgP ws p.task l)
theorem rgW_eq {ps : List Pl} : ∀ {l : List Wk} {a : Int}, rgW ps a l = (okW a l && l.all fun w => decide (cnt ps w.id ≤ w.sl))
  | [], _ => rfl
  | w :: l, a => by
    simp only [rgW, okW, List.all_cons, rgW_eq (l := l)]
    cases decide ((1 ≤ w.id ∧ w.id ≤ 4) ∧ (1 ≤ w.sl ∧ w.sl ≤ 8) ∧ a < w.id) <;> cases decide (cnt ps w.id ≤ w.sl) <;> cases okW w.id l <;> simp
theorem rgP_eq {ws : List Wk} : ∀ {l : List Pl} {a : Int}, rgP ws a l = (okT a l && l.all fun p => decide (slF ws p.wk ≠ 0))
  | [], _ => rfl
  | p :: l, a => by
    simp only [rgP, okT, List.all_cons, rgP_eq (l := l)]
    cases decide ((0 ≤ p.task ∧ p.task < 16) ∧ a < p.task) <;> cases decide (slF ws p.wk ≠ 0) <;> cases okT p.task l <;> simp
theorem slF_of : ∀ {ws : List Wk} {w : Wk}, wsrt ws → w ∈ ws → slF ws w.id = w.sl
  | [], _, _, h => by cases h
  | v :: l, w, hs, h => by
    unfold wsrt at hs; rw [List.pairwise_cons] at hs
    unfold slF
    rcases List.mem_cons.1 h with rfl | h
    · rw [if_pos rfl]
    · have := hs.1 w h
      rw [if_neg (by omega)]; exact slF_of hs.2 h
theorem slF_ne {y : Int} : ∀ {ws : List Wk}, slF ws y ≠ 0 → ∃ w ∈ ws, w.id = y
  | [], h => absurd rfl h
  | v :: l, h => by
    unfold slF at h
    by_cases e : v.id = y
    · exact ⟨v, by simp, e⟩
    · rw [if_neg e] at h
      obtain ⟨w, hw, e2⟩ := slF_ne h
      exact ⟨w, List.mem_cons_of_mem _ hw, e2⟩
theorem cnt_mem {p : Pl} : ∀ {ps : List Pl}, p ∈ ps → 1 ≤ cnt ps p.wk
  | [], h => by cases h
  | q :: l, h => by
    unfold cnt
    have h0 := (cnt_nn (ps := l) (y := p.wk)).1
    rcases List.mem_cons.1 h with rfl | h
    · rw [if_pos rfl]; omega
    · have := cnt_mem h
      split <;> omega
/-- The document's floors are the program's. -/
theorem right_eq {ws : List Wk} {ps : List Pl} : (rgW ps 0 ws && rgP ws (-1) ps) = okF ws ps := by
  rw [rgW_eq, rgP_eq]; unfold okF
  cases hw : okW 0 ws with
  | false => rfl
  | true =>
    cases hp : okT (-1) ps with
    | false => simp
    | true =>
      simp only [Bool.true_and]
      rw [Bool.eq_iff_iff, okC_iff hw, Bool.and_eq_true, List.all_eq_true, List.all_eq_true]
      have hs := (okW_all.1 hw).1
      have hsl := (okW_all.1 hw).2
      constructor
      · rintro ⟨h1, h2⟩ y
        by_cases h3 : 0 < cnt ps y
        · obtain ⟨p, hp1, hp2⟩ := List.mem_map.1 (cnt_pos h3)
          have h4 := h2 p hp1
          rw [hp2] at h4
          obtain ⟨w, hw1, hw2⟩ := slF_ne (of_decide_eq_true h4)
          have h5 := of_decide_eq_true (h1 w hw1)
          rw [← hw2, slF_of hs hw1]; exact h5
        · have := (slF_nn hw y); omega
      · intro h
        refine ⟨fun w hw1 => decide_eq_true ?_, fun p hp1 => decide_eq_true ?_⟩
        · have := h w.id; rw [slF_of hs hw1] at this; exact this
        · have h1 := h p.wk
          have h2 := cnt_mem hp1
          omega
theorem okF_all {ws : List Wk} {ps : List Pl} (h : okF ws ps = true) : okW 0 ws = true ∧ okT (-1) ps = true ∧ okC ws ps = true := by
  unfold okF at h; simp only [Bool.and_eq_true] at h; exact ⟨h.1.1, h.1.2, h.2⟩
theorem idxT_eq {t : Int} : ∀ {ps : List Pl} {i : Nat}, (∀ k x, k < i → ps[k]? = some x → ¬ x.task = t) → (∀ x, ps[i]? = some x → x.task = t) → i ≤ ps.length → idxT ps t = i
  | [], i, _, _, h => by simp at h; subst h; rfl
  | q :: l, 0, _, h, _ => by
    unfold idxT; rw [List.findIdx_cons, decide_eq_true (h q rfl)]; rfl
  | q :: l, i + 1, h1, h2, h3 => by
    unfold idxT; rw [List.findIdx_cons, decide_eq_false (h1 0 q (by omega) rfl)]
    have := idxT_eq (t := t) (ps := l) (i := i) (fun k x hk hx => h1 (k + 1) x (by omega) (by simpa using hx)) (fun x hx => h2 x (by simpa using hx)) (by simpa using h3)
    unfold idxT at this; rw [this]; rfl
theorem sumK_cons {z : Int × Int} {r : List (Int × Int)} : sumK (z :: r) = z.2 + sumK r := by unfold sumK; rw [List.map_cons, List.sum_cons]
theorem sumK_nn : ∀ {r : List (Int × Int)}, (∀ z ∈ r, 0 ≤ z.2) → 0 ≤ sumK r
  | [], _ => Int.le_refl 0
  | z :: r, h => by
    rw [sumK_cons]
    have := h z (by simp)
    have := sumK_nn (r := r) fun y hy => h y (by simp [hy])
    omega
theorem sumW_nn : ∀ {ws : List Wk}, (∀ w ∈ ws, 1 ≤ w.sl ∧ w.sl ≤ 8) → 0 ≤ sumW ws ∧ sumW ws ≤ 8 * (ws.length : Int)
  | [], _ => ⟨Int.le_refl 0, by simp [sumW]⟩
  | w :: l, h => by
    have h1 := h w (by simp)
    have h2 := sumW_nn (ws := l) fun y hy => h y (by simp [hy])
    unfold sumW at h2 ⊢
    rw [List.map_cons, List.sum_cons, List.length_cons]; omega
theorem sumW_le {ws : List Wk} (h : okW 0 ws = true) : 0 ≤ sumW ws ∧ sumW ws ≤ 32 := by
  have h1 := sumW_nn (ws := ws) fun w hw => by have := (okW_all.1 h).2 w hw; omega
  have h2 := okW_len h
  omega
theorem free_bnd {ws : List Wk} {ps : List Pl} {L : List (Int × Int)} (hw : okW 0 ws = true) (hn : (L.map (·.1)).Nodup) (hL : ∀ y, (Z.lookK L y).getD 0 = slF ws y - cnt ps y) (hc : ∀ y, cnt ps y ≤ slF ws y) : ∀ z ∈ L, 0 ≤ z.2 ∧ z.2 ≤ 8 := fun z hz => by
  have h1 := (Z.look_mem hn).2 (show (z.1, z.2) ∈ L from hz)
  have h2 := hL z.1
  rw [h1] at h2
  simp only [Option.getD_some] at h2
  have h3 := hc z.1
  have h4 := (okW_sl hw z.1)
  have h5 := (cnt_nn (ps := ps) (y := z.1)).1
  omega
theorem rworker_con (a b : Int)  : Con Try.prog 38 [.agg [.v (.int .i64 a), .v (.int .i64 b)]] (fun rx rK rt => rx = .val (.bool (decide ((1 ≤ a ∧ a ≤ 4) ∧ (1 ≤ b ∧ b ≤ 8)))) ∧ rK = [] ∧ rt = 0) := by
  refine Z.con_ofF tabOk 21 Try.f38 _ Try.func38 (by kernel_rfl) rfl rfl rfl rfl ?_
  repeat' ((conv => whnf); first
    | with_reducible first | refine spB_t ?_
    | with_reducible first | refine spB_no (by decide) ?_
    | (with_reducible refine spB_dec ?_ ?_ <;> intro _ <;> (try (exfalso; first | contradiction | omega | (rename_i hz; refine hz ?_; simp; done) | (simp only [LN] at *; omega)))))
  all_goals (try (conv => whnf))
  all_goals try (show Nat.ble _ _ = true; rfl)
  all_goals first
    | ((first | (with_reducible apply Z.retF1)); (focus (exact rfl)); (repeat' (first | exact trivial | (with_reducible apply Z.frz_one) | (with_reducible apply Z.fq_bool) | apply And.intro)); (all_goals (try exact (fun _ => none))); all_goals (first | (exact (decide_eq_false (by omega)).symm) | (exact decide_eq_decide.2 (by omega))))

theorem rslots_con (ws : List Wk) (ps : List Pl) (id : Int) (hw : ws.length ≤ 1000) (hp : ps.length ≤ 1000) : Con Try.prog 39 [.agg [.ro false 2 ((ws).map eW), .ro false 2 ((ps).map eL)], .one (.v (.int .i64 id))] (fun rx rK rt => rx = .val (.int .i64 (slF ws id)) ∧ rK = [] ∧ rt = 0) := by
  refine Z.con_ofF tabOk 27 Try.f39 _ Try.func39 (by kernel_rfl) rfl rfl rfl rfl ?_
  repeat' ((conv => whnf); first
    | ((with_reducible apply ex_and); exact rfl))
  all_goals (try (conv => whnf))
  all_goals try (show Nat.ble _ _ = true; rfl)
  refine Z.loopK tabOk (fun zq : Nat => [(5, .val (.int .i64 (zq : Int)))]) (fun zq : Nat => ([] : Z.Kr)) (fun zq => zq ≤ ws.length ∧ slF ws id = slF (ws.drop zq) id) (fun zq => ws.length - zq) 0 1 [(1, _), (2, _)] ⟨rfl, rfl, trivial⟩ [(0, some _)] ⟨rfl, trivial⟩ ?_ ?_ rfl rfl ⟨Nat.zero_le _, rfl⟩ ?_
  · repeat' (first | exact trivial | apply And.intro | exact ⟨_, rfl, Z.Imp.refl _⟩)
  · repeat' (first | exact trivial)
  rintro i HINV
  dsimp only at HINV ⊢
  obtain ⟨HI, HO⟩ := HINV
  by_cases hi : i < ws.length
  · obtain ⟨x, hx⟩ := getElem?_some' (xs := ws) (i := i) hi
    rw [drop_cons hx] at HO
    simp only [slF] at HO
    repeat' ((conv => whnf); first
      | (with_reducible refine spB_dec ?_ ?_ <;> intro _ <;> (try (exfalso; first | contradiction | omega | (rename_i hz; refine hz ?_; simp; done) | (simp only [LN] at *; omega))))
      | (with_reducible refine spB_beq ?_ ?_ <;> intro _ <;> (try (exfalso; first | contradiction | omega | (rename_i hz; refine hz ?_; simp; done) | (simp only [LN] at *; omega))))
      | with_reducible first | refine Z.rowN_known hx ?_
      | ((with_reducible apply ixN_litp); (focus (exact rfl)); (focus ((try simp only [LN] at *) <;> omega)))
      | with_reducible refine wr_i64 (by first | omega | (simp only [LN] at *; omega)) ?_)
    all_goals (try (conv => whnf))
    all_goals try (show Nat.ble _ _ = true; rfl)
    all_goals first
      | ((refine Z.rndK ((i + 1)) (fun s => [0]) rfl rfl rfl rfl ?_ ?_ ?_ ?_); (focus (repeat' (first | exact trivial | exact rfl | apply And.intro))); (focus (repeat' (first | exact trivial | (intro b hb; cases hb; rfl) | apply And.intro))); (focus (refine ⟨by (try dsimp only); omega, ?_⟩; (try dsimp only); rw [HO, if_neg (by assumption)])); ((try dsimp only); omega))
      | ((first | (with_reducible apply Z.retF1)); (focus (exact rfl)); (repeat' (first | exact trivial | (with_reducible apply Z.frz_one) | (apply Z.fq_int) | apply And.intro)); (all_goals (try exact (fun _ => none))); all_goals ((rw [HO, if_pos (by assumption)])))
  rw [drop_end hi] at HO
  repeat' ((conv => whnf); first
    | (with_reducible refine spB_dec ?_ ?_ <;> intro _ <;> (try (exfalso; first | contradiction | omega | (rename_i hz; refine hz ?_; simp; done) | (simp only [LN] at *; omega)))))
  all_goals (try (conv => whnf))
  all_goals try (show Nat.ble _ _ = true; rfl)
  all_goals first
    | ((first | (with_reducible apply Z.retF1)); (focus (exact rfl)); (repeat' (first | exact trivial | (with_reducible apply Z.frz_one) | (with_reducible apply Z.fq_int) | apply And.intro)); (all_goals (try exact (fun _ => none))); all_goals (first | (rw [HO]; rfl)))

theorem rwhere_con (ws : List Wk) (ps : List Pl) (id : Int) (hw : ws.length ≤ 1000) (hp : ps.length ≤ 1000) : Con Try.prog 28 [.agg [.ro false 2 ((ws).map eW), .ro false 2 ((ps).map eL)], .one (.v (.int .i64 id))] (fun rx rK rt => rx = .val (.int .i64 (whF ps id)) ∧ rK = [] ∧ rt = 0) := by
  refine Z.con_ofF tabOk 27 Try.f28 _ Try.func28 (by kernel_rfl) rfl rfl rfl rfl ?_
  repeat' ((conv => whnf); first
    | ((with_reducible apply ex_and); exact rfl))
  all_goals (try (conv => whnf))
  all_goals try (show Nat.ble _ _ = true; rfl)
  refine Z.loopK tabOk (fun zq : Nat => [(5, .val (.int .i64 (zq : Int)))]) (fun zq : Nat => ([] : Z.Kr)) (fun zq => zq ≤ ps.length ∧ whF ps id = whF (ps.drop zq) id) (fun zq => ps.length - zq) 0 1 [(1, _), (2, _)] ⟨rfl, rfl, trivial⟩ [(0, some _)] ⟨rfl, trivial⟩ ?_ ?_ rfl rfl ⟨Nat.zero_le _, rfl⟩ ?_
  · repeat' (first | exact trivial | apply And.intro | exact ⟨_, rfl, Z.Imp.refl _⟩)
  · repeat' (first | exact trivial)
  rintro i HINV
  dsimp only at HINV ⊢
  obtain ⟨HI, HO⟩ := HINV
  by_cases hi : i < ps.length
  · obtain ⟨x, hx⟩ := getElem?_some' (xs := ps) (i := i) hi
    rw [drop_cons hx] at HO
    simp only [whF] at HO
    repeat' ((conv => whnf); first
      | (with_reducible refine spB_dec ?_ ?_ <;> intro _ <;> (try (exfalso; first | contradiction | omega | (rename_i hz; refine hz ?_; simp; done) | (simp only [LN] at *; omega))))
      | (with_reducible refine spB_beq ?_ ?_ <;> intro _ <;> (try (exfalso; first | contradiction | omega | (rename_i hz; refine hz ?_; simp; done) | (simp only [LN] at *; omega))))
      | with_reducible first | refine Z.rowN_known hx ?_
      | ((with_reducible apply ixN_litp); (focus (exact rfl)); (focus ((try simp only [LN] at *) <;> omega)))
      | with_reducible refine wr_i64 (by first | omega | (simp only [LN] at *; omega)) ?_)
    all_goals (try (conv => whnf))
    all_goals try (show Nat.ble _ _ = true; rfl)
    all_goals first
      | ((refine Z.rndK ((i + 1)) (fun s => [0]) rfl rfl rfl rfl ?_ ?_ ?_ ?_); (focus (repeat' (first | exact trivial | exact rfl | apply And.intro))); (focus (repeat' (first | exact trivial | (intro b hb; cases hb; rfl) | apply And.intro))); (focus (refine ⟨by (try dsimp only); omega, ?_⟩; (try dsimp only); rw [HO, if_neg (by assumption)])); ((try dsimp only); omega))
      | ((first | (with_reducible apply Z.retF1)); (focus (exact rfl)); (repeat' (first | exact trivial | (with_reducible apply Z.frz_one) | (apply Z.fq_int) | apply And.intro)); (all_goals (try exact (fun _ => none))); all_goals ((rw [HO, if_pos (by assumption)])))
  rw [drop_end hi] at HO
  repeat' ((conv => whnf); first
    | (with_reducible refine spB_dec ?_ ?_ <;> intro _ <;> (try (exfalso; first | contradiction | omega | (rename_i hz; refine hz ?_; simp; done) | (simp only [LN] at *; omega)))))
  all_goals (try (conv => whnf))
  all_goals try (show Nat.ble _ _ = true; rfl)
  all_goals first
    | ((first | (with_reducible apply Z.retF1)); (focus (exact rfl)); (repeat' (first | exact trivial | (with_reducible apply Z.frz_one) | (with_reducible apply Z.fq_int) | apply And.intro)); (all_goals (try exact (fun _ => none))); all_goals (first | (rw [HO]; rfl)))

theorem rat_con (ws : List Wk) (ps : List Pl) (id : Int) (hw : ws.length ≤ 1000) (hp : ps.length ≤ 1000) : Con Try.prog 29 [.agg [.ro false 2 ((ws).map eW), .ro false 2 ((ps).map eL)], .one (.v (.int .i64 id))] (fun rx rK rt => rx = .c (.ro true 1 ((atL ps id).map eI)) ∧ rK = [] ∧ rt = 0) := by
  refine Z.con_ofF tabOk 32 Try.f29 _ Try.func29 (by kernel_rfl) rfl rfl rfl rfl ?_
  repeat' ((conv => whnf); first
    | ((with_reducible apply ex_and); exact rfl))
  all_goals (try (conv => whnf))
  all_goals try (show Nat.ble _ _ = true; rfl)
  refine Z.loopK tabOk (fun zq : Nat × List Int => [(6, .val (.int .i64 (zq.1 : Int))), (5, .c (.gsl 1 (zq.2.map cI)))]) (fun zq : Nat × List Int => ([(1, (gB 1 3 (zq.2.map cI)).map Z.Ob.b)] : Z.Kr)) (fun zq => zq.1 ≤ ps.length ∧ zq.2 = atL (ps.take zq.1) id) (fun zq => ps.length - zq.1) (0, []) 2 [(1, _), (2, _)] ⟨rfl, rfl, trivial⟩ [(0, some _)] ⟨rfl, trivial⟩ ?_ ?_ rfl rfl ⟨Nat.zero_le _, rfl⟩ ?_
  · repeat' (first | exact trivial | apply And.intro | exact ⟨_, rfl, Z.Imp.refl _⟩ | exact ⟨_, rfl, Z.Imp.nilg _⟩)
  · repeat' (first | exact trivial | (intro b hb; cases hb; done) | apply And.intro)
  rintro ⟨i, acc⟩ HINV
  dsimp only at HINV ⊢
  obtain ⟨HI, HA⟩ := HINV
  have hal : acc.length ≤ i := by rw [HA]; exact Nat.le_trans atL_le (by rw [List.length_take]; omega)
  by_cases hi : i < ps.length
  · obtain ⟨x, hx⟩ := getElem?_some' (xs := ps) (i := i) hi
    repeat' ((conv => whnf); first
      | (with_reducible refine spB_dec ?_ ?_ <;> intro _ <;> (try (exfalso; first | contradiction | omega | (rename_i hz; refine hz ?_; simp; done) | (simp only [LN] at *; omega))))
      | (with_reducible refine spB_beq ?_ ?_ <;> intro _ <;> (try (exfalso; first | contradiction | omega | (rename_i hz; refine hz ?_; simp; done) | (simp only [LN] at *; omega))))
      | with_reducible first | refine Z.rowN_known hx ?_
      | ((with_reducible refine posE_pos ?_ ?_); (focus ((try simp only [LN] at *) <;> omega)))
      | ((with_reducible apply ixN_litp); (focus (exact rfl)); (focus ((try simp only [LN] at *) <;> omega)))
      | ((with_reducible refine apdN.mk ?_ ?_ ?_ ?_ ?_ ?_); (focus (first | rfl)); (focus (first | exact one_all (by rfl))); (focus ((try simp only [LN] at *) <;> omega)); (focus ((try simp only [LN] at *) <;> omega)); (focus ((try simp only [LN] at *) <;> omega)))
      | with_reducible refine wr_i64 (by first | omega | (simp only [LN] at *; omega)) ?_
      | ((with_reducible refine eqN_mk2 ?_ ?_); (focus (exact Z.kb_some rfl))))
    all_goals (try (conv => whnf))
    all_goals try (show Nat.ble _ _ = true; rfl)
    all_goals first
      | ((refine Z.rndK ((i + 1, acc ++ [x.task])) (fun s => [0, s.idAt 5]) rfl rfl rfl rfl ?_ ?_ ?_ ?_); (focus (repeat' (first | exact trivial | exact rfl | (rw [List.map_append (f := cI)]; exact rfl) | apply And.intro))); (focus (repeat' (first | exact trivial | (intro b hb; cases hb; rfl) | exact Z.gB_sub' rfl (by first | rfl | (rw [List.map_append]; rfl) | simp only [List.map_append, List.map_cons, List.map_nil]) (ren_map fun _ => rfl) | apply And.intro))); (focus (exact ⟨by (try dsimp only); omega, by (try dsimp only); rw [HA, atL_yes hx (by assumption)]⟩)); ((try dsimp only); omega))
      | ((refine Z.rndK ((i + 1, acc)) (fun s => [0, s.idAt 5]) rfl rfl rfl rfl ?_ ?_ ?_ ?_); (focus (repeat' (first | exact trivial | exact rfl | apply And.intro))); (focus (repeat' (first | exact trivial | (intro b hb; cases hb; rfl) | exact Z.gB_sub rfl rfl (ren_map fun _ => rfl) | apply And.intro))); (focus (exact ⟨by (try dsimp only); omega, by (try dsimp only); rw [HA, atL_no hx (by assumption)]⟩)); ((try dsimp only); omega))
  rw [take_end hi] at HA
  subst HA
  repeat' ((conv => whnf); first
    | (with_reducible refine spB_dec ?_ ?_ <;> intro _ <;> (try (exfalso; first | contradiction | omega | (rename_i hz; refine hz ?_; simp; done) | (simp only [LN] at *; omega)))))
  all_goals (try (conv => whnf))
  all_goals try (show Nat.ble _ _ = true; rfl)
  all_goals first
    | ((first | (with_reducible apply Z.retF1)); (focus (exact rfl)); (repeat' (first | exact trivial | (with_reducible apply Z.frz_one) | ((with_reducible apply Z.fq_gsl); (focus (first | exact Z.isB_map _)); (focus (exact fun _ => rfl))) | exact rfl | apply And.intro)); (all_goals (try exact (fun _ => none))); all_goals (rfl))

end Go.Proofs.Ytllnmdmmmkoiaaa
namespace Go.Proofs.Ytllnmdmmmkoiaaa
open Go Go.RowKit Wx
set_option linter.unusedVariables false
set_option linter.unusedSimpArgs false
set_option maxHeartbeats 4000000
theorem rfree_con (ws : List Wk) (ps : List Pl) (hw : ws.length ≤ 1000) (hp : ps.length ≤ 1000) (hk : okF ws ps = true) : Con Try.prog 30 [.agg [.ro false 2 ((ws).map eW), .ro false 2 ((ps).map eL)]] (fun rx rK rt => rx = .val (.int .i64 (sumW ws - (ps.length : Int))) ∧ rK = [] ∧ rt = 0) := by
  refine Z.con_ofF tabOk 25 Try.f30 _ Try.func30 (by kernel_rfl) rfl rfl rfl rfl ?_
  obtain ⟨hkw, hkp, _⟩ := okF_all hk
  have hwl := okW_len hkw
  have hpl := okT_len hkp
  have hal := (okW_all.1 hkw).2
  repeat' ((conv => whnf); first
    | ((with_reducible apply ex_and); exact rfl))
  all_goals (try (conv => whnf))
  all_goals try (show Nat.ble _ _ = true; rfl)
  refine Z.loopK tabOk (fun zq : Nat × Int => [(4, .val (.int .i64 (zq.1 : Int))), (3, .val (.int .i64 zq.2))]) (fun zq : Nat × Int => ([] : Z.Kr)) (fun zq => zq.1 ≤ ws.length ∧ zq.2 = sumW (ws.take zq.1) ∧ 0 ≤ zq.2 ∧ zq.2 ≤ 8 * (zq.1 : Int)) (fun zq => ws.length - zq.1) (0, 0) 1 [(1, _)] ⟨rfl, trivial⟩ [(0, some _)] ⟨rfl, trivial⟩ ?_ ?_ rfl rfl ⟨Nat.zero_le _, rfl, Int.le_refl 0, by decide⟩ ?_
  · repeat' (first | exact trivial | apply And.intro | exact ⟨_, rfl, Z.Imp.refl _⟩)
  · repeat' (first | exact trivial)
  rintro ⟨i, n⟩ HINV
  dsimp only at HINV ⊢
  obtain ⟨HI, HN, HN0, HN1⟩ := HINV
  by_cases hi : i < ws.length
  · obtain ⟨x, hx⟩ := getElem?_some' (xs := ws) (i := i) hi
    have hx9 := hal x (List.mem_of_getElem? hx)
    repeat' ((conv => whnf); first
      | (with_reducible refine spB_dec ?_ ?_ <;> intro _ <;> (try (exfalso; first | contradiction | omega | (rename_i hz; refine hz ?_; simp; done) | (simp only [LN] at *; omega))))
      | with_reducible first | refine Z.rowN_known hx ?_
      | ((with_reducible apply ixN_litp); (focus (exact rfl)); (focus ((try simp only [LN] at *) <;> omega)))
      | with_reducible refine wr_i64 (by first | omega | (simp only [LN] at *; omega)) ?_)
    all_goals (try (conv => whnf))
    all_goals try (show Nat.ble _ _ = true; rfl)
    all_goals first
      | ((refine Z.rndK ((i + 1, n + x.sl)) (fun s => [0]) rfl rfl rfl rfl ?_ ?_ ?_ ?_); (focus (repeat' (first | exact trivial | exact rfl | apply And.intro))); (focus (repeat' (first | exact trivial | (intro b hb; cases hb; rfl) | apply And.intro))); (focus (refine ⟨by (try dsimp only); omega, ?_, by (try dsimp only); omega, by (try dsimp only); omega⟩; (try dsimp only); rw [HN, sumW_snoc hx])); ((try dsimp only); omega))
  rw [take_end hi] at HN
  repeat' ((conv => whnf); first
    | (with_reducible refine spB_dec ?_ ?_ <;> intro _ <;> (try (exfalso; first | contradiction | omega | (rename_i hz; refine hz ?_; simp; done) | (simp only [LN] at *; omega))))
    | with_reducible refine wr_i64 (by first | omega | (simp only [LN] at *; omega)) ?_)
  all_goals (try (conv => whnf))
  all_goals try (show Nat.ble _ _ = true; rfl)
  all_goals first
    | ((first | (with_reducible apply Z.retF1)); (focus (exact rfl)); (repeat' (first | exact trivial | (with_reducible apply Z.frz_one) | (with_reducible apply Z.fq_int) | apply And.intro)); (all_goals (try exact (fun _ => none))); all_goals (first | (rw [HN, List.length_map]; done)))

theorem right_con (ws : List Wk) (ps : List Pl) (hw : ws.length ≤ 1000) (hp : ps.length ≤ 1000) : Con Try.prog 22 [.agg [.ro false 2 ((ws).map eW), .ro false 2 ((ps).map eL)]] (fun rx rK rt => rx = .val (.bool (okF ws ps)) ∧ rK = [] ∧ rt = 0) := by
  refine Z.con_ofF tabOk 91 Try.f22 _ Try.func22 (by kernel_rfl) rfl rfl rfl rfl ?_
  rw [← right_eq]
  repeat' ((conv => whnf); first
    | (focus (exact (rfl : Nat.ble _ _ = true))))
  all_goals (try (conv => whnf))
  all_goals try (show Nat.ble _ _ = true; rfl)
  refine Z.loopK tabOk (fun zq : Nat × Int => [(3, .val (.int .i64 (zq.1 : Int)))]) (fun zq : Nat × Int => ([] : Z.Kr)) (fun zq => zq.1 ≤ ws.length ∧ rgW ps 0 ws = rgW ps zq.2 (ws.drop zq.1) ∧ (∀ (k : Nat) (z : Wk), k + 1 = zq.1 → ws[k]? = some z → zq.2 = z.id) ∧ (zq.1 = 0 → zq.2 = 0) ∧ 0 ≤ zq.2) (fun zq => ws.length - zq.1) (0, 0) 1 [(1, _)] ⟨rfl, trivial⟩ [(0, some _)] ⟨rfl, trivial⟩ ?_ ?_ rfl rfl ⟨Nat.zero_le _, rfl, fun k z h => by omega, fun _ => rfl, Int.le_refl 0⟩ ?_
  · repeat' (first | exact trivial | apply And.intro | exact ⟨_, rfl, Z.Imp.refl _⟩)
  · repeat' (first | exact trivial)
  rintro ⟨i, a⟩ HINV
  dsimp only at HINV ⊢
  obtain ⟨HI, HO, HP, HZ, HA0⟩ := HINV
  by_cases hi : i < ws.length
  · obtain ⟨x, hx⟩ := getElem?_some' (xs := ws) (i := i) hi
    rw [drop_cons hx] at HO
    simp only [rgW] at HO
    have hac := atL_cnt (ps := ps) (y := x.id)
    rcases i with _ | k
    · have ha0 := HZ rfl
      by_cases hA : (1 ≤ x.id ∧ x.id ≤ 4) ∧ (1 ≤ x.sl ∧ x.sl ≤ 8) ∧ a < x.id
      rotate_left
      · rw [decide_eq_false hA, Bool.false_and] at HO
        repeat' ((conv => whnf); first
          | with_reducible first | refine spB_t ?_
          | with_reducible first | refine spB_not ?_
          | (with_reducible refine spB_dec ?_ ?_ <;> intro _ <;> (try (exfalso; first | contradiction | omega | (rename_i hz; refine hz ?_; simp; done) | (simp only [LN] at *; omega))))
          | with_reducible first | refine Z.rowN_known hx ?_
          | ((with_reducible apply ixN_litp); (focus (exact rfl)); (focus ((try simp only [LN] at *) <;> omega)))
          | ((first | (with_reducible apply Z.conZ_mz ?_ (rworker_con _ _) ?_)); (rotate_left 2); (focus ((repeat' (first | exact trivial | exact rfl | apply And.intro)); done)))
          | with_reducible first | refine Z.drawZ_rule tabOk mixOk ?_ | refine Z.apZ_mk (by kernel_rfl) ?_)
        all_goals (try (conv => whnf))
        all_goals try (show Nat.ble _ _ = true; rfl)
        all_goals first
          | ((first | (with_reducible apply Z.retF1)); (focus (exact rfl)); (repeat' (first | exact trivial | (with_reducible apply Z.frz_one) | (with_reducible apply Z.fq_bool) | apply And.intro)); (all_goals (try exact (fun _ => none))); all_goals (first | (rw [HO]; rfl)))
      by_cases hB : cnt ps x.id ≤ x.sl
      rotate_left
      · rw [decide_eq_false hB, Bool.false_and, Bool.and_false] at HO
        repeat' ((conv => whnf); first
          | with_reducible first | refine spB_no (by decide) ?_ | refine spB_not ?_
          | (with_reducible refine spB_dec ?_ ?_ <;> intro _ <;> (try (exfalso; first | contradiction | omega | (rename_i hz; refine hz ?_; simp; done) | (simp only [LN] at *; omega))))
          | with_reducible first | refine Z.rowN_known hx ?_
          | ((with_reducible apply ixN_litp); (focus (exact rfl)); (focus ((try simp only [LN] at *) <;> omega)))
          | ((first | (with_reducible apply Z.conZ_mz ?_ (rworker_con _ _) ?_)); (rotate_left 2); (focus ((repeat' (first | exact trivial | exact rfl | apply And.intro)); done)))
          | ((first | (with_reducible apply Z.conZ_mz ?_ (rat_con _ _ _ ?_ ?_) ?_)); (rotate_left 3); (focus ((repeat' (first | exact trivial | exact rfl | apply And.intro)); done)); (iterate 2 (focus (first | assumption))))
          | with_reducible first | refine Z.drawZ_rule tabOk mixOk ?_ | refine Z.apZ_mk (by kernel_rfl) ?_)
        all_goals (try (conv => whnf))
        all_goals try (show Nat.ble _ _ = true; rfl)
        all_goals first
          | ((first | (with_reducible apply Z.retF1)); (focus (exact rfl)); (repeat' (first | exact trivial | (with_reducible apply Z.frz_one) | (with_reducible apply Z.fq_bool) | apply And.intro)); (all_goals (try exact (fun _ => none))); all_goals (first | (rw [HO]; rfl)))
      rw [decide_eq_true hA, decide_eq_true hB, Bool.true_and, Bool.true_and] at HO
      repeat' ((conv => whnf); first
        | with_reducible first | refine spB_no (by decide) ?_ | refine spB_not ?_
        | (with_reducible refine spB_dec ?_ ?_ <;> intro _ <;> (try (exfalso; first | contradiction | omega | (rename_i hz; refine hz ?_; simp; done) | (simp only [LN] at *; omega))))
        | with_reducible first | refine Z.rowN_known hx ?_
        | ((with_reducible apply ixN_litp); (focus (exact rfl)); (focus ((try simp only [LN] at *) <;> omega)))
        | with_reducible refine wr_i64 (by first | omega | (simp only [LN] at *; omega)) ?_
        | ((first | (with_reducible apply Z.conZ_mz ?_ (rworker_con _ _) ?_)); (rotate_left 2); (focus ((repeat' (first | exact trivial | exact rfl | apply And.intro)); done)))
        | ((first | (with_reducible apply Z.conZ_mz ?_ (rat_con _ _ _ ?_ ?_) ?_)); (rotate_left 3); (focus ((repeat' (first | exact trivial | exact rfl | apply And.intro)); done)); (iterate 2 (focus (first | assumption))))
        | with_reducible first | refine Z.drawZ_rule tabOk mixOk ?_ | refine Z.apZ_mk (by kernel_rfl) ?_)
      all_goals (try (conv => whnf))
      all_goals try (show Nat.ble _ _ = true; rfl)
      all_goals first
        | ((refine Z.rndK ((0 + 1, x.id)) (fun s => [0]) rfl rfl rfl rfl ?_ ?_ ?_ ?_); (focus (repeat' (first | exact trivial | exact rfl | apply And.intro))); (focus (repeat' (first | exact trivial | (intro b hb; cases hb; rfl) | apply And.intro))); (focus (refine ⟨by (try dsimp only); omega, HO, fun k2 z2 h2 hz2 => ?_, fun h2 => by (try dsimp only at h2); omega, by (try dsimp only); omega⟩; (try dsimp only at *); have h3 : k2 = 0 := (by omega); subst h3; rw [hx] at hz2; cases hz2; rfl)); ((try dsimp only); omega))
    · obtain ⟨z, hz⟩ := getElem?_some' (xs := ws) (i := k) (by omega)
      have haz := HP k z rfl hz
      by_cases hA : (1 ≤ x.id ∧ x.id ≤ 4) ∧ (1 ≤ x.sl ∧ x.sl ≤ 8) ∧ a < x.id
      rotate_left
      · rw [decide_eq_false hA, Bool.false_and] at HO
        repeat' ((conv => whnf); first
          | with_reducible first | refine spB_t ?_
          | with_reducible first | refine spB_no (by decide) ?_ | refine spB_not ?_
          | (with_reducible refine spB_dec ?_ ?_ <;> intro _ <;> (try (exfalso; first | contradiction | omega | (rename_i hz; refine hz ?_; simp; done) | (simp only [LN] at *; omega))))
          | ((with_reducible refine ixN_mk k ?_ ?_ ?_); (focus omega); (focus ((try simp only [LN] at *) <;> omega)))
          | ((with_reducible refine ixN_mk (k + 1) ?_ ?_ ?_); (focus omega); (focus ((try simp only [LN] at *) <;> omega)))
          | with_reducible first | refine Z.rowN_known hx ?_ | refine Z.rowN_known hz ?_
          | with_reducible refine wr_i64 (by first | omega | (simp only [LN] at *; omega)) ?_
          | ((first | (with_reducible apply Z.conZ_mz ?_ (rworker_con _ _) ?_)); (rotate_left 2); (focus ((repeat' (first | exact trivial | exact rfl | apply And.intro)); done)))
          | with_reducible first | refine Z.drawZ_rule tabOk mixOk ?_ | refine Z.apZ_mk (by kernel_rfl) ?_)
        all_goals (try (conv => whnf))
        all_goals try (show Nat.ble _ _ = true; rfl)
        all_goals first
          | ((first | (with_reducible apply Z.retF1)); (focus (exact rfl)); (repeat' (first | exact trivial | (with_reducible apply Z.frz_one) | (with_reducible apply Z.fq_bool) | apply And.intro)); (all_goals (try exact (fun _ => none))); all_goals (first | (rw [HO]; rfl)))
      by_cases hB : cnt ps x.id ≤ x.sl
      rotate_left
      · rw [decide_eq_false hB, Bool.false_and, Bool.and_false] at HO
        repeat' ((conv => whnf); first
          | with_reducible first | refine spB_t ?_
          | with_reducible first | refine spB_no (by decide) ?_ | refine spB_not ?_
          | (with_reducible refine spB_dec ?_ ?_ <;> intro _ <;> (try (exfalso; first | contradiction | omega | (rename_i hz; refine hz ?_; simp; done) | (simp only [LN] at *; omega))))
          | ((with_reducible refine ixN_mk k ?_ ?_ ?_); (focus omega); (focus ((try simp only [LN] at *) <;> omega)))
          | ((with_reducible refine ixN_mk (k + 1) ?_ ?_ ?_); (focus omega); (focus ((try simp only [LN] at *) <;> omega)))
          | with_reducible first | refine Z.rowN_known hx ?_ | refine Z.rowN_known hz ?_
          | with_reducible refine wr_i64 (by first | omega | (simp only [LN] at *; omega)) ?_
          | ((first | (with_reducible apply Z.conZ_mz ?_ (rworker_con _ _) ?_)); (rotate_left 2); (focus ((repeat' (first | exact trivial | exact rfl | apply And.intro)); done)))
          | ((first | (with_reducible apply Z.conZ_mz ?_ (rat_con _ _ _ ?_ ?_) ?_)); (rotate_left 3); (focus ((repeat' (first | exact trivial | exact rfl | apply And.intro)); done)); (iterate 2 (focus (first | assumption))))
          | with_reducible first | refine Z.drawZ_rule tabOk mixOk ?_ | refine Z.apZ_mk (by kernel_rfl) ?_)
        all_goals (try (conv => whnf))
        all_goals try (show Nat.ble _ _ = true; rfl)
        all_goals first
          | ((first | (with_reducible apply Z.retF1)); (focus (exact rfl)); (repeat' (first | exact trivial | (with_reducible apply Z.frz_one) | (with_reducible apply Z.fq_bool) | apply And.intro)); (all_goals (try exact (fun _ => none))); all_goals (first | (rw [HO]; rfl)))
      rw [decide_eq_true hA, decide_eq_true hB, Bool.true_and, Bool.true_and] at HO
      repeat' ((conv => whnf); first
        | with_reducible first | refine spB_t ?_
        | with_reducible first | refine spB_no (by decide) ?_ | refine spB_not ?_
        | (with_reducible refine spB_dec ?_ ?_ <;> intro _ <;> (try (exfalso; first | contradiction | omega | (rename_i hz; refine hz ?_; simp; done) | (simp only [LN] at *; omega))))
        | ((with_reducible refine ixN_mk k ?_ ?_ ?_); (focus omega); (focus ((try simp only [LN] at *) <;> omega)))
        | ((with_reducible refine ixN_mk (k + 1) ?_ ?_ ?_); (focus omega); (focus ((try simp only [LN] at *) <;> omega)))
        | with_reducible first | refine Z.rowN_known hx ?_ | refine Z.rowN_known hz ?_
        | with_reducible refine wr_i64 (by first | omega | (simp only [LN] at *; omega)) ?_
        | ((first | (with_reducible apply Z.conZ_mz ?_ (rworker_con _ _) ?_)); (rotate_left 2); (focus ((repeat' (first | exact trivial | exact rfl | apply And.intro)); done)))
        | ((first | (with_reducible apply Z.conZ_mz ?_ (rat_con _ _ _ ?_ ?_) ?_)); (rotate_left 3); (focus ((repeat' (first | exact trivial | exact rfl | apply And.intro)); done)); (iterate 2 (focus (first | assumption))))
        | with_reducible first | refine Z.drawZ_rule tabOk mixOk ?_ | refine Z.apZ_mk (by kernel_rfl) ?_)
      all_goals (try (conv => whnf))
      all_goals try (show Nat.ble _ _ = true; rfl)
      all_goals first
        | ((refine Z.rndK ((k + 1 + 1, x.id)) (fun s => [0]) rfl rfl rfl rfl ?_ ?_ ?_ ?_); (focus (repeat' (first | exact trivial | exact rfl | apply And.intro))); (focus (repeat' (first | exact trivial | (intro b hb; cases hb; rfl) | apply And.intro))); (focus (refine ⟨by (try dsimp only); omega, HO, fun k2 z2 h2 hz2 => ?_, fun h2 => by (try dsimp only at h2); omega, by (try dsimp only); omega⟩; (try dsimp only at *); have h3 : k2 = k + 1 := (by omega); subst h3; rw [hx] at hz2; cases hz2; rfl)); ((try dsimp only); omega))
  have HW : rgW ps 0 ws = true := by rw [HO, drop_end hi]; rfl
  rw [HW, Bool.true_and]
  clear HO HP HZ HA0 HI
  repeat' ((conv => whnf); first
    | (with_reducible refine spB_dec ?_ ?_ <;> intro _ <;> (try (exfalso; first | contradiction | omega | (rename_i hz; refine hz ?_; simp; done) | (simp only [LN] at *; omega)))))
  all_goals (try (conv => whnf))
  all_goals try (show Nat.ble _ _ = true; rfl)
  all_goals try (exfalso; (try simp only [LN] at *) <;> omega)
  refine Z.loopK tabOk (fun zq : Nat × Int => [(5, .val (.int .i64 (zq.1 : Int)))]) (fun zq : Nat × Int => ([] : Z.Kr)) (fun zq => zq.1 ≤ ps.length ∧ rgP ws (-1) ps = rgP ws zq.2 (ps.drop zq.1) ∧ (∀ (k : Nat) (z : Pl), k + 1 = zq.1 → ps[k]? = some z → zq.2 = z.task) ∧ (zq.1 = 0 → zq.2 = -1) ∧ -1 ≤ zq.2) (fun zq => ps.length - zq.1) (0, -1) 1 [(1, _)] ⟨rfl, trivial⟩ [(0, some _)] ⟨rfl, trivial⟩ ?_ ?_ rfl rfl ⟨Nat.zero_le _, rfl, fun k z h => by omega, fun _ => rfl, Int.le_refl _⟩ ?_
  · repeat' (first | exact trivial | apply And.intro | exact ⟨_, rfl, Z.Imp.refl _⟩)
  · repeat' (first | exact trivial)
  rintro ⟨i2, a⟩ HINV
  dsimp only at HINV ⊢
  obtain ⟨HI, HO, HP, HZ, HA0⟩ := HINV
  by_cases hi2 : i2 < ps.length
  · obtain ⟨x, hx⟩ := getElem?_some' (xs := ps) (i := i2) hi2
    rw [drop_cons hx] at HO
    simp only [rgP] at HO
    rcases i2 with _ | k
    · have ha0 := HZ rfl
      by_cases hA : (0 ≤ x.task ∧ x.task < 16) ∧ a < x.task
      rotate_left
      · rw [decide_eq_false hA, Bool.false_and] at HO
        repeat' ((conv => whnf); first
          | with_reducible first | refine spB_t ?_
          | with_reducible first | refine spB_no (by decide) ?_
          | (with_reducible refine spB_dec ?_ ?_ <;> intro _ <;> (try (exfalso; first | contradiction | omega | (rename_i hz; refine hz ?_; simp; done) | (simp only [LN] at *; omega))))
          | with_reducible first | refine Z.rowN_known hx ?_
          | ((with_reducible apply ixN_litp); (focus (exact rfl)); (focus ((try simp only [LN] at *) <;> omega)))
          | with_reducible first | refine Z.drawZ_rule tabOk mixOk ?_ | refine Z.apZ_mk (by kernel_rfl) ?_)
        all_goals (try (conv => whnf))
        all_goals try (show Nat.ble _ _ = true; rfl)
        all_goals first
          | ((first | (with_reducible apply Z.retF1)); (focus (exact rfl)); (repeat' (first | exact trivial | (with_reducible apply Z.frz_one) | (with_reducible apply Z.fq_bool) | apply And.intro)); (all_goals (try exact (fun _ => none))); all_goals (first | (rw [HO]; done)))
      by_cases hB : slF ws x.wk ≠ 0
      rotate_left
      · rw [decide_eq_false hB, Bool.false_and, Bool.and_false] at HO
        repeat' ((conv => whnf); first
          | with_reducible first | refine spB_t ?_
          | with_reducible first | refine spB_no (by decide) ?_
          | (with_reducible refine spB_dec ?_ ?_ <;> intro _ <;> (try (exfalso; first | contradiction | omega | (rename_i hz; refine hz ?_; simp; done) | (simp only [LN] at *; omega))))
          | (with_reducible refine spB_beq ?_ ?_ <;> intro _ <;> (try (exfalso; first | contradiction | omega | (rename_i hz; refine hz ?_; simp; done) | (simp only [LN] at *; omega))))
          | with_reducible first | refine Z.rowN_known hx ?_
          | ((with_reducible apply ixN_litp); (focus (exact rfl)); (focus ((try simp only [LN] at *) <;> omega)))
          | ((first | (with_reducible apply Z.conZ_mz ?_ (rslots_con _ _ _ ?_ ?_) ?_)); (rotate_left 3); (focus ((repeat' (first | exact trivial | exact rfl | apply And.intro)); done)); (iterate 2 (focus (first | assumption))))
          | with_reducible first | refine Z.drawZ_rule tabOk mixOk ?_ | refine Z.apZ_mk (by kernel_rfl) ?_)
        all_goals (try (conv => whnf))
        all_goals try (show Nat.ble _ _ = true; rfl)
        all_goals first
          | ((first | (with_reducible apply Z.retF1)); (focus (exact rfl)); (repeat' (first | exact trivial | (with_reducible apply Z.frz_one) | (with_reducible apply Z.fq_bool) | apply And.intro)); (all_goals (try exact (fun _ => none))); all_goals (first | (rw [HO]; done)))
      rw [decide_eq_true hA, decide_eq_true hB, Bool.true_and, Bool.true_and] at HO
      repeat' ((conv => whnf); first
        | with_reducible first | refine spB_no (by decide) ?_
        | (with_reducible refine spB_dec ?_ ?_ <;> intro _ <;> (try (exfalso; first | contradiction | omega | (rename_i hz; refine hz ?_; simp; done) | (simp only [LN] at *; omega))))
        | (with_reducible refine spB_beq ?_ ?_ <;> intro _ <;> (try (exfalso; first | contradiction | omega | (rename_i hz; refine hz ?_; simp; done) | (simp only [LN] at *; omega))))
        | with_reducible first | refine Z.rowN_known hx ?_
        | ((with_reducible apply ixN_litp); (focus (exact rfl)); (focus ((try simp only [LN] at *) <;> omega)))
        | with_reducible refine wr_i64 (by first | omega | (simp only [LN] at *; omega)) ?_
        | ((first | (with_reducible apply Z.conZ_mz ?_ (rslots_con _ _ _ ?_ ?_) ?_)); (rotate_left 3); (focus ((repeat' (first | exact trivial | exact rfl | apply And.intro)); done)); (iterate 2 (focus (first | assumption))))
        | with_reducible first | refine Z.drawZ_rule tabOk mixOk ?_ | refine Z.apZ_mk (by kernel_rfl) ?_)
      all_goals (try (conv => whnf))
      all_goals try (show Nat.ble _ _ = true; rfl)
      all_goals first
        | ((refine Z.rndK ((0 + 1, x.task)) (fun s => [0]) rfl rfl rfl rfl ?_ ?_ ?_ ?_); (focus (repeat' (first | exact trivial | exact rfl | apply And.intro))); (focus (repeat' (first | exact trivial | (intro b hb; cases hb; rfl) | apply And.intro))); (focus (refine ⟨by (try dsimp only); omega, HO, fun k2 z2 h2 hz2 => ?_, fun h2 => by (try dsimp only at h2); omega, by (try dsimp only); omega⟩; (try dsimp only at *); have h3 : k2 = 0 := (by omega); subst h3; rw [hx] at hz2; cases hz2; rfl)); ((try dsimp only); omega))
    · obtain ⟨z, hz⟩ := getElem?_some' (xs := ps) (i := k) (by omega)
      have haz := HP k z rfl hz
      by_cases hA : (0 ≤ x.task ∧ x.task < 16) ∧ a < x.task
      rotate_left
      · rw [decide_eq_false hA, Bool.false_and] at HO
        repeat' ((conv => whnf); first
          | with_reducible first | refine spB_t ?_
          | with_reducible first | refine spB_no (by decide) ?_
          | (with_reducible refine spB_dec ?_ ?_ <;> intro _ <;> (try (exfalso; first | contradiction | omega | (rename_i hz; refine hz ?_; simp; done) | (simp only [LN] at *; omega))))
          | (with_reducible refine spB_beq ?_ ?_ <;> intro _ <;> (try (exfalso; first | contradiction | omega | (rename_i hz; refine hz ?_; simp; done) | (simp only [LN] at *; omega))))
          | ((with_reducible refine ixN_mk k ?_ ?_ ?_); (focus omega); (focus ((try simp only [LN] at *) <;> omega)))
          | ((with_reducible refine ixN_mk (k + 1) ?_ ?_ ?_); (focus omega); (focus ((try simp only [LN] at *) <;> omega)))
          | with_reducible first | refine Z.rowN_known hx ?_ | refine Z.rowN_known hz ?_
          | with_reducible refine wr_i64 (by first | omega | (simp only [LN] at *; omega)) ?_
          | ((first | (with_reducible apply Z.conZ_mz ?_ (rslots_con _ _ _ ?_ ?_) ?_)); (rotate_left 3); (focus ((repeat' (first | exact trivial | exact rfl | apply And.intro)); done)); (iterate 2 (focus (first | assumption))))
          | with_reducible first | refine Z.drawZ_rule tabOk mixOk ?_ | refine Z.apZ_mk (by kernel_rfl) ?_)
        all_goals (try (conv => whnf))
        all_goals try (show Nat.ble _ _ = true; rfl)
        all_goals first
          | ((first | (with_reducible apply Z.retF1)); (focus (exact rfl)); (repeat' (first | exact trivial | (with_reducible apply Z.frz_one) | (with_reducible apply Z.fq_bool) | apply And.intro)); (all_goals (try exact (fun _ => none))); all_goals (first | (rw [HO]; done)))
      by_cases hB : slF ws x.wk ≠ 0
      rotate_left
      · rw [decide_eq_false hB, Bool.false_and, Bool.and_false] at HO
        repeat' ((conv => whnf); first
          | with_reducible first | refine spB_t ?_
          | with_reducible first | refine spB_no (by decide) ?_
          | (with_reducible refine spB_dec ?_ ?_ <;> intro _ <;> (try (exfalso; first | contradiction | omega | (rename_i hz; refine hz ?_; simp; done) | (simp only [LN] at *; omega))))
          | (with_reducible refine spB_beq ?_ ?_ <;> intro _ <;> (try (exfalso; first | contradiction | omega | (rename_i hz; refine hz ?_; simp; done) | (simp only [LN] at *; omega))))
          | ((with_reducible refine ixN_mk (k + 1) ?_ ?_ ?_); (focus omega); (focus ((try simp only [LN] at *) <;> omega)))
          | with_reducible first | refine Z.rowN_known hx ?_
          | ((first | (with_reducible apply Z.conZ_mz ?_ (rslots_con _ _ _ ?_ ?_) ?_)); (rotate_left 3); (focus ((repeat' (first | exact trivial | exact rfl | apply And.intro)); done)); (iterate 2 (focus (first | assumption))))
          | with_reducible first | refine Z.drawZ_rule tabOk mixOk ?_ | refine Z.apZ_mk (by kernel_rfl) ?_)
        all_goals (try (conv => whnf))
        all_goals try (show Nat.ble _ _ = true; rfl)
        all_goals first
          | ((first | (with_reducible apply Z.retF1)); (focus (exact rfl)); (repeat' (first | exact trivial | (with_reducible apply Z.frz_one) | (with_reducible apply Z.fq_bool) | apply And.intro)); (all_goals (try exact (fun _ => none))); all_goals (first | (rw [HO]; done)))
      rw [decide_eq_true hA, decide_eq_true hB, Bool.true_and, Bool.true_and] at HO
      repeat' ((conv => whnf); first
        | with_reducible first | refine spB_t ?_
        | with_reducible first | refine spB_no (by decide) ?_
        | (with_reducible refine spB_dec ?_ ?_ <;> intro _ <;> (try (exfalso; first | contradiction | omega | (rename_i hz; refine hz ?_; simp; done) | (simp only [LN] at *; omega))))
        | (with_reducible refine spB_beq ?_ ?_ <;> intro _ <;> (try (exfalso; first | contradiction | omega | (rename_i hz; refine hz ?_; simp; done) | (simp only [LN] at *; omega))))
        | ((with_reducible refine ixN_mk k ?_ ?_ ?_); (focus omega); (focus ((try simp only [LN] at *) <;> omega)))
        | ((with_reducible refine ixN_mk (k + 1) ?_ ?_ ?_); (focus omega); (focus ((try simp only [LN] at *) <;> omega)))
        | with_reducible first | refine Z.rowN_known hx ?_ | refine Z.rowN_known hz ?_
        | with_reducible refine wr_i64 (by first | omega | (simp only [LN] at *; omega)) ?_
        | ((first | (with_reducible apply Z.conZ_mz ?_ (rslots_con _ _ _ ?_ ?_) ?_)); (rotate_left 3); (focus ((repeat' (first | exact trivial | exact rfl | apply And.intro)); done)); (iterate 2 (focus (first | assumption))))
        | with_reducible first | refine Z.drawZ_rule tabOk mixOk ?_ | refine Z.apZ_mk (by kernel_rfl) ?_)
      all_goals (try (conv => whnf))
      all_goals try (show Nat.ble _ _ = true; rfl)
      all_goals first
        | ((refine Z.rndK ((k + 1 + 1, x.task)) (fun s => [0]) rfl rfl rfl rfl ?_ ?_ ?_ ?_); (focus (repeat' (first | exact trivial | exact rfl | apply And.intro))); (focus (repeat' (first | exact trivial | (intro b hb; cases hb; rfl) | apply And.intro))); (focus (refine ⟨by (try dsimp only); omega, HO, fun k2 z2 h2 hz2 => ?_, fun h2 => by (try dsimp only at h2); omega, by (try dsimp only); omega⟩; (try dsimp only at *); have h3 : k2 = k + 1 := (by omega); subst h3; rw [hx] at hz2; cases hz2; rfl)); ((try dsimp only); omega))
  repeat' ((conv => whnf); first
    | (with_reducible refine spB_dec ?_ ?_ <;> intro _ <;> (try (exfalso; first | contradiction | omega | (rename_i hz; refine hz ?_; simp; done) | (simp only [LN] at *; omega)))))
  all_goals (try (conv => whnf))
  all_goals try (show Nat.ble _ _ = true; rfl)
  all_goals first
    | ((first | (with_reducible apply Z.retF1)); (focus (exact rfl)); (repeat' (first | exact trivial | (with_reducible apply Z.frz_one) | (with_reducible apply Z.fq_bool) | apply And.intro)); (all_goals (try exact (fun _ => none))); all_goals ((rw [HO, drop_end hi2]; rfl)))

end Go.Proofs.Ytllnmdmmmkoiaaa
namespace Go.Proofs.Ytllnmdmmmkoiaaa
open Go Go.RowKit Wx
set_option linter.unusedVariables false
set_option linter.unusedSimpArgs false
set_option maxHeartbeats 4000000
theorem placeAt_con (ws : List Wk) (ps : List Pl) (id : Int) (hw : ws.length ≤ 1000) (hp : ps.length ≤ 1000) : Con Try.prog 54 [.agg [.ro false 2 ((ws).map eW), .ro false 2 ((ps).map eL)], .one (.v (.int .i64 id))] (fun rx rK rt => rx = .tup [.one (.v (.int .i64 ((idxT ps id : Nat) : Int))), .one (.v (.bool (decide (idxT ps id < ps.length))))] ∧ rK = [] ∧ rt = 0) := by
  refine Z.con_ofF tabOk 17 Try.f54 _ Try.func54 (by kernel_rfl) rfl rfl rfl rfl ?_
  repeat' ((conv => whnf); first
    | with_reducible first | refine Z.callZ_in tabOk 21 Try.f49 _ Try.func49 (by kernel_rfl) rfl rfl rfl ?_)
  all_goals (try (conv => whnf))
  all_goals try (show Nat.ble _ _ = true; rfl)
  refine Z.loopK tabOk (fun zq : Nat => [(9, .val (.int .i64 (zq : Int)))]) (fun zq : Nat => ([] : Z.Kr)) (fun zq => zq ≤ ps.length ∧ ∀ k x, k < zq → ps[k]? = some x → ¬ x.task = id) (fun zq => ps.length - zq) 0 2 [(0, _), (1, _), (7, _), (8, _)] ⟨rfl, rfl, rfl, rfl, trivial⟩ [(0, some _), (1, some _)] ⟨rfl, rfl, trivial⟩ ?_ ?_ rfl rfl ⟨Nat.zero_le _, fun k x h => by omega⟩ ?_
  · repeat' (first | exact trivial | apply And.intro | exact ⟨_, rfl, Z.Imp.refl _⟩)
  · repeat' (first | exact trivial)
  rintro i HINV
  dsimp only at HINV ⊢
  obtain ⟨HI, HO⟩ := HINV
  by_cases hi : i < ps.length
  · obtain ⟨x, hx⟩ := getElem?_some' (xs := ps) (i := i) hi
    by_cases hxt : x.task = id
    · have hid : idxT ps id = i := idxT_eq HO (fun z hz => by rw [hx] at hz; cases hz; exact hxt) (by omega)
      rw [hid]
      repeat' ((conv => whnf); first
        | (with_reducible refine spB_dec ?_ ?_ <;> intro _ <;> (try (exfalso; first | contradiction | omega | (rename_i hz; refine hz ?_; simp; done) | (simp only [LN] at *; omega))))
        | (with_reducible refine spB_beq ?_ ?_ <;> intro _ <;> (try (exfalso; first | contradiction | omega | (rename_i hz; refine hz ?_; simp; done) | (simp only [LN] at *; omega))))
        | with_reducible first | refine Z.rowN_known hx ?_
        | ((with_reducible apply ixN_litp); (focus (exact rfl)); (focus ((try simp only [LN] at *) <;> omega)))
        | with_reducible first | refine Z.callZ_in tabOk 8 Try.f67 _ Try.func67 (by kernel_rfl) rfl rfl rfl ?_
        | ((with_reducible apply ex_and); exact rfl)
        | with_reducible first | refine Z.drawZ_rule tabOk mixOk ?_ | refine Z.apZ_mk (by kernel_rfl) ?_)
      all_goals (try (conv => whnf))
      all_goals try (show Nat.ble _ _ = true; rfl)
      all_goals first
        | ((first | (with_reducible apply Z.retF2)); (focus (exact rfl)); (repeat' (first | exact trivial | (with_reducible apply Z.frz_one) | (with_reducible apply Z.fq_int) | (with_reducible apply Z.fq_bool) | exact rfl | apply And.intro)); (all_goals (try exact (fun _ => none))); all_goals (first | (refine decide_eq_decide.2 ?_; (try simp only [LN] at *) <;> omega)))
    · skip
      repeat' ((conv => whnf); first
        | (with_reducible refine spB_dec ?_ ?_ <;> intro _ <;> (try (exfalso; first | contradiction | omega | (rename_i hz; refine hz ?_; simp; done) | (simp only [LN] at *; omega))))
        | (with_reducible refine spB_beq ?_ ?_ <;> intro _ <;> (try (exfalso; first | contradiction | omega | (rename_i hz; refine hz ?_; simp; done) | (simp only [LN] at *; omega))))
        | with_reducible first | refine Z.rowN_known hx ?_
        | ((with_reducible apply ixN_litp); (focus (exact rfl)); (focus ((try simp only [LN] at *) <;> omega)))
        | with_reducible refine wr_i64 (by first | omega | (simp only [LN] at *; omega)) ?_
        | with_reducible first | refine Z.callZ_in tabOk 8 Try.f67 _ Try.func67 (by kernel_rfl) rfl rfl rfl ?_
        | ((with_reducible apply ex_and); exact rfl))
      all_goals (try (conv => whnf))
      all_goals try (show Nat.ble _ _ = true; rfl)
      all_goals first
        | ((refine Z.rndK ((i + 1)) (fun s => [0, 1]) rfl rfl rfl rfl ?_ ?_ ?_ ?_); (focus (repeat' (first | exact trivial | exact rfl | apply And.intro))); (focus (repeat' (first | exact trivial | (intro b hb; cases hb; rfl) | apply And.intro))); (focus (refine ⟨by (try dsimp only); omega, fun k z hk hz => ?_⟩; (try dsimp only at hk); by_cases h9 : k < i; (focus (exact HO k z h9 hz)); (have h8 : k = i := (by omega); subst h8; rw [hx] at hz; cases hz; exact hxt))); ((try dsimp only); omega))
  have hid : idxT ps id = ps.length := by rw [show i = ps.length by omega] at HO; exact idxT_eq HO (fun z hz => by simp at hz) (Nat.le_refl _)
  rw [hid]
  repeat' ((conv => whnf); first
    | (with_reducible refine spB_dec ?_ ?_ <;> intro _ <;> (try (exfalso; first | contradiction | omega | (rename_i hz; refine hz ?_; simp; done) | (simp only [LN] at *; omega))))
    | ((with_reducible apply ex_and); exact rfl)
    | with_reducible first | refine Z.drawZ_rule tabOk mixOk ?_ | refine Z.apZ_mk (by kernel_rfl) ?_)
  all_goals (try (conv => whnf))
  all_goals try (show Nat.ble _ _ = true; rfl)
  all_goals first
    | ((first | (with_reducible apply Z.retF2)); (focus (exact rfl)); (repeat' (first | exact trivial | (with_reducible apply Z.frz_one) | (with_reducible apply Z.fq_int) | (with_reducible apply Z.fq_bool) | apply And.intro)); (all_goals (try exact (fun _ => none))); all_goals (first | (refine decide_eq_decide.2 ?_; (try simp only [LN] at *) <;> omega) | (simp; done)))

theorem free_con (ws : List Wk) (ps : List Pl) (hw : ws.length ≤ 1000) (hp : ps.length ≤ 1000) : Con Try.prog 26 [.agg [.ro false 2 ((ws).map eW), .ro false 2 ((ps).map eL)]] (fun rx rK rt => rx = .val (.int .i64 (bif okF ws ps then sumW ws - (ps.length : Int) else 0)) ∧ rK = [] ∧ rt = 0) := by
  refine Z.con_ofF tabOk 20 Try.f26 _ Try.func26 (by kernel_rfl) rfl rfl rfl rfl ?_
  have ck := check_con ws ps (by omega) (by omega)
  cases hk : okF ws ps
  · rw [hk] at ck
    simp only [cond_false] at ck ⊢
    repeat' ((conv => whnf); first
      | with_reducible first | refine spB_t ?_
      | ((with_reducible apply spB_cong); (focus (simp only [beq_self_eq_true, bne_self_eq_false, Bool.true_bne, Bool.false_bne, Bool.bne_true, Bool.bne_false, Bool.true_beq, Bool.false_beq, Bool.not_true, Bool.not_false, Bool.not_not, Int.reduceBEq, Int.reduceBNe, Int.reduceLE, Int.reduceLT, Int.reduceEq, decide_true, decide_false]; rfl)))
      | ((first | (with_reducible refine Z.callZ_mk ?_ (ck) ?_)); (focus ((repeat' (first | exact trivial | exact rfl | apply And.intro)); done))))
    all_goals (try (conv => whnf))
    all_goals try (show Nat.ble _ _ = true; rfl)
    all_goals first
      | ((first | (with_reducible apply Z.retF1)); (focus (exact rfl)); (repeat' (first | exact trivial | (with_reducible apply Z.frz_one) | (with_reducible apply Z.fq_int) | exact rfl | apply And.intro)); (all_goals (try exact (fun _ => none))); all_goals (rfl))
  rw [hk] at ck
  simp only [cond_true] at ck ⊢
  obtain ⟨hkw, hkp, hkc⟩ := okF_all hk
  have hwl := okW_len hkw
  have hpl := okT_len hkp
  have hsw := (okW_all.1 hkw).1
  repeat' ((conv => whnf); first
    | ((with_reducible apply spB_cong); (focus (simp only [beq_self_eq_true, bne_self_eq_false, Bool.true_bne, Bool.false_bne, Bool.bne_true, Bool.bne_false, Bool.true_beq, Bool.false_beq, Bool.not_true, Bool.not_false, Bool.not_not, Int.reduceBEq, Int.reduceBNe, Int.reduceLE, Int.reduceLT, Int.reduceEq, decide_true, decide_false]; rfl)))
    | with_reducible first | refine spB_no (by decide) ?_
    | with_reducible first | refine Z.callZ_in tabOk 36 Try.f47 _ Try.func47 (by kernel_rfl) rfl rfl rfl ?_
    | ((first | (with_reducible refine Z.callZ_mk ?_ (ck) ?_)); (focus ((repeat' (first | exact trivial | exact rfl | apply And.intro)); done))))
  all_goals (try (conv => whnf))
  all_goals try (show Nat.ble _ _ = true; rfl)
  all_goals try (exfalso; (try simp only [LN] at *) <;> omega)
  refine Z.loopK tabOk (fun zq : Nat × Y.MS => [(12, .val (.int .i64 (zq.1 : Int)))]) (fun zq : Nat × Y.MS => ([(2, some (Z.Ob.m zq.2))] : Z.Kr)) (fun zq => zq.1 ≤ ws.length ∧ Z.MapL .i64 enI zq.2 (mapW (ws.take zq.1))) (fun zq => ws.length - zq.1) (0, ⟨[], 0⟩) 3 [(1, _), (3, _), (10, _), (11, _)] ⟨rfl, rfl, rfl, rfl, trivial⟩ [(0, some _), (1, some _)] ⟨rfl, rfl, trivial⟩ ?_ ?_ rfl rfl ⟨Nat.zero_le _, Z.MapL.nil⟩ ?_
  · repeat' (first | exact trivial | apply And.intro | exact ⟨_, rfl, Z.Imp.refl _⟩)
  · repeat' (first | exact trivial | exact (fun b hb => ⟨b, hb, Z.ImpO.refl b⟩) | apply And.intro)
  rintro ⟨i2, es⟩ HINV
  dsimp only at HINV ⊢
  obtain ⟨HI2, HM⟩ := HINV
  by_cases hi2 : i2 < ws.length
  · obtain ⟨w, hx⟩ := getElem?_some' (xs := ws) (i := i2) hi2
    repeat' ((conv => whnf); first
      | (with_reducible refine spB_dec ?_ ?_ <;> intro _ <;> (try (exfalso; first | contradiction | omega | (rename_i hz; refine hz ?_; simp; done) | (simp only [LN] at *; omega))))
      | with_reducible first | refine Z.rowN_known hx ?_
      | ((with_reducible refine Z.MapL.upd' HM (v := w.sl) ?_ ?_); (focus rfl); (intro es3 HM))
      | ((with_reducible apply ixN_litp); (focus (exact rfl)); (focus ((try simp only [LN] at *) <;> omega)))
      | with_reducible refine wr_i64 (by first | omega | (simp only [LN] at *; omega)) ?_)
    all_goals (try (conv => whnf))
    all_goals try (show Nat.ble _ _ = true; rfl)
    all_goals first
      | ((refine Z.rndK ((i2 + 1, es3)) (fun s => [0, 1, 2]) rfl rfl rfl rfl ?_ ?_ ?_ ?_); (focus (repeat' (first | exact trivial | exact rfl | apply And.intro))); (focus (repeat' (first | exact trivial | exact Z.map_sub (Z.MapL.ren HM fun _ => rfl) rfl | (intro b hb; cases hb; rfl) | apply And.intro))); (focus (refine ⟨by dsimp only; omega, ?_⟩; (try dsimp only); rw [← mapW_snoc hsw hx]; exact HM)); ((try dsimp only); omega))
  have hw9 := take_end hi2
  rw [hw9] at HM
  repeat' ((conv => whnf); first
    | (with_reducible refine spB_dec ?_ ?_ <;> intro _ <;> (try (exfalso; first | contradiction | omega | (rename_i hz; refine hz ?_; simp; done) | (simp only [LN] at *; omega)))))
  all_goals (try (conv => whnf))
  all_goals try (show Nat.ble _ _ = true; rfl)
  all_goals try (exfalso; (try simp only [LN] at *) <;> omega)
  refine Z.loopK tabOk (fun zq : Nat × Y.MS => [(25, .val (.int .i64 (zq.1 : Int)))]) (fun zq : Nat × Y.MS => ([(2, some (Z.Ob.m zq.2))] : Z.Kr)) (fun zq => zq.1 ≤ ps.length ∧ ∃ L, Z.MapL .i64 enI zq.2 L ∧ (∀ y, (Z.lookK L y).getD 0 = slF ws y - cnt (ps.take zq.1) y) ∧ sumK L = sumW ws - (zq.1 : Int)) (fun zq => ps.length - zq.1) (0, es) 3 [(3, _), (23, _), (24, _)] ⟨rfl, rfl, rfl, trivial⟩ [(0, some _), (1, some _)] ⟨rfl, rfl, trivial⟩ ?_ ?_ rfl rfl ⟨Nat.zero_le _, _, HM, fun y => by rw [look_mapW]; simp [cnt], by rw [sum_mapW]; simp⟩ ?_
  · repeat' (first | exact trivial | apply And.intro | exact ⟨_, rfl, Z.Imp.refl _⟩)
  · repeat' (first | exact trivial | exact (fun b hb => ⟨b, hb, Z.ImpO.refl b⟩) | apply And.intro)
  rintro ⟨j2, es⟩ HINV
  dsimp only at HINV ⊢
  obtain ⟨HJ2, L, HM, HL, HS⟩ := HINV
  by_cases hj2 : j2 < ps.length
  · obtain ⟨q, hx⟩ := getElem?_some' (xs := ps) (i := j2) hj2
    have hv1 := HL q.wk
    have hv2 := okW_sl hkw q.wk
    have hv3 := cnt_nn (ps := ps.take j2) (y := q.wk)
    have hv4 : (ps.take j2).length ≤ 16 := by rw [List.length_take]; omega
    have hsp := sum_put (L := L) (k := q.wk) (v := (Z.lookK L q.wk).getD 0 - 1)
    repeat' ((conv => whnf); first
      | (with_reducible refine spB_dec ?_ ?_ <;> intro _ <;> (try (exfalso; first | contradiction | omega | (rename_i hz; refine hz ?_; simp; done) | (simp only [LN] at *; omega))))
      | with_reducible first | refine Z.rowN_known hx ?_
      | ((with_reducible refine Z.MapL.look HM (z0 := (0 : Int)) ?_ ?_); (focus rfl))
      | ((with_reducible refine Z.MapL.upd' HM (v := (Z.lookK L q.wk).getD 0 - 1) ?_ ?_); (focus rfl); (intro es3 HM))
      | ((with_reducible apply ixN_litp); (focus (exact rfl)); (focus ((try simp only [LN] at *) <;> omega)))
      | with_reducible refine wr_i64 (by first | omega | (simp only [LN] at *; omega)) ?_)
    all_goals (try (conv => whnf))
    all_goals try (show Nat.ble _ _ = true; rfl)
    all_goals first
      | ((refine Z.rndK ((j2 + 1, es3)) (fun s => [0, 1, 2]) rfl rfl rfl rfl ?_ ?_ ?_ ?_); (focus (repeat' (first | exact trivial | exact rfl | apply And.intro))); (focus (repeat' (first | exact trivial | exact Z.map_sub (Z.MapL.ren HM fun _ => rfl) rfl | (intro b hb; cases hb; rfl) | apply And.intro))); (focus (refine ⟨by dsimp only; omega, _, HM, free_step hx HL rfl, ?_⟩; (try dsimp only); omega)); ((try dsimp only); omega))
  have hp9 := take_end hj2
  rw [hp9] at HL
  have hjl : j2 = ps.length := by omega
  subst hjl
  have hLb : ∀ z ∈ L, 0 ≤ z.2 ∧ z.2 ≤ 8 := free_bnd hkw HM.keys HL ((okC_iff hkw).1 hkc)
  have hsL : sumK L ≤ 32 := by have := sumW_le hkw; omega
  repeat' ((conv => whnf); first
    | (with_reducible refine spB_dec ?_ ?_ <;> intro _ <;> (try (exfalso; first | contradiction | omega | (rename_i hz; refine hz ?_; simp; done) | (simp only [LN] at *; omega))))
    | ((with_reducible apply ex_and); exact rfl))
  all_goals (try (conv => whnf))
  all_goals try (show Nat.ble _ _ = true; rfl)
  all_goals try (exfalso; (try simp only [LN] at *) <;> omega)
  refine Z.loopK tabOk (fun zq : List Nat × List (Int × Int) × Int => [(3, .val (.int .i64 zq.2.2))]) (fun zq : List Nat × List (Int × Int) × Int => ([(3, some (Z.Ob.i ⟨2, es.c, zq.1, es.c⟩))] : Z.Kr)) (fun zq => Z.LeftL .i64 enI es zq.1 zq.2.1 ∧ zq.2.2 = sumK L - sumK zq.2.1 ∧ (∀ z ∈ zq.2.1, 0 ≤ z.2 ∧ z.2 ≤ 8) ∧ 0 ≤ zq.2.2) (fun zq => zq.2.1.length) ([], L, 0) 4 [(11, _)] ⟨rfl, trivial⟩ [(0, some _), (1, some _), (2, some _)] ⟨rfl, rfl, rfl, trivial⟩ ?_ ?_ rfl rfl ⟨HM.left, (by (try dsimp only); omega), hLb, Int.le_refl 0⟩ ?_
  · repeat' (first | exact trivial | apply And.intro | exact ⟨_, rfl, Z.Imp.refl _⟩)
  · repeat' (first | exact trivial | exact (fun b hb => ⟨b, hb, Z.ImpO.refl b⟩) | apply And.intro)
  rintro ⟨seen, r, n⟩ HINV
  dsimp only at HINV ⊢
  obtain ⟨HR, HN, HY, HN0⟩ := HINV
  repeat' ((conv => whnf); first
    | with_reducible first | refine spB_t ?_
    | with_reducible first | refine spB_no (by decide) ?_
    | ((with_reducible refine Z.MapL.next HM ?_ ?_ HR ?_ ?_); (focus rfl); (focus rfl); (focus intro hr0); rotate_left; (focus intro y9 b9 r9 hp9 hl9 hm9; have hy9 := HY y9 (hp9.mem_iff.2 (by simp)); have hsp := sum_perm hp9; rw [sumK_cons] at hsp; have hr9 := sumK_nn fun z hz => (HY z (hp9.mem_iff.2 (List.mem_cons_of_mem _ hz))).1))
    | ((with_reducible refine Z.MapL.entry HM hm9 (s := seen) ?_ ?_ ?_); (focus rfl); (focus (exact rfl)))
    | with_reducible refine wr_i64 (by first | omega | (simp only [LN] at *; omega)) ?_)
  all_goals (try (conv => whnf))
  all_goals try (show Nat.ble _ _ = true; rfl)
  all_goals first
    | ((refine Z.rndK ((seen ++ [b9], r9, n + y9.2)) (fun s => [0, 1, 2, 3]) rfl rfl rfl rfl ?_ ?_ ?_ ?_); (focus (repeat' (first | exact trivial | exact rfl | apply And.intro))); (focus (repeat' (first | exact trivial | exact Z.map_sub (Z.MapL.ren HM fun _ => rfl) rfl | exact Z.it_sub rfl | (intro b hb; cases hb; rfl) | apply And.intro))); (focus (exact ⟨hl9, (by (try dsimp only); omega), fun z hz => HY z (hp9.mem_iff.2 (List.mem_cons_of_mem _ hz)), (by (try dsimp only); omega)⟩)); (have h8 := hp9.length_eq; simp only [List.length_cons] at h8; (try dsimp only); omega))
    | ((first | (with_reducible apply Z.retF1)); (focus (exact rfl)); (repeat' (first | exact trivial | (with_reducible apply Z.frz_one) | (with_reducible apply Z.fq_int) | apply And.intro)); (all_goals (try exact (fun _ => none))); all_goals ((have h7 : sumK r = 0 := by rw [hr0]; rfl); first | (rw [HN, h7, HS]; congr 3; omega) | (rw [HN, h7, HS]; simp; done)))

end Go.Proofs.Ytllnmdmmmkoiaaa
namespace Go.Proofs.Ytllnmdmmmkoiaaa
open Go Go.RowKit Wx
set_option linter.unusedVariables false
set_option linter.unusedSimpArgs false
set_option maxHeartbeats 4000000
theorem rsame_con (a b : List Wk) (p q : List Pl) (hla : a.length ≤ 1000) (hlp : p.length ≤ 1000) : Con Try.prog 16 [.agg [.ro false 2 ((a).map eW), .ro false 2 ((p).map eL)], .agg [.ro false 2 ((b).map eW), .ro false 2 ((q).map eL)]] (fun rx rK rt => rx = .val (.bool (decide (a = b ∧ p = q))) ∧ rK = [] ∧ rt = 0) := by
  refine Z.con_ofF tabOk 59 Try.f16 _ Try.func16 (by kernel_rfl) rfl rfl rfl rfl ?_
  repeat' ((conv => whnf); first
    | with_reducible first | refine spB_t ?_
    | with_reducible first | refine spB_no (by decide) ?_
    | (with_reducible refine spB_bne ?_ ?_ <;> intro _ <;> (try (exfalso; first | contradiction | omega | (rename_i hz; with_reducible exact absurd rfl hz)))))
  all_goals (try (conv => whnf))
  all_goals try (show Nat.ble _ _ = true; rfl)
  all_goals try ((first | (with_reducible apply Z.retF1)); (focus (exact rfl)); (repeat' (first | exact trivial | (with_reducible apply Z.frz_one) | (with_reducible apply Z.fq_bool) | apply And.intro)); (all_goals (try exact (fun _ => none))); all_goals (first | (exact bool_f (fun h9 => ne_len (by simp only [LN] at *; omega) h9.1)) | (exact bool_f (fun h9 => ne_len (by simp only [LN] at *; omega) h9.2))))
  refine Z.loopK tabOk (fun zq : Nat => [(5, .val (.int .i64 (zq : Int)))]) (fun zq : Nat => ([] : Z.Kr)) (fun zq => zq ≤ a.length ∧ a.length = b.length ∧ p.length = q.length ∧ a.take zq = b.take zq) (fun zq => a.length - zq) 0 2 [(2, _), (3, _)] ⟨rfl, rfl, trivial⟩ [(0, some _), (1, some _)] ⟨rfl, rfl, trivial⟩ ?_ ?_ rfl rfl ⟨Nat.zero_le _, by simp only [LN] at *; omega, by simp only [LN] at *; omega, rfl⟩ ?_
  · repeat' (first | exact trivial | apply And.intro | exact ⟨_, rfl, Z.Imp.refl _⟩)
  · repeat' (first | exact trivial)
  rintro i HINV
  dsimp only at HINV ⊢
  obtain ⟨HI, HL, HL2, HT⟩ := HINV
  by_cases hi : i < a.length
  · obtain ⟨x, hx⟩ := getElem?_some' (xs := a) (i := i) hi
    obtain ⟨y, hy⟩ := getElem?_some' (xs := b) (i := i) (by omega)
    by_cases hxy : x = y
    · subst hxy
      repeat' ((conv => whnf); first
        | ((with_reducible apply spB_cong); (focus (simp only [beq_self_eq_true, bne_self_eq_false, Bool.true_bne, Bool.false_bne, Bool.bne_true, Bool.bne_false, Bool.true_beq, Bool.false_beq, Bool.not_true, Bool.not_false, Bool.not_not, Int.reduceBEq, Int.reduceBNe, Int.reduceLE, Int.reduceLT, Int.reduceEq, decide_true, decide_false, bne_self_eq_false, beq_self_eq_true]; rfl)))
        | with_reducible first | refine spB_no (by decide) ?_
        | (with_reducible refine spB_dec ?_ ?_ <;> intro _ <;> (try (exfalso; first | contradiction | omega | (rename_i hz; refine hz ?_; simp; done) | (simp only [LN] at *; omega))))
        | with_reducible first | refine Z.rowN_known hx ?_ | refine Z.rowN_known hy ?_
        | ((with_reducible apply ixN_litp); (focus (exact rfl)); (focus ((try simp only [LN] at *) <;> omega)))
        | with_reducible refine wr_i64 (by first | omega | (simp only [LN] at *; omega)) ?_
        | with_reducible first | refine Z.drawZ_rule tabOk mixOk ?_ | refine Z.apZ_mk (by kernel_rfl) ?_)
      all_goals (try (conv => whnf))
      all_goals try (show Nat.ble _ _ = true; rfl)
      all_goals first
        | ((refine Z.rndK (i + 1) (fun s => [0, 1]) rfl rfl rfl rfl ?_ ?_ ?_ ?_); (focus (repeat' (first | exact trivial | exact rfl | apply And.intro))); (focus (repeat' (first | exact trivial | (intro b hb; cases hb; rfl) | apply And.intro))); (focus (refine ⟨by (try dsimp only); omega, HL, HL2, eq_step HT hx hy rfl⟩)); ((try dsimp only); omega))
    · skip
      repeat' ((conv => whnf); first
        | with_reducible first | refine spB_not ?_
        | (with_reducible refine spB_dec ?_ ?_ <;> intro _ <;> (try (exfalso; first | contradiction | omega | (rename_i hz; refine hz ?_; simp; done) | (simp only [LN] at *; omega))))
        | (with_reducible refine spB_mk ?_ ?_ <;> intro _ <;> (try (exfalso; first | contradiction | omega | (rename_i hz; refine hz ?_; simp; done) | (simp only [LN] at *; omega))))
        | with_reducible first | refine Z.rowN_known hx ?_ | refine Z.rowN_known hy ?_
        | ((with_reducible apply ixN_litp); (focus (exact rfl)); (focus ((try simp only [LN] at *) <;> omega)))
        | with_reducible refine wr_i64 (by first | omega | (simp only [LN] at *; omega)) ?_
        | with_reducible first | refine Z.drawZ_rule tabOk mixOk ?_ | refine Z.apZ_mk (by kernel_rfl) ?_)
      all_goals (try (conv => whnf))
      all_goals try (show Nat.ble _ _ = true; rfl)
      all_goals first
        | ((first | (with_reducible apply Z.retF1)); (focus (exact rfl)); (repeat' (first | exact trivial | (with_reducible apply Z.frz_one) | (with_reducible apply Z.fq_bool) | apply And.intro)); (all_goals (try exact (fun _ => none))); all_goals ((exact bool_f (fun h9 => ne_at hx hy hxy h9.1))))
        | (exfalso; cases x; cases y; simp_all; done)
  have hab := eq_end HL HT hi
  subst hab
  repeat' ((conv => whnf); first
    | (with_reducible refine spB_dec ?_ ?_ <;> intro _ <;> (try (exfalso; first | contradiction | omega | (rename_i hz; refine hz ?_; simp; done) | (simp only [LN] at *; omega)))))
  all_goals (try (conv => whnf))
  all_goals try (show Nat.ble _ _ = true; rfl)
  all_goals try (exfalso; (try simp only [LN] at *) <;> omega)
  refine Z.loopK tabOk (fun zq : Nat => [(6, .val (.int .i64 (zq : Int)))]) (fun zq : Nat => ([] : Z.Kr)) (fun zq => zq ≤ p.length ∧ p.take zq = q.take zq) (fun zq => p.length - zq) 0 2 [(2, _), (3, _)] ⟨rfl, rfl, trivial⟩ [(0, some _), (1, some _)] ⟨rfl, rfl, trivial⟩ ?_ ?_ rfl rfl ⟨Nat.zero_le _, rfl⟩ ?_
  · repeat' (first | exact trivial | apply And.intro | exact ⟨_, rfl, Z.Imp.refl _⟩)
  · repeat' (first | exact trivial)
  rintro i2 HINV
  dsimp only at HINV ⊢
  obtain ⟨HI2, HT2⟩ := HINV
  by_cases hi2 : i2 < p.length
  · obtain ⟨x, hx⟩ := getElem?_some' (xs := p) (i := i2) hi2
    obtain ⟨y, hy⟩ := getElem?_some' (xs := q) (i := i2) (by omega)
    by_cases hxy : x = y
    · subst hxy
      repeat' ((conv => whnf); first
        | ((with_reducible apply spB_cong); (focus (simp only [beq_self_eq_true, bne_self_eq_false, Bool.true_bne, Bool.false_bne, Bool.bne_true, Bool.bne_false, Bool.true_beq, Bool.false_beq, Bool.not_true, Bool.not_false, Bool.not_not, Int.reduceBEq, Int.reduceBNe, Int.reduceLE, Int.reduceLT, Int.reduceEq, decide_true, decide_false, bne_self_eq_false, beq_self_eq_true]; rfl)))
        | with_reducible first | refine spB_no (by decide) ?_
        | (with_reducible refine spB_dec ?_ ?_ <;> intro _ <;> (try (exfalso; first | contradiction | omega | (rename_i hz; refine hz ?_; simp; done) | (simp only [LN] at *; omega))))
        | with_reducible first | refine Z.rowN_known hx ?_ | refine Z.rowN_known hy ?_
        | ((with_reducible apply ixN_litp); (focus (exact rfl)); (focus ((try simp only [LN] at *) <;> omega)))
        | with_reducible refine wr_i64 (by first | omega | (simp only [LN] at *; omega)) ?_
        | with_reducible first | refine Z.drawZ_rule tabOk mixOk ?_ | refine Z.apZ_mk (by kernel_rfl) ?_)
      all_goals (try (conv => whnf))
      all_goals try (show Nat.ble _ _ = true; rfl)
      all_goals first
        | ((refine Z.rndK (i2 + 1) (fun s => [0, 1]) rfl rfl rfl rfl ?_ ?_ ?_ ?_); (focus (repeat' (first | exact trivial | exact rfl | apply And.intro))); (focus (repeat' (first | exact trivial | (intro b hb; cases hb; rfl) | apply And.intro))); (focus (refine ⟨by (try dsimp only); omega, eq_step HT2 hx hy rfl⟩)); ((try dsimp only); omega))
    · skip
      repeat' ((conv => whnf); first
        | with_reducible first | refine spB_not ?_
        | (with_reducible refine spB_dec ?_ ?_ <;> intro _ <;> (try (exfalso; first | contradiction | omega | (rename_i hz; refine hz ?_; simp; done) | (simp only [LN] at *; omega))))
        | (with_reducible refine spB_mk ?_ ?_ <;> intro _ <;> (try (exfalso; first | contradiction | omega | (rename_i hz; refine hz ?_; simp; done) | (simp only [LN] at *; omega))))
        | with_reducible first | refine Z.rowN_known hx ?_ | refine Z.rowN_known hy ?_
        | ((with_reducible apply ixN_litp); (focus (exact rfl)); (focus ((try simp only [LN] at *) <;> omega)))
        | with_reducible refine wr_i64 (by first | omega | (simp only [LN] at *; omega)) ?_
        | with_reducible first | refine Z.drawZ_rule tabOk mixOk ?_ | refine Z.apZ_mk (by kernel_rfl) ?_)
      all_goals (try (conv => whnf))
      all_goals try (show Nat.ble _ _ = true; rfl)
      all_goals first
        | ((first | (with_reducible apply Z.retF1)); (focus (exact rfl)); (repeat' (first | exact trivial | (with_reducible apply Z.frz_one) | (with_reducible apply Z.fq_bool) | apply And.intro)); (all_goals (try exact (fun _ => none))); all_goals ((exact bool_f (fun h9 => ne_at hx hy hxy h9.2))))
        | (exfalso; cases x; cases y; simp_all; done)
  have hpq := eq_end HL2 HT2 hi2
  repeat' ((conv => whnf); first
    | (with_reducible refine spB_dec ?_ ?_ <;> intro _ <;> (try (exfalso; first | contradiction | omega | (rename_i hz; refine hz ?_; simp; done) | (simp only [LN] at *; omega)))))
  all_goals (try (conv => whnf))
  all_goals try (show Nat.ble _ _ = true; rfl)
  all_goals first
    | ((first | (with_reducible apply Z.retF1)); (focus (exact rfl)); (repeat' (first | exact trivial | (with_reducible apply Z.frz_one) | (with_reducible apply Z.fq_bool) | apply And.intro)); (all_goals (try exact (fun _ => none))); all_goals ((exact bool_t ⟨rfl, hpq⟩)))

theorem over_con (ws : List Wk) (ps : List Pl) (hw : ws.length ≤ 9223372036854775807) (hp : ps.length ≤ 9223372036854775807) : Con Try.prog 10 [.agg [.ro false 2 ((ws).map eW), .ro false 2 ((ps).map eL)]] (fun rx rK rt => rx = .val (.bool (decide (50 < ws.length ∨ 100 < ps.length))) ∧ rK = [] ∧ rt = 0) := by
  refine Z.con_ofF tabOk 13 Try.f10 _ Try.func10 (by kernel_rfl) rfl rfl rfl rfl ?_
  repeat' ((conv => whnf); first
    | with_reducible first | refine spB_t ?_
    | with_reducible first | refine spB_no (by decide) ?_
    | (with_reducible refine spB_dec ?_ ?_ <;> intro _ <;> (try (exfalso; first | contradiction | omega | (rename_i hz; with_reducible exact absurd rfl hz)))))
  all_goals (try (conv => whnf))
  all_goals try (show Nat.ble _ _ = true; rfl)
  all_goals first
    | ((first | (with_reducible apply Z.retF1)); (focus (exact rfl)); (repeat' (first | exact trivial | (with_reducible apply Z.frz_one) | (with_reducible apply Z.fq_bool) | apply And.intro)); (all_goals (try exact (fun _ => none))); all_goals (first | (exact bool_t (by (try simp only [LN] at *) <;> omega)) | (refine decide_eq_decide.2 ?_; (try simp only [LN] at *) <;> omega)))

theorem copied_con (ws : List Wk) (ps : List Pl) (hw : ws.length ≤ 1000) (hp : ps.length ≤ 1000) : Con Try.prog 11 [.agg [.ro false 2 ((ws).map eW), .ro false 2 ((ps).map eL)]] (fun rx rK rt => rx = .pl (.agg [.ro true 2 ((ws).map eW), .ro true 2 ((ps).map eL)]) ∧ rK = [] ∧ rt = 0) := by
  refine Z.con_ofF tabOk 12 Try.f11 _ Try.func11 (by kernel_rfl) rfl rfl rfl rfl ?_
  repeat' ((conv => whnf); first
    | ((with_reducible refine apdE_n ?_); (with_reducible refine apdN.mk ?_ ?_ ?_ ?_ ?_ ?_); (focus (simp; done)); (focus (exact one_map2 fun _ => rfl)); (focus ((try simp only [LN] at *) <;> omega)); (focus ((try simp only [LN] at *) <;> omega)); (focus ((try simp only [LN] at *) <;> omega)))
    | with_reducible first | refine Z.drawZ_rule tabOk mixOk ?_ | refine Z.apZ_mk (by kernel_rfl) ?_)
  all_goals (try (conv => whnf))
  all_goals try (show Nat.ble _ _ = true; rfl)
  all_goals first
    | ((first | (with_reducible apply Z.retF1)); (focus (exact rfl)); (repeat' (first | exact trivial | (with_reducible apply Z.frz_agg) | ((with_reducible apply Z.fq_src); (focus (exact rfl)); (focus (first | (simp only [List.length_map, Nat.zero_add]; done))); (focus (exact fun _ => rfl))) | exact rfl | apply And.intro)); (all_goals (try exact (fun _ => none))); all_goals (rfl))

end Go.Proofs.Ytllnmdmmmkoiaaa
namespace Go.Proofs.Ytllnmdmmmkoiaaa
open Go Go.RowKit Wx
set_option linter.unusedVariables false
set_option linter.unusedSimpArgs false
set_option maxHeartbeats 4000000
theorem clonep_con_nil   : Con Try.prog 60 [.one (.v (.slice none 0 0))] (fun rx rK rt => rx = .c (.ro true 2 (([] : List Pl).map eL)) ∧ rK = [] ∧ rt = 0) := by
  refine Z.con_ofF tabOk 8 Try.f60 _ Try.func60 (by kernel_rfl) rfl rfl rfl rfl ?_
  repeat' ((conv => whnf); first
    | with_reducible first | refine spB_t ?_)
  all_goals (try (conv => whnf))
  all_goals first
    | ((first | (with_reducible apply Z.retF1)); (focus (exact rfl)); (repeat' (first | exact trivial | (with_reducible apply Z.frz_one) | (exact Z.frz_nil) | apply And.intro)); (all_goals (try exact (fun _ => none))); all_goals (rfl))

theorem clonep_con_emp (ad : Addr) (cap : Nat)  : Con Try.prog 60 [.one (.v (.slice (some ad) 0 cap))] (fun rx rK rt => rx = .c (.ro true 2 (([] : List Pl).map eL)) ∧ rK = [] ∧ rt = 0) := by
  refine Z.con_ofF tabOk 8 Try.f60 _ Try.func60 (by kernel_rfl) rfl rfl rfl rfl ?_
  repeat' ((conv => whnf); first
    | with_reducible first | refine spB_no (by decide) ?_
    | ((with_reducible refine apdE_r ?_); (with_reducible refine aprN.mk ⟨_, rfl, ?_⟩ ?_ ?_ ?_ ?_); (focus ((try simp only [LN] at *) <;> omega)); (focus (first | rfl)); (focus (first | exact one_all (by rfl))); (focus ((try simp only [LN] at *) <;> omega))))
  all_goals (try (conv => whnf))
  all_goals first
    | ((first | (with_reducible apply Z.retF1)); (focus (exact rfl)); (repeat' (first | exact trivial | (with_reducible apply Z.frz_one) | (exact Z.frz_osl0 rfl rfl rfl) | apply And.intro)); (all_goals (try exact (fun _ => none))); all_goals (rfl))

theorem clonep_con_ne (x : Pl) (l : List Pl) (hl : l.length ≤ 1000) : Con Try.prog 60 [.one (.ro false 2 ((x :: l).map eL))] (fun rx rK rt => rx = .c (.ro true 2 ((x :: l).map eL)) ∧ rK = [] ∧ rt = 0) := by
  refine Z.con_ofF tabOk 8 Try.f60 _ Try.func60 (by kernel_rfl) rfl rfl rfl rfl ?_
  repeat' ((conv => whnf); first
    | with_reducible first | refine spB_no (by decide) ?_
    | ((with_reducible refine apdE_k ?_); (with_reducible refine apkN.mk ⟨_, rfl, ?_⟩ ?_); (focus ((try simp only [LN] at *) <;> omega)))
    | ((with_reducible refine apdN.mk ?_ ?_ ?_ ?_ ?_ ?_); (focus (first | (simp; done))); (focus (first | exact one_map2 (fun _ => rfl))); (focus ((try simp only [LN] at *) <;> omega)); (focus ((try simp only [LN] at *) <;> omega)); (focus ((try simp only [LN] at *) <;> omega))))
  all_goals (try (conv => whnf))
  all_goals first
    | ((first | (with_reducible apply Z.retF1)); (focus (exact rfl)); (repeat' (first | exact trivial | (with_reducible apply Z.frz_one) | ((with_reducible apply Z.fq_src); (focus (exact rfl)); (focus (first | (simp only [List.length_map, Nat.zero_add]; done))); (focus (exact fun _ => rfl))) | exact rfl | apply And.intro)); (all_goals (try exact (fun _ => none))); all_goals (rfl))

theorem clonep_con (l : List Pl) (hl : l.length ≤ 1000) : Con Try.prog 60 [.one (.ro false 2 (l.map eL))] (fun rx rK rt => rx = .c (.ro true 2 (l.map eL)) ∧ rK = [] ∧ rt = 0) := by
  cases l with
  | nil => exact Z.con_nilcases (fun _ => clonep_con_nil) (fun _ ad cap => clonep_con_emp ad cap) (fun r rs h => by cases h)
  | cons x l => exact clonep_con_ne x l (by simp only [List.length_cons] at hl; omega)
end Go.Proofs.Ytllnmdmmmkoiaaa
namespace Go.Proofs.Ytllnmdmmmkoiaaa
open Go Go.RowKit Wx
set_option linter.unusedVariables false
set_option linter.unusedSimpArgs false
set_option maxHeartbeats 4000000
/-! ### What is wanted -/
def okTs (ts : List Int) : Bool := ts.all fun t => decide (0 ≤ t ∧ t < 16)
def freshT (ps : List Pl) (ts : List Int) : Bool := decide ts.Nodup && ts.all fun t => decide (¬ idxT ps t < ps.length)
def wantT (ws : List Wk) (ps : List Pl) (ts : List Int) : Int := bif okTs ts then (bif freshT ps ts then (if (ts.length : Int) > sumW ws - (ps.length : Int) then 6 else 0) else 5) else 2
theorem all_snoc {α : Type} {p : α → Bool} {l : List α} {i : Nat} {x : α} (h : l[i]? = some x) : (l.take (i + 1)).all p = ((l.take i).all p && p x) := by
  rw [take_snoc h, List.all_append]; simp
theorem all_bad {α : Type} {p : α → Bool} {l : List α} {i : Nat} {x : α} (h : l[i]? = some x) (hp : p x = false) : l.all p = false := by
  rw [Bool.eq_false_iff]; intro g
  have := List.all_eq_true.1 g x (List.mem_of_getElem? h)
  rw [hp] at this; cases this
theorem nod_snoc {l : List Int} {i : Nat} {x : Int} (h : l[i]? = some x) (hn : (l.take i).Nodup) (hx : x ∉ l.take i) : (l.take (i + 1)).Nodup := by
  rw [take_snoc h, List.nodup_append]
  exact ⟨hn, by simp, fun a ha b hb => by simp at hb; subst hb; exact fun e => hx (e ▸ ha)⟩
theorem nod_bad {l : List Int} {i : Nat} {x : Int} (h : l[i]? = some x) (hx : x ∈ l.take i) : ¬ l.Nodup := by
  intro hn
  obtain ⟨j, hj⟩ := List.getElem?_of_mem hx
  obtain ⟨hjl, hje⟩ := List.getElem?_eq_some_iff.1 hj
  obtain ⟨hi, hie⟩ := List.getElem?_eq_some_iff.1 h
  rw [List.length_take] at hjl
  rw [List.getElem_take] at hje
  have := (List.nodup_iff_pairwise_ne.1 hn)
  exact (List.pairwise_iff_getElem.1 this j i (by omega) hi (by omega)) (by rw [hje, hie])
def putS (sn : Nat → Bool) (m : Nat) : Nat → Bool := fun k => Nat.beq k m || sn k
theorem putS_mem {l : List Int} {i m : Nat} {sn : Nat → Bool} (h : l[i]? = some (m : Int)) (hs : ∀ k, k < 16 → sn k = decide ((k : Int) ∈ l.take i)) : ∀ k, k < 16 → putS sn m k = decide ((k : Int) ∈ l.take (i + 1)) := fun k hk => by
  rw [take_snoc h]
  unfold putS
  rw [hs k hk]
  by_cases e : k = m
  · subst e; simp
  · have : ¬ (k : Int) = (m : Int) := fun h => e (by omega)
    cases hb : Nat.beq k m with
    | true => exact absurd (Nat.eq_of_beq_eq_true hb) e
    | false => simp [this]
theorem fresh_there {ps : List Pl} {ts : List Int} {i : Nat} {t : Int} (h : ts[i]? = some t) (ht : idxT ps t < ps.length) : freshT ps ts = false := by
  unfold freshT; rw [all_bad h (by simp [ht]), Bool.and_false]
theorem fresh_twice {ps : List Pl} {ts : List Int} {i : Nat} {t : Int} (h : ts[i]? = some t) (ht : t ∈ ts.take i) : freshT ps ts = false := by
  unfold freshT; rw [decide_eq_false (nod_bad h ht), Bool.false_and]
theorem fresh_yes {ps : List Pl} {ts : List Int} (h : ts.Nodup) (g : ∀ t ∈ ts, ¬ idxT ps t < ps.length) : freshT ps ts = true := by
  unfold freshT; rw [decide_eq_true h, Bool.true_and, List.all_eq_true]
  exact fun t ht => decide_eq_true (g t ht)
theorem not_mem16 {t : Int} (h : 0 ≤ t) (h2 : t < 16) : ∃ m : Nat, t = (m : Int) ∧ m < 16 := ⟨t.toNat, by omega, by omega⟩
theorem wanted_con (ws : List Wk) (ps : List Pl) (ts : List Int) (hw : ws.length ≤ 1000) (hp : ps.length ≤ 1000) (ht : ts.length ≤ 1000) (hk : okF ws ps = true) : Con Try.prog 46 [.agg [.ro false 2 ((ws).map eW), .ro false 2 ((ps).map eL)], .one (.ro false 1 (ts.map eI))] (fun rx rK rt => rx = .val (.int .i64 (wantT ws ps ts)) ∧ rK = [] ∧ rt = 0) := by
  refine Z.con_ofF tabOk 48 Try.f46 _ Try.func46 (by kernel_rfl) rfl rfl rfl rfl ?_
  have cf := free_con ws ps (by omega) (by omega)
  rw [hk] at cf
  simp only [cond_true] at cf
  repeat' ((conv => whnf); first
    | with_reducible first | refine spB_t ?_)
  all_goals (try (conv => whnf))
  all_goals try (show Nat.ble _ _ = true; rfl)
  refine Z.loopK tabOk (fun zq : Nat => [(14, .val (.int .i64 (zq : Int)))]) (fun zq : Nat => ([] : Z.Kr)) (fun zq => zq ≤ ts.length ∧ okTs (ts.take zq) = true) (fun zq => ts.length - zq) 0 1 [(1, _), (2, _), (12, _), (13, _)] ⟨rfl, rfl, rfl, rfl, trivial⟩ [(0, some _)] ⟨rfl, trivial⟩ ?_ ?_ rfl rfl ⟨Nat.zero_le _, rfl⟩ ?_
  · repeat' (first | exact trivial | apply And.intro | exact ⟨_, rfl, Z.Imp.refl _⟩)
  · repeat' (first | exact trivial)
  rintro i HINV
  dsimp only at HINV ⊢
  obtain ⟨HI, HO⟩ := HINV
  by_cases hi : i < ts.length
  · obtain ⟨t, hx⟩ := getElem?_some' (xs := ts) (i := i) hi
    repeat' ((conv => whnf); first
      | with_reducible first | refine spB_t ?_
      | ((with_reducible apply spB_cong); (focus (simp only [beq_self_eq_true, bne_self_eq_false, Bool.true_bne, Bool.false_bne, Bool.bne_true, Bool.bne_false, Bool.true_beq, Bool.false_beq, Bool.not_true, Bool.not_false, Bool.not_not, Int.reduceBEq, Int.reduceBNe, Int.reduceLE, Int.reduceLT, Int.reduceEq, decide_true, decide_false]; rfl)))
      | with_reducible first | refine spB_no (by decide) ?_ | refine spB_not ?_
      | (with_reducible refine spB_dec ?_ ?_ <;> intro _ <;> (try (exfalso; first | contradiction | omega | (rename_i hz; refine hz ?_; simp; done) | (rename_i hz; simp at hz; done) | (simp only [LN] at *; omega))))
      | with_reducible first | refine Z.rowN_known hx ?_
      | ((with_reducible apply ixN_litp); (focus (exact rfl)); (focus ((try simp only [LN] at *) <;> omega)))
      | with_reducible refine wr_i64 (by first | omega | (simp only [LN] at *; omega)) ?_
      | with_reducible first | refine Z.callZ_in tabOk 9 Try.f56 _ Try.func56 (by kernel_rfl) rfl rfl rfl ?_
      | ((with_reducible apply ex_and); exact rfl))
    all_goals (try (conv => whnf))
    all_goals try (show Nat.ble _ _ = true; rfl)
    all_goals first
      | ((refine Z.rndK ((i + 1)) (fun s => [0]) rfl rfl rfl rfl ?_ ?_ ?_ ?_); (focus (repeat' (first | exact trivial | exact rfl | apply And.intro))); (focus (repeat' (first | exact trivial | (intro b hb; cases hb; rfl) | apply And.intro))); (focus (refine ⟨by (try dsimp only); omega, ?_⟩; (try dsimp only); unfold okTs at HO ⊢; rw [all_snoc hx, HO, Bool.true_and]; exact decide_eq_true (by omega))); ((try dsimp only); omega))
      | ((first | (with_reducible apply Z.retF1)); (focus (exact rfl)); (repeat' (first | exact trivial | (with_reducible apply Z.frz_one) | (with_reducible apply Z.fq_int) | apply And.intro)); (all_goals (try exact (fun _ => none))); all_goals ((have hf : wantT ws ps ts = 2 := by unfold wantT; rw [show okTs ts = false from all_bad hx (decide_eq_false (by omega))] <;> rfl); rw [hf]; try rfl))
  have hok : okTs ts = true := by rw [take_end hi] at HO; exact HO
  repeat' ((conv => whnf); first
    | (with_reducible refine spB_dec ?_ ?_ <;> intro _ <;> (try (exfalso; first | contradiction | omega | (rename_i hz; refine hz ?_; simp; done) | (rename_i hz; simp at hz; done) | (simp only [LN] at *; omega)))))
  all_goals (try (conv => whnf))
  all_goals try (show Nat.ble _ _ = true; rfl)
  all_goals try (exfalso; (try simp only [LN] at *) <;> omega)
  refine Z.loopK tabOk (fun zq : Nat × (Nat → Bool) => [(24, .val (.int .i64 (zq.1 : Int)))]) (fun zq : Nat × (Nat → Bool) => ([(1, some (Z.Ob.b ⟨[[.v (.bool (zq.2 0)), .v (.bool (zq.2 1)), .v (.bool (zq.2 2)), .v (.bool (zq.2 3)), .v (.bool (zq.2 4)), .v (.bool (zq.2 5)), .v (.bool (zq.2 6)), .v (.bool (zq.2 7)), .v (.bool (zq.2 8)), .v (.bool (zq.2 9)), .v (.bool (zq.2 10)), .v (.bool (zq.2 11)), .v (.bool (zq.2 12)), .v (.bool (zq.2 13)), .v (.bool (zq.2 14)), .v (.bool (zq.2 15))]], 16, 82, true⟩))] : Z.Kr)) (fun zq => zq.1 ≤ ts.length ∧ (ts.take zq.1).Nodup ∧ (∀ t ∈ ts.take zq.1, ¬ idxT ps t < ps.length) ∧ ∀ k, k < 16 → zq.2 k = decide ((k : Int) ∈ ts.take zq.1)) (fun zq => ts.length - zq.1) (0, fun _ => false) 2 [(1, _), (2, _), (7, _), (22, _), (23, _)] ⟨rfl, rfl, rfl, rfl, rfl, trivial⟩ [(0, some _)] ⟨rfl, trivial⟩ ?_ ?_ rfl rfl ⟨Nat.zero_le _, List.nodup_nil, (fun t ht => by simp at ht), fun k hk => by simp⟩ ?_
  · repeat' (first | exact trivial | apply And.intro | exact ⟨_, rfl, Z.Imp.refl _⟩)
  · repeat' (first | exact trivial | exact (fun b hb => ⟨b, hb, Z.ImpO.refl b⟩) | apply And.intro)
  rintro ⟨j, sn⟩ HINV
  dsimp only at HINV ⊢
  obtain ⟨HJ, HN, HP, HS⟩ := HINV
  by_cases hj : j < ts.length
  · obtain ⟨t, hx⟩ := getElem?_some' (xs := ts) (i := j) hj
    have htr := of_decide_eq_true (List.all_eq_true.1 hok t (List.mem_of_getElem? hx))
    obtain ⟨m, rfl, hm⟩ := not_mem16 htr.1 htr.2
    have cp := placeAt_con ws ps (m : Int) (by omega) (by omega)
    by_cases hth : idxT ps (m : Int) < ps.length
    · rw [decide_eq_true hth] at cp
      repeat' ((conv => whnf); first
        | with_reducible first | refine spB_t ?_
        | (with_reducible refine spB_dec ?_ ?_ <;> intro _ <;> (try (exfalso; first | contradiction | omega | (rename_i hz; refine hz ?_; simp; done) | (rename_i hz; simp at hz; done) | (simp only [LN] at *; omega))))
        | with_reducible first | refine Z.rowN_known hx ?_
        | ((with_reducible apply ixN_litp); (focus (exact rfl)); (focus ((try simp only [LN] at *) <;> omega)))
        | ((first | (with_reducible refine Z.callZ_mk ?_ (cp) ?_)); (focus ((repeat' (first | exact trivial | exact rfl | apply And.intro)); done))))
      all_goals (try (conv => whnf))
      all_goals try (show Nat.ble _ _ = true; rfl)
      all_goals first
        | ((first | (with_reducible apply Z.retF1)); (focus (exact rfl)); (repeat' (first | exact trivial | (with_reducible apply Z.frz_one) | (with_reducible apply Z.fq_int) | apply And.intro)); (all_goals (try exact (fun _ => none))); all_goals ((have hf : wantT ws ps ts = 5 := by unfold wantT; rw [hok, fresh_there hx hth] <;> rfl); rw [hf]; try rfl))
    rw [decide_eq_false hth] at cp
    have hsm := HS m hm
    have hst := putS_mem hx HS
    have hfr : (m : Int) ∈ ts.take j → freshT ps ts = false := fun h => fresh_twice hx h
    have hnd : (m : Int) ∉ ts.take j → (ts.take (j + 1)).Nodup := fun h => nod_snoc hx HN h
    have hpp : ∀ t ∈ ts.take (j + 1), ¬ idxT ps t < ps.length := fun t ht => by
      rw [take_snoc hx] at ht
      rcases List.mem_append.1 ht with h | h
      · exact HP t h
      · simp at h; subst h; exact hth
    generalize idxT ps (m : Int) = q at *
    cases hs : sn m
    all_goals rw [hs] at hsm
    all_goals (rcases (by omega : m = 0 ∨ m = 1 ∨ m = 2 ∨ m = 3 ∨ m = 4 ∨ m = 5 ∨ m = 6 ∨ m = 7 ∨ m = 8 ∨ m = 9 ∨ m = 10 ∨ m = 11 ∨ m = 12 ∨ m = 13 ∨ m = 14 ∨ m = 15) with rfl | rfl | rfl | rfl | rfl | rfl | rfl | rfl | rfl | rfl | rfl | rfl | rfl | rfl | rfl | rfl)
    all_goals (
      repeat' ((conv => whnf); first
        | with_reducible first | refine spB_t ?_
        | ((with_reducible apply spB_cong); (focus (simp only [beq_self_eq_true, bne_self_eq_false, Bool.true_bne, Bool.false_bne, Bool.bne_true, Bool.bne_false, Bool.true_beq, Bool.false_beq, Bool.not_true, Bool.not_false, Bool.not_not, Int.reduceBEq, Int.reduceBNe, Int.reduceLE, Int.reduceLT, Int.reduceEq, decide_true, decide_false, hs]; rfl)))
        | with_reducible first | refine spB_no (by decide) ?_
        | (with_reducible refine spB_dec ?_ ?_ <;> intro _ <;> (try (exfalso; first | contradiction | omega | (rename_i hz; refine hz ?_; simp; done) | (rename_i hz; simp at hz; done) | (simp only [LN] at *; omega))))
        | with_reducible first | refine Z.rowN_known hx ?_
        | ((with_reducible apply ixN_lit); (focus (exact rfl)); (focus (exact rfl)))
        | ((with_reducible apply ixN_litp); (focus (exact rfl)); (focus ((try simp only [LN] at *) <;> omega)))
        | with_reducible refine wr_i64 (by first | omega | (simp only [LN] at *; omega)) ?_
        | ((first | (with_reducible refine Z.callZ_mk ?_ (cp) ?_)); (focus ((repeat' (first | exact trivial | exact rfl | apply And.intro)); done))))
      all_goals (try (conv => whnf)))
    all_goals try (show Nat.ble _ _ = true; rfl)
    all_goals first
      | ((refine Z.rndK ((j + 1, putS sn 0)) (fun s => [0, 1]) rfl rfl rfl rfl ?_ ?_ ?_ ?_); (focus (repeat' (first | exact trivial | exact rfl | apply And.intro))); (focus (repeat' (first | exact trivial | (intro b hb; cases hb; rfl) | apply And.intro))); (focus (exact ⟨by (try dsimp only); omega, hnd (of_decide_eq_false hsm.symm), hpp, hst⟩)); ((try dsimp only); omega))
      | ((refine Z.rndK ((j + 1, putS sn 1)) (fun s => [0, 1]) rfl rfl rfl rfl ?_ ?_ ?_ ?_); (focus (repeat' (first | exact trivial | exact rfl | apply And.intro))); (focus (repeat' (first | exact trivial | (intro b hb; cases hb; rfl) | apply And.intro))); (focus (exact ⟨by (try dsimp only); omega, hnd (of_decide_eq_false hsm.symm), hpp, hst⟩)); ((try dsimp only); omega))
      | ((refine Z.rndK ((j + 1, putS sn 2)) (fun s => [0, 1]) rfl rfl rfl rfl ?_ ?_ ?_ ?_); (focus (repeat' (first | exact trivial | exact rfl | apply And.intro))); (focus (repeat' (first | exact trivial | (intro b hb; cases hb; rfl) | apply And.intro))); (focus (exact ⟨by (try dsimp only); omega, hnd (of_decide_eq_false hsm.symm), hpp, hst⟩)); ((try dsimp only); omega))
      | ((refine Z.rndK ((j + 1, putS sn 3)) (fun s => [0, 1]) rfl rfl rfl rfl ?_ ?_ ?_ ?_); (focus (repeat' (first | exact trivial | exact rfl | apply And.intro))); (focus (repeat' (first | exact trivial | (intro b hb; cases hb; rfl) | apply And.intro))); (focus (exact ⟨by (try dsimp only); omega, hnd (of_decide_eq_false hsm.symm), hpp, hst⟩)); ((try dsimp only); omega))
      | ((refine Z.rndK ((j + 1, putS sn 4)) (fun s => [0, 1]) rfl rfl rfl rfl ?_ ?_ ?_ ?_); (focus (repeat' (first | exact trivial | exact rfl | apply And.intro))); (focus (repeat' (first | exact trivial | (intro b hb; cases hb; rfl) | apply And.intro))); (focus (exact ⟨by (try dsimp only); omega, hnd (of_decide_eq_false hsm.symm), hpp, hst⟩)); ((try dsimp only); omega))
      | ((refine Z.rndK ((j + 1, putS sn 5)) (fun s => [0, 1]) rfl rfl rfl rfl ?_ ?_ ?_ ?_); (focus (repeat' (first | exact trivial | exact rfl | apply And.intro))); (focus (repeat' (first | exact trivial | (intro b hb; cases hb; rfl) | apply And.intro))); (focus (exact ⟨by (try dsimp only); omega, hnd (of_decide_eq_false hsm.symm), hpp, hst⟩)); ((try dsimp only); omega))
      | ((refine Z.rndK ((j + 1, putS sn 6)) (fun s => [0, 1]) rfl rfl rfl rfl ?_ ?_ ?_ ?_); (focus (repeat' (first | exact trivial | exact rfl | apply And.intro))); (focus (repeat' (first | exact trivial | (intro b hb; cases hb; rfl) | apply And.intro))); (focus (exact ⟨by (try dsimp only); omega, hnd (of_decide_eq_false hsm.symm), hpp, hst⟩)); ((try dsimp only); omega))
      | ((refine Z.rndK ((j + 1, putS sn 7)) (fun s => [0, 1]) rfl rfl rfl rfl ?_ ?_ ?_ ?_); (focus (repeat' (first | exact trivial | exact rfl | apply And.intro))); (focus (repeat' (first | exact trivial | (intro b hb; cases hb; rfl) | apply And.intro))); (focus (exact ⟨by (try dsimp only); omega, hnd (of_decide_eq_false hsm.symm), hpp, hst⟩)); ((try dsimp only); omega))
      | ((refine Z.rndK ((j + 1, putS sn 8)) (fun s => [0, 1]) rfl rfl rfl rfl ?_ ?_ ?_ ?_); (focus (repeat' (first | exact trivial | exact rfl | apply And.intro))); (focus (repeat' (first | exact trivial | (intro b hb; cases hb; rfl) | apply And.intro))); (focus (exact ⟨by (try dsimp only); omega, hnd (of_decide_eq_false hsm.symm), hpp, hst⟩)); ((try dsimp only); omega))
      | ((refine Z.rndK ((j + 1, putS sn 9)) (fun s => [0, 1]) rfl rfl rfl rfl ?_ ?_ ?_ ?_); (focus (repeat' (first | exact trivial | exact rfl | apply And.intro))); (focus (repeat' (first | exact trivial | (intro b hb; cases hb; rfl) | apply And.intro))); (focus (exact ⟨by (try dsimp only); omega, hnd (of_decide_eq_false hsm.symm), hpp, hst⟩)); ((try dsimp only); omega))
      | ((refine Z.rndK ((j + 1, putS sn 10)) (fun s => [0, 1]) rfl rfl rfl rfl ?_ ?_ ?_ ?_); (focus (repeat' (first | exact trivial | exact rfl | apply And.intro))); (focus (repeat' (first | exact trivial | (intro b hb; cases hb; rfl) | apply And.intro))); (focus (exact ⟨by (try dsimp only); omega, hnd (of_decide_eq_false hsm.symm), hpp, hst⟩)); ((try dsimp only); omega))
      | ((refine Z.rndK ((j + 1, putS sn 11)) (fun s => [0, 1]) rfl rfl rfl rfl ?_ ?_ ?_ ?_); (focus (repeat' (first | exact trivial | exact rfl | apply And.intro))); (focus (repeat' (first | exact trivial | (intro b hb; cases hb; rfl) | apply And.intro))); (focus (exact ⟨by (try dsimp only); omega, hnd (of_decide_eq_false hsm.symm), hpp, hst⟩)); ((try dsimp only); omega))
      | ((refine Z.rndK ((j + 1, putS sn 12)) (fun s => [0, 1]) rfl rfl rfl rfl ?_ ?_ ?_ ?_); (focus (repeat' (first | exact trivial | exact rfl | apply And.intro))); (focus (repeat' (first | exact trivial | (intro b hb; cases hb; rfl) | apply And.intro))); (focus (exact ⟨by (try dsimp only); omega, hnd (of_decide_eq_false hsm.symm), hpp, hst⟩)); ((try dsimp only); omega))
      | ((refine Z.rndK ((j + 1, putS sn 13)) (fun s => [0, 1]) rfl rfl rfl rfl ?_ ?_ ?_ ?_); (focus (repeat' (first | exact trivial | exact rfl | apply And.intro))); (focus (repeat' (first | exact trivial | (intro b hb; cases hb; rfl) | apply And.intro))); (focus (exact ⟨by (try dsimp only); omega, hnd (of_decide_eq_false hsm.symm), hpp, hst⟩)); ((try dsimp only); omega))
      | ((refine Z.rndK ((j + 1, putS sn 14)) (fun s => [0, 1]) rfl rfl rfl rfl ?_ ?_ ?_ ?_); (focus (repeat' (first | exact trivial | exact rfl | apply And.intro))); (focus (repeat' (first | exact trivial | (intro b hb; cases hb; rfl) | apply And.intro))); (focus (exact ⟨by (try dsimp only); omega, hnd (of_decide_eq_false hsm.symm), hpp, hst⟩)); ((try dsimp only); omega))
      | ((refine Z.rndK ((j + 1, putS sn 15)) (fun s => [0, 1]) rfl rfl rfl rfl ?_ ?_ ?_ ?_); (focus (repeat' (first | exact trivial | exact rfl | apply And.intro))); (focus (repeat' (first | exact trivial | (intro b hb; cases hb; rfl) | apply And.intro))); (focus (exact ⟨by (try dsimp only); omega, hnd (of_decide_eq_false hsm.symm), hpp, hst⟩)); ((try dsimp only); omega))
      | ((first | (with_reducible apply Z.retF1)); (focus (exact rfl)); (repeat' (first | exact trivial | (with_reducible apply Z.frz_one) | (with_reducible apply Z.fq_int) | apply And.intro)); (all_goals (try exact (fun _ => none))); all_goals ((have hf : wantT ws ps ts = 5 := by unfold wantT; rw [hok, hfr (of_decide_eq_true hsm.symm)] <;> rfl); rw [hf]; try rfl))
  rw [take_end hj] at HN HP
  have hfr := fresh_yes HN HP
  repeat' ((conv => whnf); first
    | (with_reducible refine spB_dec ?_ ?_ <;> intro _ <;> (try (exfalso; first | contradiction | omega | (rename_i hz; refine hz ?_; simp; done) | (rename_i hz; simp at hz; done) | (simp only [LN] at *; omega))))
    | ((first | (with_reducible refine Z.callZ_mk ?_ (cf) ?_)); (focus ((repeat' (first | exact trivial | exact rfl | apply And.intro)); done))))
  all_goals (try (conv => whnf))
  all_goals try (show Nat.ble _ _ = true; rfl)
  all_goals first
    | ((first | (with_reducible apply Z.retF1)); (focus (exact rfl)); (repeat' (first | exact trivial | (with_reducible apply Z.frz_one) | (with_reducible apply Z.fq_int) | apply And.intro)); (all_goals (try exact (fun _ => none))); all_goals ((have hf : wantT ws ps ts = 6 := by unfold wantT; rw [hok, hfr, cond_true, cond_true, if_pos (by simp only [LN] at *; omega)] <;> rfl); rw [hf]; try rfl))
    | ((first | (with_reducible apply Z.retF1)); (focus (exact rfl)); (repeat' (first | exact trivial | (with_reducible apply Z.frz_one) | (with_reducible apply Z.fq_int) | apply And.intro)); (all_goals (try exact (fun _ => none))); all_goals ((have hf : wantT ws ps ts = 0 := by unfold wantT; rw [hok, hfr, cond_true, cond_true, if_neg (by simp only [LN] at *; omega)] <;> rfl); rw [hf]; try rfl))

end Go.Proofs.Ytllnmdmmmkoiaaa
namespace Go.Proofs.Ytllnmdmmmkoiaaa
open Go Go.RowKit Wx
set_option linter.unusedVariables false
set_option linter.unusedSimpArgs false
set_option maxHeartbeats 4000000
/-! ### Places without a worker's -/
theorem cloneq_con_x (x : Pl) (l : List Pl) (hl : l.length ≤ 1000) : Con Try.prog 60 [.one (.ro false 2 ((x :: l).map eL))] (fun rx rK rt => rx = .c (.osl 0 0 (x :: l).length none) ∧ rK = [(0, some ⟨(x :: l).map cL, 2, 66, false⟩)] ∧ rt = 1) := by
  refine con_of tabOk 8 Try.f60 _ Try.func60 (by kernel_rfl) rfl rfl rfl rfl (fun W => ?_)
  repeat' ((conv => whnf); first
    | with_reducible first | refine spB_t ?_
    | ((with_reducible apply spB_cong); (focus (simp only [beq_self_eq_true, bne_self_eq_false, Bool.true_bne, Bool.false_bne, Bool.bne_true, Bool.bne_false, Bool.true_beq, Bool.false_beq, Bool.not_true, Bool.not_false, Bool.not_not, Int.reduceBEq, Int.reduceBNe, Int.reduceLE, Int.reduceLT, Int.reduceEq, decide_true, decide_false]; rfl)))
    | with_reducible first | refine spB_yes (by decide) ?_ | refine spB_no (by decide) ?_ | refine spB_f ?_ | refine spB_not ?_ | refine spB_yes (by assumption) ?_ | refine spB_no (by assumption) ?_
    | (with_reducible refine spB_dec ?_ ?_ <;> intro _ <;> (try (exfalso; first | contradiction | omega | (rename_i hz; with_reducible exact absurd rfl hz))))
    | (with_reducible refine spB_beq ?_ ?_ <;> intro _ <;> (try (exfalso; first | contradiction | omega | (rename_i hz; with_reducible exact absurd rfl hz))))
    | (with_reducible refine spB_bne ?_ ?_ <;> intro _ <;> (try (exfalso; first | contradiction | omega | (rename_i hz; with_reducible exact absurd rfl hz))))
    | (with_reducible refine spB_mk ?_ ?_ <;> intro _ <;> (try (exfalso; first | contradiction | omega | (rename_i hz; with_reducible exact absurd rfl hz))))
    | ((with_reducible refine apdE_n ?_); (with_reducible refine apdN.mk ?_ ?_ ?_ ?_ ?_ ?_); (focus (simp; done)); (focus (exact one_map2 fun _ => rfl)); (focus ((try simp only [LN] at *) <;> omega)); (focus ((try simp only [LN] at *) <;> omega)); (focus ((try simp only [LN] at *) <;> omega)))
    | ((with_reducible refine apz0N_mk _ ?_ ?_ ?_ ?_ ?_); (focus (first | rfl | exact (Int.toNat_of_nonneg (by omega)).symm)); (focus ((try simp only [LN] at *) <;> omega)); (focus ((try simp only [LN] at *) <;> omega)); (focus ((try simp only [LN] at *) <;> omega)))
    | ((with_reducible refine posE_pos ?_ ?_); (focus ((try simp only [LN] at *) <;> omega)))
    | ((with_reducible refine posE_nil ?_ ?_); (focus rfl))
    | ((with_reducible apply rowN_mk); (focus rfl))
    | ((with_reducible apply ixN_lit); (focus (exact rfl)); (focus (exact rfl)))
    | ((with_reducible apply ixN_litp); (focus (exact rfl)); (focus ((try simp only [LN] at *) <;> omega)))
    | ((with_reducible refine eqN_mk2 ?_ ?_); (focus rfl))
    | ((with_reducible refine posN_mk2 ?_ ?_); (focus (first | decide | ((try simp only [LN] at *) <;> omega))))
    | ((with_reducible refine apdE_r ?_); (with_reducible refine aprN.mk ⟨_, rfl, ?_⟩ ?_ ?_ ?_ ?_); (focus ((try simp only [LN] at *) <;> omega)); (focus (first | rfl | (simp; done) | ((try simp only [LN] at *) <;> omega))); (focus (first | exact one_all (by rfl) | exact one_map (fun _ => rfl) | exact one_map2 (fun _ => rfl) | exact one_drop (fun _ => rfl))); (focus ((try simp only [LN] at *) <;> omega)))
    | ((with_reducible refine apdE_k ?_); (with_reducible refine apkN.mk ⟨_, rfl, ?_⟩ ?_); (focus ((try simp only [LN] at *) <;> omega)))
    | (with_reducible refine apdE_n ?_)
    | ((with_reducible refine slE_a ?_ ?_); (focus ((try simp only [LN] at *) <;> omega)))
    | ((with_reducible refine slE_b ?_ ?_); (focus ((try simp only [LN] at *) <;> omega)))
    | ((with_reducible refine slE_split ?_ ?_ ?_); (focus ((try simp only [LN] at *) <;> omega)); (all_goals intro _))
    | ((with_reducible refine strN_src ?_ ?_ ?_); (focus (exact fun _ => rfl)); (focus ((try simp only [LN] at *) <;> omega)))
    | ((with_reducible refine strN_own ?_ ?_ ?_ ?_); (focus (exact fun _ => rfl)); (focus ((try simp only [LN] at *) <;> omega)); (focus ((try simp only [LN] at *) <;> omega)))
    | ((with_reducible apply sl3N_mk); (focus (exact rfl)); (focus (exact rfl)); (focus (exact rfl)); (focus ((try simp only [LN] at *) <;> omega)); (focus ((try simp only [LN] at *) <;> omega)); (focus ((try simp only [LN] at *) <;> omega)); (focus ((try simp only [LN] at *) <;> omega)))
    | ((with_reducible refine clrN_mk ?_ ?_ ?_); (focus ((try simp only [LN] at *) <;> omega)); (focus rfl))
    | ((with_reducible refine apdN.mk ?_ ?_ ?_ ?_ ?_ ?_); (focus (first | rfl | (simp; done))); (focus (first | exact one_all (by rfl) | exact one_map (fun _ => rfl) | exact one_map2 (fun _ => rfl))); (focus ((try simp only [LN] at *) <;> omega)); (focus ((try simp only [LN] at *) <;> omega)); (focus ((try simp only [LN] at *) <;> omega)))
    | ((with_reducible refine cpyN.mk ?_ ?_ ?_ ?_); (focus (first | rfl | (simp; done))); (focus (first | exact one_all (by rfl) | exact one_map (fun _ => rfl) | exact one_map2 (fun _ => rfl))); (focus ((try simp only [LN] at *) <;> omega)))
    | with_reducible refine wr_i64 (by first | omega | (simp only [LN] at *; omega)) ?_
    | with_reducible refine wr_u64 (by omega) ?_
    | with_reducible refine wr_u8 (by omega) ?_
    | with_reducible refine wr_u32 (by omega) ?_
    | with_reducible first | refine wr_mk _ rfl ?_
    | ((with_reducible refine ixN_nat ?_ ?_); (focus ((try simp only [LN] at *) <;> omega)))
    | ((with_reducible refine rowN_map ?_ ?_); (focus ((try simp only [LN] at *) <;> omega)); intro x hx)
    | ((with_reducible refine posE_nil (by rfl) ?_))
    | ((with_reducible refine posE_pos (by decide) ?_))
    | with_reducible refine vN_mod (by omega) ?_
    | with_reducible first | refine vN_mk ?_
    | with_reducible refine nzN_mk (by omega) ?_
    | with_reducible refine eqN_dec (by omega) ?_
    | with_reducible first | refine draw_rule tabOk mixOk ?_
    | with_reducible refine apN_mk (by kernel_rfl) ?_)
  all_goals (try (conv => whnf))
  refine ret1b 1 (.c (.osl 0 0 (x :: l).length none)) ((x :: l).map cL) 2 66 false _ rfl ?_ rfl ?_ (ren_map fun _ => rfl) rfl (own_map fun _ => rfl) ⟨rfl, rfl, rfl⟩
  · rw [show (x :: l).length = 0 + (List.map eL (x :: l)).length by simp]; rfl
  · rw [show List.map cL (x :: l) = List.map (List.map (RT.ce false)) (List.map eL (x :: l)) by rw [List.map_map]; rfl]; rfl

theorem cloneq_con (l : List Pl) (hl : l.length ≤ 1000) (hne : l ≠ []) : Con Try.prog 60 [.one (.ro false 2 (l.map eL))] (fun rx rK rt => rx = .c (.osl 0 0 l.length none) ∧ rK = [(0, some ⟨l.map cL, 2, 66, false⟩)] ∧ rt = 1) := by
  cases l with
  | nil => exact absurd rfl hne
  | cons x l => exact cloneq_con_x x l (by simp only [List.length_cons] at hl; omega)
end Go.Proofs.Ytllnmdmmmkoiaaa
namespace Go.Proofs.Ytllnmdmmmkoiaaa
open Go Go.RowKit Wx
set_option linter.unusedVariables false
set_option linter.unusedSimpArgs false
set_option maxHeartbeats 4000000
theorem g_app {α : Type} {f : α → List Ce} {l : List α} {n : Nat} {S : List (List Ce)} {v : α} (hn : n = l.length) (hS : S = [f v]) : List.take n (l.map f) ++ S = (l ++ [v]).map f := by
  subst hn hS; rw [List.take_of_length_le (by simp)]; simp
theorem g_appr {α : Type} {f : α → List Ce} {l : List α} {n : Nat} {S : List (List Ce)} {g : List Ce} {v : α} (hn : n = l.length) (hS : S = [f v]) : lay (l.map f ++ [g]) n S = (l ++ [v]).map f := by
  subst hn hS
  unfold lay
  rw [List.take_left' (by simp), List.drop_eq_nil_of_le (by simp)]; simp
end Go.Proofs.Ytllnmdmmmkoiaaa
namespace Go.Proofs.Ytllnmdmmmkoiaaa
open Go Go.RowKit Wx
set_option linter.unusedVariables false
set_option linter.unusedSimpArgs false
set_option maxHeartbeats 4000000
theorem slN_hc {y : Int} {len : Nat} {cap : Option Nat} {A : Nat → Nat → Prop} (h : Nat) (e2 : y = (h : Int)) (h2 : ∃ c, cap = some c ∧ h ≤ c) (k : A 0 h) : slN none (some y) len cap A := ⟨0, h, rfl, e2, Nat.zero_le _, .inr h2, k⟩
theorem g_le {α : Type} {f : α → List Ce} {l : List α} {R : List (List Ce)} {m : Nat} (h : R = l.map f) (hm : m ≤ l.length) : m ≤ R.length := by subst h; rw [List.length_map]; exact hm
theorem gS_eq {a : Nat} {X : List (List Ce)} {v : List Ce} (ha : 1 ≤ a) (hX : List.take 1 (List.drop 0 X) = [v]) : List.take (Nat.min 1 a) (List.take 1 (List.drop 0 X)) = [v] := by rw [hX, show Nat.min 1 a = 1 from Nat.min_eq_left ha]; rfl
theorem gS_len {a : Nat} {X : List (List Ce)} : (List.take a (List.take 1 X)).length ≤ 1 := by simp; omega
theorem gT_eq {α : Type} {f : α → List Ce} {l : List α} {i a b : Nat} {R : List (List Ce)} (h : R = l.map f) (ha : l.length - i ≤ a) (hb : l.length - i ≤ b) : List.take a (List.take b (List.drop (0 + i) R)) = (l.map f).drop i := by
  subst h
  rw [Nat.zero_add, List.take_of_length_le (i := b) (by simp; omega), List.take_of_length_le (by simp; omega)]
theorem g_ins {α : Type} {f : α → List Ce} {l : List α} {i k : Nat} {R S T : List (List Ce)} {z : List Ce} {v : α} (h : R = l.map f) (hi : i < l.length) (hk : k = l.length + 1 - i) (hS : S = [f v]) (hT : T = (l.map f).drop i) : lay (lay (List.take (i - 0) R ++ List.replicate k z) (0 + i) S) (0 + (i + 1)) T = (l.take i ++ v :: l.drop i).map f := by
  subst h hk hS hT
  rw [List.map_append, List.map_cons, List.map_take, List.map_drop]
  generalize hM : l.map f = M
  have hl : M.length = l.length := by rw [← hM, List.length_map]
  rw [Nat.zero_add, Nat.zero_add, Nat.sub_zero]
  have h1 : (M.take i).length = i := by simp; omega
  have h2 : (M.drop i).length = l.length - i := by simp; omega
  generalize M.take i = A at *
  generalize M.drop i = B at *
  have e1 : lay (A ++ List.replicate (l.length + 1 - i) z) i [f v] = (A ++ [f v]) ++ List.replicate (l.length - i) z := by
    unfold lay
    rw [List.take_left' h1, show l.length + 1 - i = (l.length - i) + 1 by omega, List.replicate_succ, show A ++ z :: List.replicate (l.length - i) z = (A ++ [z]) ++ List.replicate (l.length - i) z by simp, List.drop_left' (by simp [h1])]
    exact (List.append_assoc _ _ _).symm
  rw [e1]
  unfold lay
  rw [List.take_left' (by simp [h1]), List.drop_eq_nil_of_le (by simp [h1, h2]; omega)]
  simp
/-- In place: the rows behind move on by one, and the new row is put before them. -/
theorem g_insp {α : Type} {f : α → List Ce} {l : List α} {i : Nat} {S T : List (List Ce)} {g : List Ce} {v : α} (hi : i < l.length) (hS : S = [f v]) (hT : T = (l.map f).drop i) : lay (lay (l.map f ++ [g]) (0 + (i + 1)) T) (0 + i) S = (l.take i ++ v :: l.drop i).map f := by
  subst hS hT
  rw [List.map_append, List.map_cons, List.map_take, List.map_drop]
  generalize hM : l.map f = M
  have hl : M.length = l.length := by rw [← hM, List.length_map]
  rw [Nat.zero_add, Nat.zero_add]
  have h2 : (M.drop i).length = l.length - i := by simp; omega
  have e1 : lay (M ++ [g]) (i + 1) (M.drop i) = M.take (i + 1) ++ M.drop i := by
    unfold lay
    have e0 : (M ++ [g]).drop (i + 1 + (M.drop i).length) = [] := List.drop_eq_nil_of_le (by rw [h2, List.length_append, hl]; simp; omega)
    rw [List.take_append_of_le_length (by omega), e0, List.append_nil]
  rw [e1]
  show List.take i (M.take (i + 1) ++ M.drop i) ++ ([f v] ++ List.drop (i + 1) (M.take (i + 1) ++ M.drop i)) = _
  have h4 : (M.take (i + 1)).length = i + 1 := by simp; omega
  rw [List.take_append_of_le_length (by omega), List.take_take, Nat.min_eq_left (by omega), List.drop_left' h4]
  rfl
theorem gT_eqp {α : Type} {f : α → List Ce} {l : List α} {i a b : Nat} {g : List Ce} (hi : i ≤ l.length) (h : (a = l.length - i ∧ l.length - i ≤ b) ∨ (l.length - i ≤ a ∧ b = l.length - i)) : List.take a (List.take b (List.drop (0 + i) (l.map f ++ [g]))) = (l.map f).drop i := by
  have h2 : ((l.map f).drop i).length = l.length - i := by simp
  rw [Nat.zero_add, List.drop_append_of_le_length (by simp; omega), List.take_take, show min a b = ((l.map f).drop i).length by omega, List.take_left]
theorem g_fit {α : Type} {f : α → List Ce} {l : List α} {i q : Nat} {R : List (List Ce)} {z : List Ce} (h : R = l.map f) (hi : i < l.length) (hq : q ≤ l.length + 1) : q ≤ (List.take (i - 0) R ++ List.replicate (l.length + 1 - i) z).length := by subst h; simp; omega
theorem g_fit2 {α : Type} {f : α → List Ce} {l : List α} {i q : Nat} {R S : List (List Ce)} {z : List Ce} (h : R = l.map f) (hi : i < l.length) (hq : q ≤ l.length + 1) (hS : S.length ≤ 1) : q ≤ (lay (List.take (i - 0) R ++ List.replicate (l.length + 1 - i) z) (0 + i) S).length := by
  rw [lay_length (by subst h; simp; omega)]; exact g_fit h hi hq
theorem g_one {α : Type} {f : α → List Ce} {l : List α} {m k : Nat} {R : List (List Ce)} (hf : ∀ x, ∀ c ∈ f x, c.single = true) (h : R = l.map f) : ∀ r ∈ List.take m (List.drop k R), ∀ c ∈ r, c.single = true := fun r hr => by
  subst h
  obtain ⟨x, _, rfl⟩ := List.mem_map.1 (List.mem_of_mem_drop (List.mem_of_mem_take hr))
  exact hf x
theorem g_len {α : Type} {f : α → List Ce} {l : List α} {m i : Nat} {R : List (List Ce)} (h : R = l.map f) (hm : m + i ≤ l.length) : (List.take m (List.drop (0 + i) R)).length = m := by subst h; simp; omega
theorem g_onep {α : Type} {f : α → List Ce} {l : List α} {a m k : Nat} {g : List Ce} (hf : ∀ x, ∀ c ∈ f x, c.single = true) (ha : a + k ≤ l.length) : ∀ r ∈ List.take a (List.take m (List.drop k (l.map f ++ [g]))), ∀ c ∈ r, c.single = true := fun r hr => by
  rw [List.drop_append_of_le_length (by rw [List.length_map]; omega), List.take_take, List.take_append_of_le_length (by simp; omega)] at hr
  obtain ⟨x, _, rfl⟩ := List.mem_map.1 (List.mem_of_mem_drop (List.mem_of_mem_take hr))
  exact hf x
theorem g_lenp {α : Type} {f : α → List Ce} {l : List α} {m k : Nat} {g : List Ce} (hm : m + k ≤ l.length + 1) : (List.take m (List.drop k (l.map f ++ [g]))).length = m := by simp; omega
theorem g_fitp {α : Type} {f : α → List Ce} {l : List α} {q : Nat} {g : List Ce} (hq : q ≤ l.length + 1) : q ≤ (l.map f ++ [g]).length := by simp; omega
theorem g_fitp2 {α : Type} {f : α → List Ce} {l : List α} {q k : Nat} {g : List Ce} {S : List (List Ce)} (hq : q ≤ l.length + 1) (hk : k + S.length ≤ l.length + 1) : q ≤ (lay (l.map f ++ [g]) k S).length := by rw [lay_length (by simp; omega)]; exact g_fitp hq
theorem g_fitk {α : Type} {k a b N : Nat} {X : List α} (h : k + b ≤ N) : k + (List.take (Nat.min a b) X).length ≤ N := by
  have h2 : (List.take (Nat.min a b) X).length ≤ b := Nat.le_trans (by rw [List.length_take]; exact Nat.min_le_left _ _) (Nat.min_le_right a b)
  omega
theorem g_min {a b k N : Nat} (h : b + k ≤ N) : Nat.min a b + k ≤ N := Nat.le_trans (Nat.add_le_add_right (Nat.min_le_right a b) k) h
end Go.Proofs.Ytllnmdmmmkoiaaa
namespace Go.Proofs.Ytllnmdmmmkoiaaa
open Go Go.RowKit Wx
set_option linter.unusedVariables false
set_option linter.unusedSimpArgs false
set_option maxHeartbeats 4000000
/-! ### Tasks are laid -/
def gtT (ps : List Pl) (t : Int) : Nat := ps.findIdx fun p => decide (t < p.task)
def insT (ps : List Pl) (p : Pl) : List Pl := ps.take (gtT ps p.task) ++ p :: ps.drop (gtT ps p.task)
def roomF (f : Int → Int) : List Wk → Int → Int
  | [], b => b
  | w :: l, b => if b = 0 ∨ f w.id > f b then roomF f l w.id else roomF f l b
def leftF (ws : List Wk) (ps : List Pl) (y : Int) : Int := slF ws y - cnt ps y
def layT (ws : List Wk) : List Pl → List Int → List Pl
  | A, [] => A
  | A, t :: l => layT ws (insT A ⟨t, roomF (leftF ws A) ws 0⟩) l
theorem gtT_lt {ps : List Pl} {a : Int} {i j : Nat} {x : Pl} (hi : gtT ps a = i) (hj : j < i) (hx : ps[j]? = some x) : ¬ a < x.task := fun h => by
  have h1 := List.not_of_lt_findIdx (p := fun w : Pl => decide (a < w.task)) (xs := ps) (i := j) (by unfold gtT at hi; omega)
  obtain ⟨hl, he⟩ := List.getElem?_eq_some_iff.1 hx
  rw [he] at h1
  simp at h1; omega
theorem gtT_at {ps : List Pl} {a : Int} {i : Nat} {x : Pl} (hi : gtT ps a = i) (hx : ps[i]? = some x) : a < x.task := by
  obtain ⟨hl, he⟩ := List.getElem?_eq_some_iff.1 hx
  unfold gtT at hi
  subst hi
  have := List.findIdx_getElem (p := fun w : Pl => decide (a < w.task)) (xs := ps) (w := hl)
  rw [he] at this
  exact of_decide_eq_true this
theorem gtT_le {ps : List Pl} {a : Int} : gtT ps a ≤ ps.length := List.findIdx_le_length
theorem insT_len {A : List Pl} {p : Pl} : (insT A p).length = A.length + 1 := by
  have := @gtT_le A p.task
  unfold insT; simp; omega
theorem cnt_ins {A : List Pl} {p : Pl} {y : Int} : cnt (insT A p) y = cnt A y + if p.wk = y then 1 else 0 := by
  unfold insT
  rw [cnt_app]
  have h := cnt_app (ps := A.take (gtT A p.task)) (qs := A.drop (gtT A p.task)) (y := y)
  rw [List.take_append_drop] at h
  simp only [cnt]; omega
theorem lay_step {ws : List Wk} {A : List Pl} {L : List (Int × Int)} {p : Pl} {v : Int} (hL : ∀ y, (Z.lookK L y).getD 0 = leftF ws A y) (hv : v = (Z.lookK L p.wk).getD 0 - 1) : ∀ y, (Z.lookK (Z.putK L p.wk v) y).getD 0 = leftF ws (insT A p) y := fun y => by
  rw [Z.look_put]
  unfold leftF at *
  rw [cnt_ins]
  by_cases hy : p.wk = y
  · rw [if_pos hy, if_pos hy, ← hy, hv, hL]; simp; omega
  · rw [if_neg hy, if_neg hy, hL]; omega
theorem layT_step {ws : List Wk} {A ps : List Pl} {ts : List Int} {i : Nat} {t b : Int} (h : ts[i]? = some t) (hb : roomF (leftF ws A) ws 0 = b) (hl : layT ws ps ts = layT ws A (ts.drop i)) : layT ws ps ts = layT ws (insT A ⟨t, b⟩) (ts.drop (i + 1)) := by
  rw [hl, drop_cons h, layT, hb]
theorem cL_one (x : Pl) : ∀ c ∈ cL x, c.single = true := fun c hc => by
  simp only [List.mem_cons, List.not_mem_nil, or_false] at hc
  rcases hc with rfl | rfl <;> rfl
namespace Wx.Z
/-- What a call hands back, by another account. -/
theorem callZ_res {P : Program} {m top : Nat} {c : Ce} {avs : List AV} {K : Kr} {k k' : AV → Kr → Nat → Prop} (h : CallZ P m c avs K top k) (f : ∀ x K t, k x K t → ∃ x' : AV, (∀ I R u, x.rel I R u → x'.rel I R u) ∧ k' x' K t) : CallZ P m c avs K top k' := by
  refine ⟨fun W I R w v vs hw hd hm hvs hv => (h.run W I R w v vs hw hd hm hvs hv).mono ?_⟩
  rintro e w' ⟨u, x, K', top', I', R', rfl, h1, h2, h3, h4, h5, hx, hk⟩
  obtain ⟨x', f1, f2⟩ := f _ _ _ hk
  exact ⟨u, x', K', top', I', R', rfl, h1, h2, h3, h4, h5, f1 _ _ _ hx, f2⟩
def oneG (top N : Nat) (B : Blk) (x : AV) (K : Kr) (t : Nat) : Prop := top ≤ t ∧ ∃ j R, x = .c (.gsl j R) ∧ kz K j = some (.b ⟨R, B.sz, B.ty, B.bx⟩) ∧ R = B.rows ∧ R.length = N ∧ R ≠ []
theorem callZ_oneG {P : Program} {m top top0 N : Nat} {c : Ce} {avs : List AV} {K : Kr} {B : Blk} (h : CallZ P m c avs K top (oneG top0 N B)) : CallZ P m c avs K top (oneB top0 N B) := by
  refine callZ_res h ?_
  rintro x K t ⟨h0, j, R, rfl, hj, hR, hN, hne⟩
  refine ⟨.c (.osl j 0 N none), fun I R' u hr => ?_, h0, j, N, none, R, rfl, hj, rfl, hR⟩
  rcases hr with ⟨e, _⟩ | ⟨_, p, c', hp, rfl, h1, h2⟩
  · exact absurd e hne
  · refine ⟨p, c', hp, ?_, by rw [← hN]; exact h1, by rw [Nat.zero_add]; exact h2, fun c0 hc => by cases hc⟩
    rw [← hN, Nat.zero_mul]
theorem conZ_insn {P : Program} {g : FuncId} {v q' n' : Nat} {c1 : Option Nat} {kk : Value} {Kl Kp : Kr} {top N : Nat} {B : Blk} {k : Eff → Prop} (hlt : Nat.blt v top = true) (hFK : FK [v] Kl Kp) (hin0 : InK [v] Kp) (hkk : (AV.val kk).inB [v] = true) (hin : (Ob.b B).inL [] = true)
    (h : CallZ P top (.fn g []) [.val (.slice none 0 0), .val kk, .c (.osl v q' n' c1)] Kp top (oneG top N B)) (hk : k ⟨.c (.osl top 0 N none), [v], (top, some (.b B)) :: killK Kp, top + 1⟩) : ConZ P (.fn g []) [.val (.slice none 0 0), .val kk, .c (.osl v q' n' c1)] Kl top k := by
  refine conZ_oneL [v] (by simp [hlt]) hFK hin0 ?_ rfl hin (callZ_oneG h) hk
  simp only [List.all_cons, List.all_nil, Bool.and_true, hkk, Bool.true_and]
  have h1 : (AV.val (.slice none 0 0)).inB [v] = true := rfl
  have h2 : (AV.c (.osl v q' n' c1)).inB [v] = true := by show [v].contains v = true; simp
  rw [h1, h2]; rfl
end Wx.Z
/-- The places' cell, and its blocks: as they were, or anew. -/
abbrev cel (c0 : Ce) (j : Nat) : Option (List Pl) → Ce
  | none => c0
  | some A => .osl j 0 A.length none
abbrev blo (b0 : Option Z.Ob) : Option (List Pl) → Option Z.Ob
  | none => b0
  | some _ => none
abbrev bln : Option (List Pl) → Option Z.Ob
  | none => none
  | some A => some (.b ⟨A.map cL, 2, 66, false⟩)
theorem clonew_f3_nil   : Con Try.prog 59 [.one (.v (.slice none 0 0))] (fun rx rK rt => rx = .c (.ro true 2 (([] : List Wk).map eW)) ∧ rK = [] ∧ rt = 0) := by
  refine Z.con_ofF tabOk 8 Try.f59 _ Try.func59 (by kernel_rfl) rfl rfl rfl rfl ?_
  repeat' ((conv => whnf); first
    | with_reducible first | refine spB_t ?_)
  all_goals (try (conv => whnf))
  all_goals first
    | ((first | (with_reducible apply Z.retF1)); (focus (exact rfl)); (repeat' (first | exact trivial | (with_reducible apply Z.frz_one) | (exact Z.frz_nil) | apply And.intro)); (all_goals (try exact (fun _ => none))); all_goals (rfl))

theorem clonew_f3_emp (ad : Addr) (cap : Nat)  : Con Try.prog 59 [.one (.v (.slice (some ad) 0 cap))] (fun rx rK rt => rx = .c (.ro true 2 (([] : List Wk).map eW)) ∧ rK = [] ∧ rt = 0) := by
  refine Z.con_ofF tabOk 8 Try.f59 _ Try.func59 (by kernel_rfl) rfl rfl rfl rfl ?_
  repeat' ((conv => whnf); first
    | with_reducible first | refine spB_no (by decide) ?_
    | ((with_reducible refine apdE_r ?_); (with_reducible refine aprN.mk ⟨_, rfl, ?_⟩ ?_ ?_ ?_ ?_); (focus ((try simp only [LN] at *) <;> omega)); (focus (first | rfl)); (focus (first | exact one_all (by rfl))); (focus ((try simp only [LN] at *) <;> omega))))
  all_goals (try (conv => whnf))
  all_goals first
    | ((first | (with_reducible apply Z.retF1)); (focus (exact rfl)); (repeat' (first | exact trivial | (with_reducible apply Z.frz_one) | (exact Z.frz_osl0 rfl rfl rfl) | apply And.intro)); (all_goals (try exact (fun _ => none))); all_goals (rfl))

theorem clonew_f3_ne (x : Wk) (l : List Wk) (hl : l.length ≤ 1000) : Con Try.prog 59 [.one (.ro false 2 ((x :: l).map eW))] (fun rx rK rt => rx = .c (.ro true 2 ((x :: l).map eW)) ∧ rK = [] ∧ rt = 0) := by
  refine Z.con_ofF tabOk 8 Try.f59 _ Try.func59 (by kernel_rfl) rfl rfl rfl rfl ?_
  repeat' ((conv => whnf); first
    | with_reducible first | refine spB_no (by decide) ?_
    | ((with_reducible refine apdE_k ?_); (with_reducible refine apkN.mk ⟨_, rfl, ?_⟩ ?_); (focus ((try simp only [LN] at *) <;> omega)))
    | ((with_reducible refine apdN.mk ?_ ?_ ?_ ?_ ?_ ?_); (focus (first | (simp; done))); (focus (first | exact one_map2 (fun _ => rfl))); (focus ((try simp only [LN] at *) <;> omega)); (focus ((try simp only [LN] at *) <;> omega)); (focus ((try simp only [LN] at *) <;> omega))))
  all_goals (try (conv => whnf))
  all_goals first
    | ((first | (with_reducible apply Z.retF1)); (focus (exact rfl)); (repeat' (first | exact trivial | (with_reducible apply Z.frz_one) | ((with_reducible apply Z.fq_src); (focus (exact rfl)); (focus (first | (simp only [List.length_map, Nat.zero_add]; done))); (focus (exact fun _ => rfl))) | exact rfl | apply And.intro)); (all_goals (try exact (fun _ => none))); all_goals (rfl))

theorem clonew_f3 (l : List Wk) (hl : l.length ≤ 1000) : Con Try.prog 59 [.one (.ro false 2 (l.map eW))] (fun rx rK rt => rx = .c (.ro true 2 (l.map eW)) ∧ rK = [] ∧ rt = 0) := by
  cases l with
  | nil => exact Z.con_nilcases (fun _ => clonew_f3_nil) (fun _ ad cap => clonew_f3_emp ad cap) (fun r rs h => by cases h)
  | cons x l => exact clonew_f3_ne x l (by simp only [List.length_cons] at hl; omega)
end Go.Proofs.Ytllnmdmmmkoiaaa
namespace Go.Proofs.Ytllnmdmmmkoiaaa
open Go Go.RowKit Wx
set_option linter.unusedVariables false
set_option linter.unusedSimpArgs false
set_option maxHeartbeats 4000000
theorem lay_n (ws : List Wk) (ps : List Pl) (ts : List Int) (hw : ws.length ≤ 1000) (hp : ps.length ≤ 1000) (ht : ts.length ≤ 1000) (hk : okF ws ps = true) (hwt : wantT ws ps ts = 0) (hpe : ps ≠ []) : Con Try.prog 18 [.agg [.ro false 2 ((ws).map eW), .ro false 2 ((ps).map eL)], .one (.ro false 1 (ts.map eI))] (fun rx rK rt => rx = .tup [.agg [.ro true 2 ((ws).map eW), .ro true 2 (((layT ws ps ts)).map eL)], .one (.v (.int .i64 0))] ∧ rK = [] ∧ rt = 0) := by
  refine Z.con_ofF tabOk 11 Try.f18 _ Try.func18 (by kernel_rfl) rfl rfl rfl rfl ?_
  have ck := check_con ws ps (by omega) (by (try simp only [LN] at *) <;> omega)
  rw [hk] at ck
  simp only [cond_true] at ck
  have cw := wanted_con ws ps ts hw (by (try simp only [LN] at *) <;> omega) ht hk
  rw [hwt] at cw
  have cc := clonew_f3 ws hw
  have cp := cloneq_con ps hp hpe
  obtain ⟨hkw, hkp, hkc⟩ := okF_all hk
  have hwl := okW_len hkw
  have hpl := okT_len hkp
  have hsw := (okW_all.1 hkw).1
  repeat' ((conv => whnf); first
    | ((with_reducible apply spB_cong); (focus (simp only [beq_self_eq_true, bne_self_eq_false, Bool.true_bne, Bool.false_bne, Bool.bne_true, Bool.bne_false, Bool.true_beq, Bool.false_beq, Bool.not_true, Bool.not_false, Bool.not_not, Int.reduceBEq, Int.reduceBNe, Int.reduceLE, Int.reduceLT, Int.reduceEq, decide_true, decide_false]; rfl)))
    | with_reducible first | refine spB_no (by decide) ?_
    | with_reducible first | refine Z.callZ_in tabOk 52 Try.f45 _ Try.func45 (by kernel_rfl) rfl rfl rfl ?_ | refine Z.callZ_in tabOk 36 Try.f47 _ Try.func47 (by kernel_rfl) rfl rfl rfl ?_ | refine Z.callZ_in tabOk 29 Try.f31 _ Try.func31 (by kernel_rfl) rfl rfl rfl ?_
    | ((first | (with_reducible refine Z.callZ_mk ?_ (cw) ?_) | (with_reducible refine Z.callZ_mk ?_ (ck) ?_) | (with_reducible refine Z.conZ_mz ?_ (cc) ?_) | (with_reducible refine Z.conZ_mz ?_ (cp) ?_)); (focus ((repeat' (first | exact trivial | exact rfl | apply And.intro)); done)))
    | with_reducible first | refine Z.drawZ_rule tabOk mixOk ?_ | refine Z.apZ_mk (by kernel_rfl) ?_)
  all_goals (try (conv => whnf))
  all_goals try (show Nat.ble _ _ = true; rfl)
  all_goals try (exfalso; rename_i hz; cases hz; done)
  all_goals try (exfalso; (try simp only [LN] at *) <;> omega)
  refine Z.loopK tabOk (fun zq : Nat × Y.MS => [(12, .val (.int .i64 (zq.1 : Int)))]) (fun zq : Nat × Y.MS => ([(8, some (Z.Ob.m zq.2)), (5, some (Z.Ob.b ⟨ps.map cL, 2, 66, false⟩))] : Z.Kr)) (fun zq => zq.1 ≤ ws.length ∧ Z.MapL .i64 enI zq.2 (mapW (ws.take zq.1))) (fun zq => ws.length - zq.1) (0, ⟨[], 0⟩) 9 [(1, _), (3, _), (10, _), (11, _)] ⟨rfl, rfl, rfl, rfl, trivial⟩ [(0, some _), (1, some _), (2, some _), (3, some _), (4, some _), (6, some _), (7, some _)] ⟨rfl, rfl, rfl, rfl, rfl, rfl, rfl, trivial⟩ ?_ ?_ rfl rfl ⟨Nat.zero_le _, Z.MapL.nil⟩ ?_
  · repeat' (first | exact trivial | apply And.intro | exact ⟨_, rfl, Z.Imp.refl _⟩)
  · repeat' (first | exact trivial | exact (fun b hb => ⟨b, hb, Z.ImpO.refl b⟩) | (intro b hb; cases hb; refine ⟨_, rfl, ⟨rfl, rfl, rfl⟩, Z.imp_eq ?_⟩; first | rfl | exact ren_map (fun _ => rfl) | exact (ren_map (fun _ => rfl)).symm; done) | apply And.intro)
  rintro ⟨i2, es⟩ HINV
  dsimp only at HINV ⊢
  obtain ⟨HI2, HM⟩ := HINV
  by_cases hi2 : i2 < ws.length
  · obtain ⟨w, hx⟩ := getElem?_some' (xs := ws) (i := i2) hi2
    repeat' ((conv => whnf); first
      | (with_reducible refine spB_dec ?_ ?_ <;> intro _ <;> (try (exfalso; first | contradiction | omega | (rename_i hz; refine hz ?_; simp; done) | (rename_i hz; simp at hz; done) | (simp only [LN] at *; omega))))
      | with_reducible first | refine Z.rowN_known hx ?_
      | ((with_reducible refine Z.MapL.upd' HM (v := w.sl) ?_ ?_); (focus rfl); (intro es3 HM))
      | ((with_reducible apply ixN_litp); (focus (exact rfl)); (focus ((try simp only [LN] at *) <;> omega)))
      | with_reducible refine wr_i64 (by first | omega | (simp only [LN] at *; omega)) ?_)
    all_goals (try (conv => whnf))
    all_goals try (show Nat.ble _ _ = true; rfl)
    all_goals first
      | ((refine Z.rndK ((i2 + 1, es3)) (fun s => [0, 1, 2, 3, 4, 5, 6, 7, 8]) rfl rfl rfl rfl ?_ ?_ ?_ ?_); (focus (repeat' (first | exact trivial | exact rfl | apply And.intro))); (focus (repeat' (first | exact trivial | exact Z.map_sub (Z.MapL.ren HM fun _ => rfl) rfl | (intro b hb; cases hb; rfl) | exact Z.blk_sub rfl rfl (ren_map fun _ => rfl) | apply And.intro))); (focus (refine ⟨by dsimp only; omega, ?_⟩; (try dsimp only); rw [← mapW_snoc hsw hx]; exact HM)); ((try dsimp only); omega))
  have hw9 := take_end hi2
  rw [hw9] at HM
  repeat' ((conv => whnf); first
    | (with_reducible refine spB_dec ?_ ?_ <;> intro _ <;> (try (exfalso; first | contradiction | omega | (rename_i hz; refine hz ?_; simp; done) | (rename_i hz; simp at hz; done) | (simp only [LN] at *; omega)))))
  all_goals (try (conv => whnf))
  all_goals try (show Nat.ble _ _ = true; rfl)
  all_goals try (exfalso; (try simp only [LN] at *) <;> omega)
  refine Z.loopK tabOk (fun zq : Nat × Y.MS => [(25, .val (.int .i64 (zq.1 : Int)))]) (fun zq : Nat × Y.MS => ([(8, some (Z.Ob.m zq.2)), (5, some (Z.Ob.b ⟨ps.map cL, 2, 66, false⟩))] : Z.Kr)) (fun zq => zq.1 ≤ ps.length ∧ ∃ L, Z.MapL .i64 enI zq.2 L ∧ (∀ y, (Z.lookK L y).getD 0 = slF ws y - cnt (ps.take zq.1) y) ∧ sumK L = sumW ws - (zq.1 : Int)) (fun zq => ps.length - zq.1) (0, es) 9 [(3, _), (23, _), (24, _)] ⟨rfl, rfl, rfl, trivial⟩ [(0, some _), (1, some _), (2, some _), (3, some _), (4, some _), (6, some _), (7, some _)] ⟨rfl, rfl, rfl, rfl, rfl, rfl, rfl, trivial⟩ ?_ ?_ rfl rfl ⟨Nat.zero_le _, _, HM, fun y => by rw [look_mapW]; simp [cnt], by rw [sum_mapW]; simp⟩ ?_
  · repeat' (first | exact trivial | apply And.intro | exact ⟨_, rfl, Z.Imp.refl _⟩)
  · repeat' (first | exact trivial | exact (fun b hb => ⟨b, hb, Z.ImpO.refl b⟩) | apply And.intro)
  rintro ⟨j2, es⟩ HINV
  dsimp only at HINV ⊢
  obtain ⟨HJ2, L, HM, HL, HS⟩ := HINV
  by_cases hj2 : j2 < ps.length
  · obtain ⟨q, hx⟩ := getElem?_some' (xs := ps) (i := j2) hj2
    have hv1 := HL q.wk
    have hv2 := okW_sl hkw q.wk
    have hv3 := cnt_nn (ps := ps.take j2) (y := q.wk)
    have hv4 : (ps.take j2).length ≤ 16 := by rw [List.length_take]; omega
    have hsp := sum_put (L := L) (k := q.wk) (v := (Z.lookK L q.wk).getD 0 - 1)
    repeat' ((conv => whnf); first
      | (with_reducible refine spB_dec ?_ ?_ <;> intro _ <;> (try (exfalso; first | contradiction | omega | (rename_i hz; refine hz ?_; simp; done) | (rename_i hz; simp at hz; done) | (simp only [LN] at *; omega))))
      | with_reducible first | refine Z.rowN_known hx ?_
      | ((with_reducible refine Z.MapL.look HM (z0 := (0 : Int)) ?_ ?_); (focus rfl))
      | ((with_reducible refine Z.MapL.upd' HM (v := (Z.lookK L q.wk).getD 0 - 1) ?_ ?_); (focus rfl); (intro es3 HM))
      | ((with_reducible apply ixN_litp); (focus (exact rfl)); (focus ((try simp only [LN] at *) <;> omega)))
      | with_reducible refine wr_i64 (by first | omega | (simp only [LN] at *; omega)) ?_)
    all_goals (try (conv => whnf))
    all_goals try (show Nat.ble _ _ = true; rfl)
    all_goals first
      | ((refine Z.rndK ((j2 + 1, es3)) (fun s => [0, 1, 2, 3, 4, 5, 6, 7, 8]) rfl rfl rfl rfl ?_ ?_ ?_ ?_); (focus (repeat' (first | exact trivial | exact rfl | apply And.intro))); (focus (repeat' (first | exact trivial | exact Z.map_sub (Z.MapL.ren HM fun _ => rfl) rfl | (intro b hb; cases hb; rfl) | exact Z.blk_sub rfl rfl (ren_map fun _ => rfl) | apply And.intro))); (focus (refine ⟨by dsimp only; omega, _, HM, free_step hx HL rfl, ?_⟩; (try dsimp only); omega)); ((try dsimp only); omega))
  have hp9 := take_end hj2
  rw [hp9] at HL
  have hjl : j2 = ps.length := by omega
  subst hjl
  repeat' ((conv => whnf); first
    | (with_reducible refine spB_dec ?_ ?_ <;> intro _ <;> (try (exfalso; first | contradiction | omega | (rename_i hz; refine hz ?_; simp; done) | (rename_i hz; simp at hz; done) | (simp only [LN] at *; omega))))
    | ((with_reducible apply ex_and); exact rfl))
  all_goals (try (conv => whnf))
  all_goals try (show Nat.ble _ _ = true; rfl)
  all_goals try (exfalso; rename_i hz; cases hz; done)
  all_goals try (exfalso; (try simp only [LN] at *) <;> omega)
  refine Z.loopK tabOk (fun zq : Nat × Option (List Pl) × Y.MS => [(21, .val (.int .i64 (zq.1 : Int)))]) (fun zq : Nat × Option (List Pl) × Y.MS => ([(6, some (Z.Ob.b ⟨[[.ro true 2 (ws.map eW), cel (.osl 5 0 ps.length none) 9 zq.2.1]], 2, 25, true⟩)), (8, some (Z.Ob.m zq.2.2)), (9, bln zq.2.1), (5, blo (some (.b ⟨ps.map cL, 2, 66, false⟩)) zq.2.1)] : Z.Kr)) (fun zq => zq.1 ≤ ts.length ∧ (zq.2.1.getD ps).length = ps.length + zq.1 ∧ layT ws ps ts = layT ws (zq.2.1.getD ps) (ts.drop zq.1) ∧ ∃ L, Z.MapL .i64 enI zq.2.2 L ∧ ∀ y, (Z.lookK L y).getD 0 = leftF ws (zq.2.1.getD ps) y) (fun zq => ts.length - zq.1) (0, none, es) 10 [(0, _), (1, _), (6, _), (19, _), (20, _)] ⟨rfl, rfl, rfl, rfl, rfl, trivial⟩ [(0, some _), (1, some _), (2, some _), (3, some _), (4, some _)] ⟨rfl, rfl, rfl, rfl, rfl, trivial⟩ ?_ ?_ rfl rfl ⟨Nat.zero_le _, rfl, rfl, L, HM, HL⟩ ?_
  · repeat' (first | exact trivial | apply And.intro | exact ⟨_, rfl, Z.Imp.refl _⟩)
  · repeat' (first | exact trivial | (intro b hb; cases hb; done) | exact (fun b hb => ⟨b, hb, Z.ImpO.refl b⟩) | apply And.intro)
  rintro ⟨i, o, es⟩ HINV
  dsimp only at HINV ⊢
  clear HM HL HS
  obtain ⟨HI, HAl, HO, L, HM, HL⟩ := HINV
  rcases o with _ | A
  · dsimp only [cel, blo, bln, Option.getD_none] at HAl HO HL ⊢
    by_cases hi : i < ts.length
    rotate_left
    · have hlay : ps = layT ws ps ts := by rw [HO, List.drop_eq_nil_of_le (by omega)]; rfl
      rw [← hlay]
      repeat' ((conv => whnf); first
        | ((with_reducible apply spB_cong); (focus (simp only [beq_self_eq_true, bne_self_eq_false, Bool.true_bne, Bool.false_bne, Bool.bne_true, Bool.bne_false, Bool.true_beq, Bool.false_beq, Bool.not_true, Bool.not_false, Bool.not_not, Int.reduceBEq, Int.reduceBNe, Int.reduceLE, Int.reduceLT, Int.reduceEq, decide_true, decide_false]; rfl)))
        | with_reducible first | refine spB_no (by decide) ?_
        | (with_reducible refine spB_dec ?_ ?_ <;> intro _ <;> (try (exfalso; first | contradiction | omega | (rename_i hz; refine hz ?_; simp; done) | (rename_i hz; simp at hz; done) | (simp only [LN] at *; omega))))
        | ((with_reducible apply ex_and); exact rfl))
      all_goals (try (conv => whnf))
      all_goals try (show Nat.ble _ _ = true; rfl)
      all_goals first
        | (refine Z.retF2 [.agg [.ro true 2 (ws.map eW), .osl 5 0 ps.length none], .one (.v (.int .i64 0))] (by rfl) ⟨⟨rfl, (Z.frz_osl (l := ps) (f := cL) (ty := 66) (bx := false) (by rfl) rfl (fun _ => rfl)), trivial⟩, rfl, trivial⟩)
    obtain ⟨t, hx⟩ := getElem?_some' (xs := ts) (i := i) hi
    repeat' ((conv => whnf); first
      | (with_reducible refine spB_dec ?_ ?_ <;> intro _ <;> (try (exfalso; first | contradiction | omega | (rename_i hz; refine hz ?_; simp; done) | (rename_i hz; simp at hz; done) | (simp only [LN] at *; omega))))
      | with_reducible first | refine Z.rowN_known hx ?_
      | ((with_reducible apply ixN_litp); (focus (exact rfl)); (focus ((try simp only [LN] at *) <;> omega)))
      | with_reducible first | refine Z.callZ_in tabOk 31 Try.f48 _ Try.func48 (by kernel_rfl) rfl rfl rfl ?_)
    all_goals (try (conv => whnf))
    all_goals try (show Nat.ble _ _ = true; rfl)
    all_goals try (exfalso; rename_i hz; cases hz; done)
    all_goals try (exfalso; (try simp only [LN] at *) <;> omega)
    refine Z.loopK tabOk (fun zq : Nat × Int => [(11, .val (.int .i64 (zq.1 : Int))), (5, .val (.int .i64 zq.2))]) (fun zq : Nat × Int => ([] : Z.Kr)) (fun zq => zq.1 ≤ ws.length ∧ roomF (leftF ws ps) ws 0 = roomF (leftF ws ps) (ws.drop zq.1) zq.2) (fun zq => ws.length - zq.1) (0, 0) 12 [(1, _), (9, _), (10, _)] ⟨rfl, rfl, rfl, trivial⟩ [(0, some _), (1, some _), (2, some _), (3, some _), (4, some _), (5, some _), (6, some _), (8, some _), (10, some _), (11, some _)] ⟨rfl, rfl, rfl, rfl, rfl, rfl, rfl, rfl, rfl, rfl, trivial⟩ ?_ ?_ rfl rfl ⟨Nat.zero_le _, rfl⟩ ?_
    · repeat' (first | exact trivial | apply And.intro | exact ⟨_, rfl, Z.Imp.refl _⟩)
    · repeat' (first | exact trivial)
    rintro ⟨j, bb⟩ HINV
    dsimp only at HINV ⊢
    obtain ⟨HJ, HR⟩ := HINV
    by_cases hj : j < ws.length
    · obtain ⟨w, hy⟩ := getElem?_some' (xs := ws) (i := j) hj
      have h1 := HL w.id
      have h2 := HL bb
      repeat' ((conv => whnf); first
        | with_reducible first | refine spB_t ?_
        | with_reducible first | refine spB_no (by decide) ?_
        | (with_reducible refine spB_dec ?_ ?_ <;> intro _ <;> (try (exfalso; first | contradiction | omega | (rename_i hz; refine hz ?_; simp; done) | (rename_i hz; simp at hz; done) | (simp only [LN] at *; omega))))
        | (with_reducible refine spB_beq ?_ ?_ <;> intro _ <;> (try (exfalso; first | contradiction | omega | (rename_i hz; refine hz ?_; simp; done) | (rename_i hz; simp at hz; done) | (simp only [LN] at *; omega))))
        | with_reducible first | refine Z.rowN_known hy ?_
        | ((with_reducible refine Z.MapL.look HM (z0 := (0 : Int)) ?_ ?_); (focus rfl))
        | ((with_reducible apply ixN_litp); (focus (exact rfl)); (focus ((try simp only [LN] at *) <;> omega)))
        | with_reducible refine wr_i64 (by first | omega | (simp only [LN] at *; omega)) ?_)
      all_goals (try (conv => whnf))
      all_goals try (show Nat.ble _ _ = true; rfl)
      all_goals first
        | ((refine Z.rndK ((j + 1, w.id)) (fun s => [0, 1, 2, 3, 4, 5, 6, 7, 8, 9, 10, 11]) rfl rfl rfl rfl ?_ ?_ ?_ ?_); (focus (repeat' (first | exact trivial | exact rfl | apply And.intro))); (focus (repeat' (first | exact trivial | exact Z.map_sub (Z.MapL.ren HM fun _ => rfl) rfl | (intro b hb; cases hb; rfl) | exact Z.blk_sub rfl rfl (ren_map fun _ => rfl) | apply And.intro))); (focus (refine ⟨by (try dsimp only); omega, ?_⟩; (try dsimp only); rw [HR, drop_cons hy, roomF, if_pos (by first | (left; omega) | (right; omega))])); ((try dsimp only); omega))
        | ((refine Z.rndK ((j + 1, bb)) (fun s => [0, 1, 2, 3, 4, 5, 6, 7, 8, 9, 10, 11]) rfl rfl rfl rfl ?_ ?_ ?_ ?_); (focus (repeat' (first | exact trivial | exact rfl | apply And.intro))); (focus (repeat' (first | exact trivial | exact Z.map_sub (Z.MapL.ren HM fun _ => rfl) rfl | (intro b hb; cases hb; rfl) | exact Z.blk_sub rfl rfl (ren_map fun _ => rfl) | apply And.intro))); (focus (refine ⟨by (try dsimp only); omega, ?_⟩; (try dsimp only); rw [HR, drop_cons hy, roomF, if_neg (by omega)])); ((try dsimp only); omega))
    rw [drop_end hj, roomF] at HR
    have hlb := HL bb
    have hb1 := okW_sl hkw bb
    have hb2 := cnt_nn (ps := ps) (y := bb)
    have hlb2 : (Z.lookK L bb).getD 0 = slF ws bb - cnt ps bb := hlb
    have hAle : ps.length ≤ 1016 := by (try simp only [LN] at *) <;> omega
    repeat' ((conv => whnf); first
      | (with_reducible refine spB_dec ?_ ?_ <;> intro _ <;> (try (exfalso; first | contradiction | omega | (rename_i hz; refine hz ?_; simp; done) | (rename_i hz; simp at hz; done) | (simp only [LN] at *; omega))))
      | ((with_reducible refine Z.MapL.look HM (z0 := (0 : Int)) ?_ ?_); (focus rfl))
      | ((with_reducible refine Z.MapL.upd' HM (v := (Z.lookK L bb).getD 0 - 1) ?_ ?_); (focus rfl); (intro es3 HM))
      | with_reducible refine wr_i64 (by first | omega | (simp only [LN] at *; omega)) ?_
      | with_reducible first | refine Z.callZ_in tabOk 21 Try.f49 _ Try.func49 (by kernel_rfl) rfl rfl rfl ?_
      | ((with_reducible apply ex_and); exact rfl))
    all_goals (try (conv => whnf))
    all_goals try (show Nat.ble _ _ = true; rfl)
    all_goals try (exfalso; rename_i hz; cases hz; done)
    all_goals try (exfalso; (try simp only [LN] at *) <;> omega)
    have hgl : gtT ps t ≤ ps.length := gtT_le
    generalize hgk : gtT ps t = k at *
    have hins : insT ps ⟨t, bb⟩ = ps.take k ++ (⟨t, bb⟩ : Pl) :: ps.drop k := by unfold insT; rw [hgk]
    by_cases hkl : k < ps.length
    · skip
      refine Z.loopK tabOk (fun zq : Nat => [(9, .val (.int .i64 (zq : Int)))]) (fun zq : Nat => ([] : Z.Kr)) (fun zq => zq ≤ k) (fun zq => ps.length - zq) 0 12 [(0, _), (1, _), (7, _), (8, _)] ⟨rfl, rfl, rfl, rfl, trivial⟩ [(0, some _), (1, some _), (2, some _), (3, some _), (4, some _), (5, some _), (6, some _), (8, some _), (10, some _), (11, some _)] ⟨rfl, rfl, rfl, rfl, rfl, rfl, rfl, rfl, rfl, rfl, trivial⟩ ?_ ?_ rfl rfl (Nat.zero_le _) ?_
      · repeat' (first | exact trivial | apply And.intro | exact ⟨_, rfl, Z.Imp.refl _⟩)
      · repeat' (first | exact trivial)
      rintro q HINV
      dsimp only at HINV ⊢
      obtain ⟨x, hy⟩ := getElem?_some' (xs := ps) (i := q) (by omega)
      by_cases hj : q < k
      · have hxa : ¬ t < x.task := gtT_lt hgk hj hy
        repeat' ((conv => whnf); first
          | (with_reducible refine spB_dec ?_ ?_ <;> intro _ <;> (try (exfalso; first | contradiction | omega | (rename_i hz; refine hz ?_; simp; done) | (rename_i hz; simp at hz; done) | (simp only [LN] at *; omega))))
          | ((with_reducible refine rowN_mk (cL x) ?_ ?_); (focus (show (List.map cL ps)[0 + q]? = some (cL x); rw [Nat.zero_add, List.getElem?_map, hy]; rfl)))
          | ((with_reducible apply ixN_litp); (focus (exact rfl)); (focus ((try simp only [LN] at *) <;> omega)))
          | with_reducible refine wr_i64 (by first | omega | (simp only [LN] at *; omega)) ?_
          | with_reducible first | refine Z.callZ_in tabOk 8 Try.f50 _ Try.func50 (by kernel_rfl) rfl rfl rfl ?_
          | ((with_reducible apply ex_and); exact rfl))
        all_goals (try (conv => whnf))
        all_goals try (show Nat.ble _ _ = true; rfl)
        all_goals first
          | ((refine Z.rndK ((q + 1)) (fun s => [0, 1, 2, 3, 4, 5, 6, 7, 8, 9, 10, 11]) rfl rfl rfl rfl ?_ ?_ ?_ ?_); (focus (repeat' (first | exact trivial | exact rfl | apply And.intro))); (focus (repeat' (first | exact trivial | exact Z.map_sub (Z.MapL.ren HM fun _ => rfl) rfl | (intro b hb; cases hb; rfl) | exact Z.blk_sub rfl rfl (ren_map fun _ => rfl) | apply And.intro))); (focus (omega)); ((try dsimp only); omega))
      have hji : q = k := by omega
      subst hji
      have hxa : t < x.task := gtT_at hgk hy
      repeat' ((conv => whnf); first
        | with_reducible first | refine spB_t ?_
        | ((with_reducible apply spB_cong); (focus (simp only [beq_self_eq_true, bne_self_eq_false, Bool.true_bne, Bool.false_bne, Bool.bne_true, Bool.bne_false, Bool.true_beq, Bool.false_beq, Bool.not_true, Bool.not_false, Bool.not_not, Int.reduceBEq, Int.reduceBNe, Int.reduceLE, Int.reduceLT, Int.reduceEq, decide_true, decide_false]; rfl)))
        | with_reducible first | refine spB_no (by decide) ?_
        | (with_reducible refine spB_dec ?_ ?_ <;> intro _ <;> (try (exfalso; first | contradiction | omega | (rename_i hz; refine hz ?_; simp; done) | (rename_i hz; simp at hz; done) | (simp only [LN] at *; omega))))
        | (with_reducible refine spB_beq ?_ ?_ <;> intro _ <;> (try (exfalso; first | contradiction | omega | (rename_i hz; refine hz ?_; simp; done) | (rename_i hz; simp at hz; done) | (simp only [LN] at *; omega))))
        | ((with_reducible refine Z.ConZ.red ?_); (apply Z.conZ_ins (N := (ps.take q ++ (⟨t, bb⟩ : Pl) :: ps.drop q).length) (B := ⟨(ps.take q ++ (⟨t, bb⟩ : Pl) :: ps.drop q).map cL, 2, 66, false⟩)); (focus rfl); (focus (repeat (first | exact Z.FK.nil | (apply Z.FK.keep; exact rfl) | (apply Z.FK.drop; exact rfl)))); (focus (repeat (first | exact trivial | (refine ⟨(fun o ho => (by first | (cases ho; rfl) | (cases ho; exact Z.inL_map fun _ => rfl) | (cases ho; exact Z.inL_mapr fun _ => rfl) | exact Z.inL_gB ho fun _ => rfl)), ?_⟩)))); (focus rfl); (focus (exact Z.inL_map fun _ => rfl)))
        | ((apply Z.callZ_capS (n := ps.length)); (focus (exact rfl)); (focus (simp; done)); (intro capv hcapv; refine ⟨fun hcap => ?_, fun hcap gv hgv => ?_⟩))
        | ((with_reducible apply Z.callZ_ovl (tS := 23) (tR := 4) tabOk Try.f65 Try.func65 (by kernel_rfl) (by kernel_rfl) (by kernel_rfl) (by kernel_rfl)); (iterate 4 (focus (exact rfl))); (focus (exact Nat.ne_of_beq_eq_false rfl)); (focus (simp; done)); (focus (exact Nat.zero_lt_succ _)))
        | ((with_reducible refine Z.slN_lo (q) ?_ ?_ ?_); (focus rfl); (focus ((try simp only [LN] at *) <;> omega)))
        | ((with_reducible refine Z.slN_lo (q + 1) ?_ ?_ ?_); (focus rfl); (focus ((try simp only [LN] at *) <;> omega)))
        | ((with_reducible refine slN_hi (q) ?_ ?_ ?_); (focus rfl); (focus ((try simp only [LN] at *) <;> omega)))
        | ((with_reducible refine slN_hc (ps.length + 1) ?_ ?_ ?_); (focus rfl); (focus (exact ⟨_, rfl, by omega⟩)))
        | ((with_reducible refine apzE_k ?_); (with_reducible refine apzK_mk (ps.length + 1 - q) ⟨_, rfl, ?_⟩ ?_ ?_ ?_ ?_ ?_ ?_); (focus ((try simp only [LN] at *) <;> omega)); (focus ((try simp only [LN] at *) <;> omega)); (focus (exact g_le (f := cL) rfl (by omega))); (iterate 2 (focus ((try simp only [LN] at *) <;> omega))); (focus rfl))
        | ((with_reducible refine cpyN.mk ?_ ?_ ?_ ?_); (focus rfl); (focus (exact one_all (by rfl))); (focus (exact g_fit (f := cL) rfl (by omega) (by (try simp only [LN] at *) <;> omega))))
        | ((with_reducible refine cpyN.mk ?_ ?_ ?_ ?_); (focus (exact g_len (f := cL) rfl (by (try simp only [LN] at *) <;> omega))); (focus (exact g_one cL_one rfl)); (focus (exact g_fit2 (f := cL) rfl (by omega) (by (try simp only [LN] at *) <;> omega) gS_len)))
        | ((with_reducible refine cpyN.mk2 ?_ ?_ ?_ ?_); (focus (exact g_lenp (f := cL) (by (try simp only [LN] at *) <;> omega))); (focus (exact g_onep cL_one (g_min (by (try simp only [LN] at *) <;> omega)))); (focus (exact g_fitp (f := cL) (by (try simp only [LN] at *) <;> omega))))
        | ((with_reducible refine cpyN.mk ?_ ?_ ?_ ?_); (focus rfl); (focus (exact one_all (by rfl))); (focus (exact g_fitp2 (f := cL) (by (try simp only [LN] at *) <;> omega) (g_fitk (by (try simp only [LN] at *) <;> omega)))))
        | ((with_reducible refine rowN_mk (cL x) ?_ ?_); (focus (show (List.map cL ps)[0 + q]? = some (cL x); rw [Nat.zero_add, List.getElem?_map, hy]; rfl)))
        | ((with_reducible apply ixN_litp); (focus (exact rfl)); (focus ((try simp only [LN] at *) <;> omega)))
        | ((with_reducible refine slE_a ?_ ?_); (focus ((try simp only [LN] at *) <;> omega)))
        | with_reducible refine wr_i64 (by first | omega | (simp only [LN] at *; omega)) ?_
        | with_reducible first | refine Z.callZ_in tabOk 8 Try.f50 _ Try.func50 (by kernel_rfl) rfl rfl rfl ?_ | refine Z.callZ_in tabOk 95 Try.f51 _ Try.func51 (by kernel_rfl) rfl rfl rfl ?_
        | ((with_reducible apply ex_and); exact rfl)
        | with_reducible first | refine Z.drawZ_rule tabOk mixOk ?_ | refine Z.apZ_mk (by kernel_rfl) ?_)
      all_goals (try (conv => whnf))
      all_goals try (show Nat.ble _ _ = true; rfl)
      all_goals first
        | (refine ⟨Nat.le_of_ble_eq_true rfl, _, _, _, _, rfl, rfl, ?_, ?_⟩; (focus ((try simp only [LN]) <;> omega)); (exact g_ins (f := cL) rfl (by omega) rfl (gS_eq (by omega) rfl) (gT_eq (f := cL) rfl (Nat.le_min.2 ⟨by omega, by omega⟩) (by omega))))
        | (refine ⟨Nat.le_of_ble_eq_true rfl, _, _, _, _, rfl, rfl, ?_, ?_⟩; (focus ((try simp only [LN]) <;> omega)); (exact g_insp (f := cL) (by omega) (gS_eq (by omega) rfl) (gT_eqp (f := cL) (by omega) (.inl ⟨(Nat.min_eq_right (by omega)).trans (by omega), by omega⟩))))
        | ((refine Z.rndK ((i + 1, some (ps.take q ++ (⟨t, bb⟩ : Pl) :: ps.drop q), es3)) (fun s => [0, 1, 2, 3, 4, 5, 6, 7, 8, s.idIn 6 1]) rfl rfl rfl rfl ?_ ?_ ?_ ?_); (focus (repeat' (first | exact trivial | exact rfl | apply And.intro))); (focus (repeat' (first | exact trivial | exact Z.map_sub (Z.MapL.ren HM fun _ => rfl) rfl | (intro b hb; cases hb; rfl) | (intro b hb; cases hb; done) | exact Z.blk_sub rfl rfl (ren_map fun _ => rfl) | apply And.intro))); (focus (refine ⟨by (try dsimp only); omega, by (try dsimp only [Option.getD_some]); rw [← hins, insT_len]; (try simp only [LN] at *) <;> omega, by (try dsimp only [Option.getD_some]); rw [← hins]; exact layT_step hx HR HO, _, HM, ?_⟩; (try dsimp only [Option.getD_some]); rw [← hins]; exact lay_step (p := ⟨t, bb⟩) HL rfl)); ((try dsimp only); omega))
    · have hkA : k = ps.length := by omega
      rw [hkA, List.take_length, List.drop_length] at hins
      refine Z.loopK tabOk (fun zq : Nat => [(9, .val (.int .i64 (zq : Int)))]) (fun zq : Nat => ([] : Z.Kr)) (fun zq => zq ≤ k) (fun zq => ps.length - zq) 0 12 [(0, _), (1, _), (7, _), (8, _)] ⟨rfl, rfl, rfl, rfl, trivial⟩ [(0, some _), (1, some _), (2, some _), (3, some _), (4, some _), (5, some _), (6, some _), (8, some _), (10, some _), (11, some _)] ⟨rfl, rfl, rfl, rfl, rfl, rfl, rfl, rfl, rfl, rfl, trivial⟩ ?_ ?_ rfl rfl (Nat.zero_le _) ?_
      · repeat' (first | exact trivial | apply And.intro | exact ⟨_, rfl, Z.Imp.refl _⟩)
      · repeat' (first | exact trivial)
      rintro q HINV
      dsimp only at HINV ⊢
      by_cases hj : q < ps.length
      · obtain ⟨x, hy⟩ := getElem?_some' (xs := ps) (i := q) hj
        have hxa : ¬ t < x.task := gtT_lt hgk (by omega) hy
        repeat' ((conv => whnf); first
          | (with_reducible refine spB_dec ?_ ?_ <;> intro _ <;> (try (exfalso; first | contradiction | omega | (rename_i hz; refine hz ?_; simp; done) | (rename_i hz; simp at hz; done) | (simp only [LN] at *; omega))))
          | ((with_reducible refine rowN_mk (cL x) ?_ ?_); (focus (show (List.map cL ps)[0 + q]? = some (cL x); rw [Nat.zero_add, List.getElem?_map, hy]; rfl)))
          | ((with_reducible apply ixN_litp); (focus (exact rfl)); (focus ((try simp only [LN] at *) <;> omega)))
          | with_reducible refine wr_i64 (by first | omega | (simp only [LN] at *; omega)) ?_
          | with_reducible first | refine Z.callZ_in tabOk 8 Try.f50 _ Try.func50 (by kernel_rfl) rfl rfl rfl ?_
          | ((with_reducible apply ex_and); exact rfl))
        all_goals (try (conv => whnf))
        all_goals try (show Nat.ble _ _ = true; rfl)
        all_goals first
          | ((refine Z.rndK ((q + 1)) (fun s => [0, 1, 2, 3, 4, 5, 6, 7, 8, 9, 10, 11]) rfl rfl rfl rfl ?_ ?_ ?_ ?_); (focus (repeat' (first | exact trivial | exact rfl | apply And.intro))); (focus (repeat' (first | exact trivial | exact Z.map_sub (Z.MapL.ren HM fun _ => rfl) rfl | (intro b hb; cases hb; rfl) | exact Z.blk_sub rfl rfl (ren_map fun _ => rfl) | apply And.intro))); (focus (omega)); ((try dsimp only); omega))
      have hji : q = ps.length := by omega
      subst hji
      repeat' ((conv => whnf); first
        | with_reducible first | refine spB_t ?_
        | ((with_reducible apply spB_cong); (focus (simp only [beq_self_eq_true, bne_self_eq_false, Bool.true_bne, Bool.false_bne, Bool.bne_true, Bool.bne_false, Bool.true_beq, Bool.false_beq, Bool.not_true, Bool.not_false, Bool.not_not, Int.reduceBEq, Int.reduceBNe, Int.reduceLE, Int.reduceLT, Int.reduceEq, decide_true, decide_false]; rfl)))
        | with_reducible first | refine spB_no (by decide) ?_
        | (with_reducible refine spB_dec ?_ ?_ <;> intro _ <;> (try (exfalso; first | contradiction | omega | (rename_i hz; refine hz ?_; simp; done) | (rename_i hz; simp at hz; done) | (simp only [LN] at *; omega))))
        | ((with_reducible refine Z.ConZ.red ?_); (apply Z.conZ_ins (N := (ps ++ [(⟨t, bb⟩ : Pl)]).length) (B := ⟨(ps ++ [(⟨t, bb⟩ : Pl)]).map cL, 2, 66, false⟩)); (focus rfl); (focus (repeat (first | exact Z.FK.nil | (apply Z.FK.keep; exact rfl) | (apply Z.FK.drop; exact rfl)))); (focus (repeat (first | exact trivial | (refine ⟨(fun o ho => (by first | (cases ho; rfl) | (cases ho; exact Z.inL_map fun _ => rfl) | (cases ho; exact Z.inL_mapr fun _ => rfl) | exact Z.inL_gB ho fun _ => rfl)), ?_⟩)))); (focus rfl); (focus (exact Z.inL_map fun _ => rfl)))
        | ((apply Z.callZ_capS (n := ps.length)); (focus (exact rfl)); (focus (simp; done)); (intro capv hcapv; refine ⟨fun hcap => ?_, fun hcap gv hgv => ?_⟩))
        | ((with_reducible refine Z.slN_lo (ps.length) ?_ ?_ ?_); (focus rfl); (focus ((try simp only [LN] at *) <;> omega)))
        | ((with_reducible refine apdE_r ?_); (with_reducible refine aprN.mk ⟨_, rfl, ?_⟩ ?_ ?_ ?_ ?_); (focus omega); (focus rfl); (focus (exact one_all (by rfl))); (focus (simp; done)))
        | ((with_reducible refine apdE_k ?_); (with_reducible refine apkN.mk ⟨_, rfl, ?_⟩ ?_); (focus omega); (with_reducible refine apdN.mk ?_ ?_ ?_ ?_ ?_ ?_); (focus rfl); (focus (exact one_all (by rfl))); (focus (simp; done)); (focus ((try simp only [LN] at *) <;> omega)); (focus ((try simp only [LN] at *) <;> omega)))
        | ((with_reducible refine slE_b ?_ ?_); (focus ((try simp only [LN] at *) <;> omega)))
        | with_reducible refine wr_i64 (by first | omega | (simp only [LN] at *; omega)) ?_
        | with_reducible first | refine Z.callZ_in tabOk 95 Try.f51 _ Try.func51 (by kernel_rfl) rfl rfl rfl ?_
        | ((with_reducible apply ex_and); exact rfl)
        | with_reducible first | refine Z.drawZ_rule tabOk mixOk ?_ | refine Z.apZ_mk (by kernel_rfl) ?_)
      all_goals (try (conv => whnf))
      all_goals try (show Nat.ble _ _ = true; rfl)
      all_goals first
        | (refine ⟨Nat.le_of_ble_eq_true rfl, _, _, _, _, rfl, rfl, ?_, ?_⟩; (focus ((try simp only [LN]) <;> omega)); (exact g_app (f := cL) rfl rfl))
        | (refine ⟨Nat.le_of_ble_eq_true rfl, _, _, _, _, rfl, rfl, ?_, ?_⟩; (focus ((try simp only [LN]) <;> omega)); (exact g_appr (f := cL) rfl rfl))
        | ((refine Z.rndK ((i + 1, some (ps ++ [(⟨t, bb⟩ : Pl)]), es3)) (fun s => [0, 1, 2, 3, 4, 5, 6, 7, 8, s.idIn 6 1]) rfl rfl rfl rfl ?_ ?_ ?_ ?_); (focus (repeat' (first | exact trivial | exact rfl | apply And.intro))); (focus (repeat' (first | exact trivial | exact Z.map_sub (Z.MapL.ren HM fun _ => rfl) rfl | (intro b hb; cases hb; rfl) | (intro b hb; cases hb; done) | exact Z.blk_sub rfl rfl (ren_map fun _ => rfl) | apply And.intro))); (focus (refine ⟨by (try dsimp only); omega, by (try dsimp only [Option.getD_some]); rw [← hins, insT_len]; (try simp only [LN] at *) <;> omega, by (try dsimp only [Option.getD_some]); rw [← hins]; exact layT_step hx HR HO, _, HM, ?_⟩; (try dsimp only [Option.getD_some]); rw [← hins]; exact lay_step (p := ⟨t, bb⟩) HL rfl)); ((try dsimp only); omega))
  · dsimp only [cel, blo, bln, Option.getD_some] at HAl HO HL ⊢
    by_cases hi : i < ts.length
    rotate_left
    · have hlay : A = layT ws ps ts := by rw [HO, List.drop_eq_nil_of_le (by omega)]; rfl
      rw [← hlay]
      repeat' ((conv => whnf); first
        | ((with_reducible apply spB_cong); (focus (simp only [beq_self_eq_true, bne_self_eq_false, Bool.true_bne, Bool.false_bne, Bool.bne_true, Bool.bne_false, Bool.true_beq, Bool.false_beq, Bool.not_true, Bool.not_false, Bool.not_not, Int.reduceBEq, Int.reduceBNe, Int.reduceLE, Int.reduceLT, Int.reduceEq, decide_true, decide_false]; rfl)))
        | with_reducible first | refine spB_no (by decide) ?_
        | (with_reducible refine spB_dec ?_ ?_ <;> intro _ <;> (try (exfalso; first | contradiction | omega | (rename_i hz; refine hz ?_; simp; done) | (rename_i hz; simp at hz; done) | (simp only [LN] at *; omega))))
        | ((with_reducible apply ex_and); exact rfl))
      all_goals (try (conv => whnf))
      all_goals try (show Nat.ble _ _ = true; rfl)
      all_goals first
        | (refine Z.retF2 [.agg [.ro true 2 (ws.map eW), .osl 9 0 A.length none], .one (.v (.int .i64 0))] (by rfl) ⟨⟨rfl, (Z.frz_osl (l := A) (f := cL) (ty := 66) (bx := false) (by rfl) rfl (fun _ => rfl)), trivial⟩, rfl, trivial⟩)
    obtain ⟨t, hx⟩ := getElem?_some' (xs := ts) (i := i) hi
    repeat' ((conv => whnf); first
      | (with_reducible refine spB_dec ?_ ?_ <;> intro _ <;> (try (exfalso; first | contradiction | omega | (rename_i hz; refine hz ?_; simp; done) | (rename_i hz; simp at hz; done) | (simp only [LN] at *; omega))))
      | with_reducible first | refine Z.rowN_known hx ?_
      | ((with_reducible apply ixN_litp); (focus (exact rfl)); (focus ((try simp only [LN] at *) <;> omega)))
      | with_reducible first | refine Z.callZ_in tabOk 31 Try.f48 _ Try.func48 (by kernel_rfl) rfl rfl rfl ?_)
    all_goals (try (conv => whnf))
    all_goals try (show Nat.ble _ _ = true; rfl)
    all_goals try (exfalso; rename_i hz; cases hz; done)
    all_goals try (exfalso; (try simp only [LN] at *) <;> omega)
    refine Z.loopK tabOk (fun zq : Nat × Int => [(11, .val (.int .i64 (zq.1 : Int))), (5, .val (.int .i64 zq.2))]) (fun zq : Nat × Int => ([] : Z.Kr)) (fun zq => zq.1 ≤ ws.length ∧ roomF (leftF ws A) ws 0 = roomF (leftF ws A) (ws.drop zq.1) zq.2) (fun zq => ws.length - zq.1) (0, 0) 12 [(1, _), (9, _), (10, _)] ⟨rfl, rfl, rfl, trivial⟩ [(0, some _), (1, some _), (2, some _), (3, some _), (4, some _), (6, some _), (8, some _), (9, some _), (10, some _), (11, some _)] ⟨rfl, rfl, rfl, rfl, rfl, rfl, rfl, rfl, rfl, rfl, trivial⟩ ?_ ?_ rfl rfl ⟨Nat.zero_le _, rfl⟩ ?_
    · repeat' (first | exact trivial | apply And.intro | exact ⟨_, rfl, Z.Imp.refl _⟩)
    · repeat' (first | exact trivial)
    rintro ⟨j, bb⟩ HINV
    dsimp only at HINV ⊢
    obtain ⟨HJ, HR⟩ := HINV
    by_cases hj : j < ws.length
    · obtain ⟨w, hy⟩ := getElem?_some' (xs := ws) (i := j) hj
      have h1 := HL w.id
      have h2 := HL bb
      repeat' ((conv => whnf); first
        | with_reducible first | refine spB_t ?_
        | with_reducible first | refine spB_no (by decide) ?_
        | (with_reducible refine spB_dec ?_ ?_ <;> intro _ <;> (try (exfalso; first | contradiction | omega | (rename_i hz; refine hz ?_; simp; done) | (rename_i hz; simp at hz; done) | (simp only [LN] at *; omega))))
        | (with_reducible refine spB_beq ?_ ?_ <;> intro _ <;> (try (exfalso; first | contradiction | omega | (rename_i hz; refine hz ?_; simp; done) | (rename_i hz; simp at hz; done) | (simp only [LN] at *; omega))))
        | with_reducible first | refine Z.rowN_known hy ?_
        | ((with_reducible refine Z.MapL.look HM (z0 := (0 : Int)) ?_ ?_); (focus rfl))
        | ((with_reducible apply ixN_litp); (focus (exact rfl)); (focus ((try simp only [LN] at *) <;> omega)))
        | with_reducible refine wr_i64 (by first | omega | (simp only [LN] at *; omega)) ?_)
      all_goals (try (conv => whnf))
      all_goals try (show Nat.ble _ _ = true; rfl)
      all_goals first
        | ((refine Z.rndK ((j + 1, w.id)) (fun s => [0, 1, 2, 3, 4, 5, 6, 7, 8, 9, 10, 11]) rfl rfl rfl rfl ?_ ?_ ?_ ?_); (focus (repeat' (first | exact trivial | exact rfl | apply And.intro))); (focus (repeat' (first | exact trivial | exact Z.map_sub (Z.MapL.ren HM fun _ => rfl) rfl | (intro b hb; cases hb; rfl) | exact Z.blk_sub rfl rfl (ren_map fun _ => rfl) | apply And.intro))); (focus (refine ⟨by (try dsimp only); omega, ?_⟩; (try dsimp only); rw [HR, drop_cons hy, roomF, if_pos (by first | (left; omega) | (right; omega))])); ((try dsimp only); omega))
        | ((refine Z.rndK ((j + 1, bb)) (fun s => [0, 1, 2, 3, 4, 5, 6, 7, 8, 9, 10, 11]) rfl rfl rfl rfl ?_ ?_ ?_ ?_); (focus (repeat' (first | exact trivial | exact rfl | apply And.intro))); (focus (repeat' (first | exact trivial | exact Z.map_sub (Z.MapL.ren HM fun _ => rfl) rfl | (intro b hb; cases hb; rfl) | exact Z.blk_sub rfl rfl (ren_map fun _ => rfl) | apply And.intro))); (focus (refine ⟨by (try dsimp only); omega, ?_⟩; (try dsimp only); rw [HR, drop_cons hy, roomF, if_neg (by omega)])); ((try dsimp only); omega))
    rw [drop_end hj, roomF] at HR
    have hlb := HL bb
    have hb1 := okW_sl hkw bb
    have hb2 := cnt_nn (ps := A) (y := bb)
    have hlb2 : (Z.lookK L bb).getD 0 = slF ws bb - cnt A bb := hlb
    have hAle : A.length ≤ 1016 := by (try simp only [LN] at *) <;> omega
    repeat' ((conv => whnf); first
      | (with_reducible refine spB_dec ?_ ?_ <;> intro _ <;> (try (exfalso; first | contradiction | omega | (rename_i hz; refine hz ?_; simp; done) | (rename_i hz; simp at hz; done) | (simp only [LN] at *; omega))))
      | ((with_reducible refine Z.MapL.look HM (z0 := (0 : Int)) ?_ ?_); (focus rfl))
      | ((with_reducible refine Z.MapL.upd' HM (v := (Z.lookK L bb).getD 0 - 1) ?_ ?_); (focus rfl); (intro es3 HM))
      | with_reducible refine wr_i64 (by first | omega | (simp only [LN] at *; omega)) ?_
      | with_reducible first | refine Z.callZ_in tabOk 21 Try.f49 _ Try.func49 (by kernel_rfl) rfl rfl rfl ?_
      | ((with_reducible apply ex_and); exact rfl))
    all_goals (try (conv => whnf))
    all_goals try (show Nat.ble _ _ = true; rfl)
    all_goals try (exfalso; rename_i hz; cases hz; done)
    all_goals try (exfalso; (try simp only [LN] at *) <;> omega)
    have hgl : gtT A t ≤ A.length := gtT_le
    generalize hgk : gtT A t = k at *
    have hins : insT A ⟨t, bb⟩ = A.take k ++ (⟨t, bb⟩ : Pl) :: A.drop k := by unfold insT; rw [hgk]
    by_cases hkl : k < A.length
    · skip
      refine Z.loopK tabOk (fun zq : Nat => [(9, .val (.int .i64 (zq : Int)))]) (fun zq : Nat => ([] : Z.Kr)) (fun zq => zq ≤ k) (fun zq => A.length - zq) 0 12 [(0, _), (1, _), (7, _), (8, _)] ⟨rfl, rfl, rfl, rfl, trivial⟩ [(0, some _), (1, some _), (2, some _), (3, some _), (4, some _), (6, some _), (8, some _), (9, some _), (10, some _), (11, some _)] ⟨rfl, rfl, rfl, rfl, rfl, rfl, rfl, rfl, rfl, rfl, trivial⟩ ?_ ?_ rfl rfl (Nat.zero_le _) ?_
      · repeat' (first | exact trivial | apply And.intro | exact ⟨_, rfl, Z.Imp.refl _⟩)
      · repeat' (first | exact trivial)
      rintro q HINV
      dsimp only at HINV ⊢
      obtain ⟨x, hy⟩ := getElem?_some' (xs := A) (i := q) (by omega)
      by_cases hj : q < k
      · have hxa : ¬ t < x.task := gtT_lt hgk hj hy
        repeat' ((conv => whnf); first
          | (with_reducible refine spB_dec ?_ ?_ <;> intro _ <;> (try (exfalso; first | contradiction | omega | (rename_i hz; refine hz ?_; simp; done) | (rename_i hz; simp at hz; done) | (simp only [LN] at *; omega))))
          | ((with_reducible refine rowN_mk (cL x) ?_ ?_); (focus (show (List.map cL A)[0 + q]? = some (cL x); rw [Nat.zero_add, List.getElem?_map, hy]; rfl)))
          | ((with_reducible apply ixN_litp); (focus (exact rfl)); (focus ((try simp only [LN] at *) <;> omega)))
          | with_reducible refine wr_i64 (by first | omega | (simp only [LN] at *; omega)) ?_
          | with_reducible first | refine Z.callZ_in tabOk 8 Try.f50 _ Try.func50 (by kernel_rfl) rfl rfl rfl ?_
          | ((with_reducible apply ex_and); exact rfl))
        all_goals (try (conv => whnf))
        all_goals try (show Nat.ble _ _ = true; rfl)
        all_goals first
          | ((refine Z.rndK ((q + 1)) (fun s => [0, 1, 2, 3, 4, 5, 6, 7, 8, 9, 10, 11]) rfl rfl rfl rfl ?_ ?_ ?_ ?_); (focus (repeat' (first | exact trivial | exact rfl | apply And.intro))); (focus (repeat' (first | exact trivial | exact Z.map_sub (Z.MapL.ren HM fun _ => rfl) rfl | (intro b hb; cases hb; rfl) | exact Z.blk_sub rfl rfl (ren_map fun _ => rfl) | apply And.intro))); (focus (omega)); ((try dsimp only); omega))
      have hji : q = k := by omega
      subst hji
      have hxa : t < x.task := gtT_at hgk hy
      repeat' ((conv => whnf); first
        | with_reducible first | refine spB_t ?_
        | ((with_reducible apply spB_cong); (focus (simp only [beq_self_eq_true, bne_self_eq_false, Bool.true_bne, Bool.false_bne, Bool.bne_true, Bool.bne_false, Bool.true_beq, Bool.false_beq, Bool.not_true, Bool.not_false, Bool.not_not, Int.reduceBEq, Int.reduceBNe, Int.reduceLE, Int.reduceLT, Int.reduceEq, decide_true, decide_false]; rfl)))
        | with_reducible first | refine spB_no (by decide) ?_
        | (with_reducible refine spB_dec ?_ ?_ <;> intro _ <;> (try (exfalso; first | contradiction | omega | (rename_i hz; refine hz ?_; simp; done) | (rename_i hz; simp at hz; done) | (simp only [LN] at *; omega))))
        | (with_reducible refine spB_beq ?_ ?_ <;> intro _ <;> (try (exfalso; first | contradiction | omega | (rename_i hz; refine hz ?_; simp; done) | (rename_i hz; simp at hz; done) | (simp only [LN] at *; omega))))
        | ((with_reducible refine Z.ConZ.red ?_); (apply Z.conZ_ins (N := (A.take q ++ (⟨t, bb⟩ : Pl) :: A.drop q).length) (B := ⟨(A.take q ++ (⟨t, bb⟩ : Pl) :: A.drop q).map cL, 2, 66, false⟩)); (focus rfl); (focus (repeat (first | exact Z.FK.nil | (apply Z.FK.keep; exact rfl) | (apply Z.FK.drop; exact rfl)))); (focus (repeat (first | exact trivial | (refine ⟨(fun o ho => (by first | (cases ho; rfl) | (cases ho; exact Z.inL_map fun _ => rfl) | (cases ho; exact Z.inL_mapr fun _ => rfl) | exact Z.inL_gB ho fun _ => rfl)), ?_⟩)))); (focus rfl); (focus (exact Z.inL_map fun _ => rfl)))
        | ((apply Z.callZ_capS (n := A.length)); (focus (exact rfl)); (focus (simp; done)); (intro capv hcapv; refine ⟨fun hcap => ?_, fun hcap gv hgv => ?_⟩))
        | ((with_reducible apply Z.callZ_ovl (tS := 23) (tR := 4) tabOk Try.f65 Try.func65 (by kernel_rfl) (by kernel_rfl) (by kernel_rfl) (by kernel_rfl)); (iterate 4 (focus (exact rfl))); (focus (exact Nat.ne_of_beq_eq_false rfl)); (focus (simp; done)); (focus (exact Nat.zero_lt_succ _)))
        | ((with_reducible refine Z.slN_lo (q) ?_ ?_ ?_); (focus rfl); (focus ((try simp only [LN] at *) <;> omega)))
        | ((with_reducible refine Z.slN_lo (q + 1) ?_ ?_ ?_); (focus rfl); (focus ((try simp only [LN] at *) <;> omega)))
        | ((with_reducible refine slN_hi (q) ?_ ?_ ?_); (focus rfl); (focus ((try simp only [LN] at *) <;> omega)))
        | ((with_reducible refine slN_hc (A.length + 1) ?_ ?_ ?_); (focus rfl); (focus (exact ⟨_, rfl, by omega⟩)))
        | ((with_reducible refine apzE_k ?_); (with_reducible refine apzK_mk (A.length + 1 - q) ⟨_, rfl, ?_⟩ ?_ ?_ ?_ ?_ ?_ ?_); (focus ((try simp only [LN] at *) <;> omega)); (focus ((try simp only [LN] at *) <;> omega)); (focus (exact g_le (f := cL) rfl (by omega))); (iterate 2 (focus ((try simp only [LN] at *) <;> omega))); (focus rfl))
        | ((with_reducible refine cpyN.mk ?_ ?_ ?_ ?_); (focus rfl); (focus (exact one_all (by rfl))); (focus (exact g_fit (f := cL) rfl (by omega) (by (try simp only [LN] at *) <;> omega))))
        | ((with_reducible refine cpyN.mk ?_ ?_ ?_ ?_); (focus (exact g_len (f := cL) rfl (by (try simp only [LN] at *) <;> omega))); (focus (exact g_one cL_one rfl)); (focus (exact g_fit2 (f := cL) rfl (by omega) (by (try simp only [LN] at *) <;> omega) gS_len)))
        | ((with_reducible refine cpyN.mk2 ?_ ?_ ?_ ?_); (focus (exact g_lenp (f := cL) (by (try simp only [LN] at *) <;> omega))); (focus (exact g_onep cL_one (g_min (by (try simp only [LN] at *) <;> omega)))); (focus (exact g_fitp (f := cL) (by (try simp only [LN] at *) <;> omega))))
        | ((with_reducible refine cpyN.mk ?_ ?_ ?_ ?_); (focus rfl); (focus (exact one_all (by rfl))); (focus (exact g_fitp2 (f := cL) (by (try simp only [LN] at *) <;> omega) (g_fitk (by (try simp only [LN] at *) <;> omega)))))
        | ((with_reducible refine rowN_mk (cL x) ?_ ?_); (focus (show (List.map cL A)[0 + q]? = some (cL x); rw [Nat.zero_add, List.getElem?_map, hy]; rfl)))
        | ((with_reducible apply ixN_litp); (focus (exact rfl)); (focus ((try simp only [LN] at *) <;> omega)))
        | ((with_reducible refine slE_a ?_ ?_); (focus ((try simp only [LN] at *) <;> omega)))
        | with_reducible refine wr_i64 (by first | omega | (simp only [LN] at *; omega)) ?_
        | with_reducible first | refine Z.callZ_in tabOk 8 Try.f50 _ Try.func50 (by kernel_rfl) rfl rfl rfl ?_ | refine Z.callZ_in tabOk 95 Try.f51 _ Try.func51 (by kernel_rfl) rfl rfl rfl ?_
        | ((with_reducible apply ex_and); exact rfl)
        | with_reducible first | refine Z.drawZ_rule tabOk mixOk ?_ | refine Z.apZ_mk (by kernel_rfl) ?_)
      all_goals (try (conv => whnf))
      all_goals try (show Nat.ble _ _ = true; rfl)
      all_goals first
        | (refine ⟨Nat.le_of_ble_eq_true rfl, _, _, _, _, rfl, rfl, ?_, ?_⟩; (focus ((try simp only [LN]) <;> omega)); (exact g_ins (f := cL) rfl (by omega) rfl (gS_eq (by omega) rfl) (gT_eq (f := cL) rfl (Nat.le_min.2 ⟨by omega, by omega⟩) (by omega))))
        | (refine ⟨Nat.le_of_ble_eq_true rfl, _, _, _, _, rfl, rfl, ?_, ?_⟩; (focus ((try simp only [LN]) <;> omega)); (exact g_insp (f := cL) (by omega) (gS_eq (by omega) rfl) (gT_eqp (f := cL) (by omega) (.inl ⟨(Nat.min_eq_right (by omega)).trans (by omega), by omega⟩))))
        | ((refine Z.rndK ((i + 1, some (A.take q ++ (⟨t, bb⟩ : Pl) :: A.drop q), es3)) (fun s => [0, 1, 2, 3, 4, 5, 6, 7, 8, s.idIn 6 1]) rfl rfl rfl rfl ?_ ?_ ?_ ?_); (focus (repeat' (first | exact trivial | exact rfl | apply And.intro))); (focus (repeat' (first | exact trivial | exact Z.map_sub (Z.MapL.ren HM fun _ => rfl) rfl | (intro b hb; cases hb; rfl) | (intro b hb; cases hb; done) | exact Z.blk_sub rfl rfl (ren_map fun _ => rfl) | apply And.intro))); (focus (refine ⟨by (try dsimp only); omega, by (try dsimp only [Option.getD_some]); rw [← hins, insT_len]; (try simp only [LN] at *) <;> omega, by (try dsimp only [Option.getD_some]); rw [← hins]; exact layT_step hx HR HO, _, HM, ?_⟩; (try dsimp only [Option.getD_some]); rw [← hins]; exact lay_step (p := ⟨t, bb⟩) HL rfl)); ((try dsimp only); omega))
    · have hkA : k = A.length := by omega
      rw [hkA, List.take_length, List.drop_length] at hins
      refine Z.loopK tabOk (fun zq : Nat => [(9, .val (.int .i64 (zq : Int)))]) (fun zq : Nat => ([] : Z.Kr)) (fun zq => zq ≤ k) (fun zq => A.length - zq) 0 12 [(0, _), (1, _), (7, _), (8, _)] ⟨rfl, rfl, rfl, rfl, trivial⟩ [(0, some _), (1, some _), (2, some _), (3, some _), (4, some _), (6, some _), (8, some _), (9, some _), (10, some _), (11, some _)] ⟨rfl, rfl, rfl, rfl, rfl, rfl, rfl, rfl, rfl, rfl, trivial⟩ ?_ ?_ rfl rfl (Nat.zero_le _) ?_
      · repeat' (first | exact trivial | apply And.intro | exact ⟨_, rfl, Z.Imp.refl _⟩)
      · repeat' (first | exact trivial)
      rintro q HINV
      dsimp only at HINV ⊢
      by_cases hj : q < A.length
      · obtain ⟨x, hy⟩ := getElem?_some' (xs := A) (i := q) hj
        have hxa : ¬ t < x.task := gtT_lt hgk (by omega) hy
        repeat' ((conv => whnf); first
          | (with_reducible refine spB_dec ?_ ?_ <;> intro _ <;> (try (exfalso; first | contradiction | omega | (rename_i hz; refine hz ?_; simp; done) | (rename_i hz; simp at hz; done) | (simp only [LN] at *; omega))))
          | ((with_reducible refine rowN_mk (cL x) ?_ ?_); (focus (show (List.map cL A)[0 + q]? = some (cL x); rw [Nat.zero_add, List.getElem?_map, hy]; rfl)))
          | ((with_reducible apply ixN_litp); (focus (exact rfl)); (focus ((try simp only [LN] at *) <;> omega)))
          | with_reducible refine wr_i64 (by first | omega | (simp only [LN] at *; omega)) ?_
          | with_reducible first | refine Z.callZ_in tabOk 8 Try.f50 _ Try.func50 (by kernel_rfl) rfl rfl rfl ?_
          | ((with_reducible apply ex_and); exact rfl))
        all_goals (try (conv => whnf))
        all_goals try (show Nat.ble _ _ = true; rfl)
        all_goals first
          | ((refine Z.rndK ((q + 1)) (fun s => [0, 1, 2, 3, 4, 5, 6, 7, 8, 9, 10, 11]) rfl rfl rfl rfl ?_ ?_ ?_ ?_); (focus (repeat' (first | exact trivial | exact rfl | apply And.intro))); (focus (repeat' (first | exact trivial | exact Z.map_sub (Z.MapL.ren HM fun _ => rfl) rfl | (intro b hb; cases hb; rfl) | exact Z.blk_sub rfl rfl (ren_map fun _ => rfl) | apply And.intro))); (focus (omega)); ((try dsimp only); omega))
      have hji : q = A.length := by omega
      subst hji
      repeat' ((conv => whnf); first
        | with_reducible first | refine spB_t ?_
        | ((with_reducible apply spB_cong); (focus (simp only [beq_self_eq_true, bne_self_eq_false, Bool.true_bne, Bool.false_bne, Bool.bne_true, Bool.bne_false, Bool.true_beq, Bool.false_beq, Bool.not_true, Bool.not_false, Bool.not_not, Int.reduceBEq, Int.reduceBNe, Int.reduceLE, Int.reduceLT, Int.reduceEq, decide_true, decide_false]; rfl)))
        | with_reducible first | refine spB_no (by decide) ?_
        | (with_reducible refine spB_dec ?_ ?_ <;> intro _ <;> (try (exfalso; first | contradiction | omega | (rename_i hz; refine hz ?_; simp; done) | (rename_i hz; simp at hz; done) | (simp only [LN] at *; omega))))
        | ((with_reducible refine Z.ConZ.red ?_); (apply Z.conZ_ins (N := (A ++ [(⟨t, bb⟩ : Pl)]).length) (B := ⟨(A ++ [(⟨t, bb⟩ : Pl)]).map cL, 2, 66, false⟩)); (focus rfl); (focus (repeat (first | exact Z.FK.nil | (apply Z.FK.keep; exact rfl) | (apply Z.FK.drop; exact rfl)))); (focus (repeat (first | exact trivial | (refine ⟨(fun o ho => (by first | (cases ho; rfl) | (cases ho; exact Z.inL_map fun _ => rfl) | (cases ho; exact Z.inL_mapr fun _ => rfl) | exact Z.inL_gB ho fun _ => rfl)), ?_⟩)))); (focus rfl); (focus (exact Z.inL_map fun _ => rfl)))
        | ((apply Z.callZ_capS (n := A.length)); (focus (exact rfl)); (focus (simp; done)); (intro capv hcapv; refine ⟨fun hcap => ?_, fun hcap gv hgv => ?_⟩))
        | ((with_reducible refine Z.slN_lo (A.length) ?_ ?_ ?_); (focus rfl); (focus ((try simp only [LN] at *) <;> omega)))
        | ((with_reducible refine apdE_r ?_); (with_reducible refine aprN.mk ⟨_, rfl, ?_⟩ ?_ ?_ ?_ ?_); (focus omega); (focus rfl); (focus (exact one_all (by rfl))); (focus (simp; done)))
        | ((with_reducible refine apdE_k ?_); (with_reducible refine apkN.mk ⟨_, rfl, ?_⟩ ?_); (focus omega); (with_reducible refine apdN.mk ?_ ?_ ?_ ?_ ?_ ?_); (focus rfl); (focus (exact one_all (by rfl))); (focus (simp; done)); (focus ((try simp only [LN] at *) <;> omega)); (focus ((try simp only [LN] at *) <;> omega)))
        | ((with_reducible refine slE_b ?_ ?_); (focus ((try simp only [LN] at *) <;> omega)))
        | with_reducible refine wr_i64 (by first | omega | (simp only [LN] at *; omega)) ?_
        | with_reducible first | refine Z.callZ_in tabOk 95 Try.f51 _ Try.func51 (by kernel_rfl) rfl rfl rfl ?_
        | ((with_reducible apply ex_and); exact rfl)
        | with_reducible first | refine Z.drawZ_rule tabOk mixOk ?_ | refine Z.apZ_mk (by kernel_rfl) ?_)
      all_goals (try (conv => whnf))
      all_goals try (show Nat.ble _ _ = true; rfl)
      all_goals first
        | (refine ⟨Nat.le_of_ble_eq_true rfl, _, _, _, _, rfl, rfl, ?_, ?_⟩; (focus ((try simp only [LN]) <;> omega)); (exact g_app (f := cL) rfl rfl))
        | (refine ⟨Nat.le_of_ble_eq_true rfl, _, _, _, _, rfl, rfl, ?_, ?_⟩; (focus ((try simp only [LN]) <;> omega)); (exact g_appr (f := cL) rfl rfl))
        | ((refine Z.rndK ((i + 1, some (A ++ [(⟨t, bb⟩ : Pl)]), es3)) (fun s => [0, 1, 2, 3, 4, 5, 6, 7, 8, s.idIn 6 1]) rfl rfl rfl rfl ?_ ?_ ?_ ?_); (focus (repeat' (first | exact trivial | exact rfl | apply And.intro))); (focus (repeat' (first | exact trivial | exact Z.map_sub (Z.MapL.ren HM fun _ => rfl) rfl | (intro b hb; cases hb; rfl) | (intro b hb; cases hb; done) | exact Z.blk_sub rfl rfl (ren_map fun _ => rfl) | apply And.intro))); (focus (refine ⟨by (try dsimp only); omega, by (try dsimp only [Option.getD_some]); rw [← hins, insT_len]; (try simp only [LN] at *) <;> omega, by (try dsimp only [Option.getD_some]); rw [← hins]; exact layT_step hx HR HO, _, HM, ?_⟩; (try dsimp only [Option.getD_some]); rw [← hins]; exact lay_step (p := ⟨t, bb⟩) HL rfl)); ((try dsimp only); omega))

end Go.Proofs.Ytllnmdmmmkoiaaa
