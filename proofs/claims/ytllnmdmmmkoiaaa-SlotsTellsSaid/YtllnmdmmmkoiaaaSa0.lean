import Derived.Test.YtllnmdmmmkoiaaaWf0
import Derived.Test.YtllnmdmmmkoiaaaWs
import Derived.Test.YtllnmdmmmkoiaaaWzc
import Derived.Test.YtllnmdmmmkoiaaaWzd
import Derived.Test.YtllnmdmmmkoiaaaWze
import Derived.Test.YtllnmdmmmkoiaaaWzm
import Derived.Test.YtllnmdmmmkoiaaaWy
namespace Go.Proofs.Ytllnmdmmmkoiaaa
open Go Go.RowKit Wx
set_option linter.unusedVariables false
set_option linter.unusedSimpArgs false
set_option maxHeartbeats 4000000
structure Wk where
  id : Int
  sl : Int
deriving DecidableEq
structure Pl where
  task : Int
  wk : Int
deriving DecidableEq
abbrev eW (x : Wk) : List RT := [RT.v (.int .i64 x.id), RT.v (.int .i64 x.sl)]
abbrev eL (x : Pl) : List RT := [RT.v (.int .i64 x.task), RT.v (.int .i64 x.wk)]
abbrev cW (x : Wk) : List Ce := [Ce.v (.int .i64 x.id), Ce.v (.int .i64 x.sl)]
abbrev cL (x : Pl) : List Ce := [Ce.v (.int .i64 x.task), Ce.v (.int .i64 x.wk)]
abbrev eI (z : Int) : List RT := [RT.v (.int .i64 z)]
abbrev cI (z : Int) : List Ce := [Ce.v (.int .i64 z)]
abbrev enI (z : Int) : A0 := .one (.v (.int .i64 z))
def okW : Int → List Wk → Bool
  | _, [] => true
  | a, w :: l => decide ((1 ≤ w.id ∧ w.id ≤ 4) ∧ (1 ≤ w.sl ∧ w.sl ≤ 8) ∧ a < w.id) && okW w.id l
def okT : Int → List Pl → Bool
  | _, [] => true
  | a, p :: l => decide ((0 ≤ p.task ∧ p.task < 16) ∧ a < p.task) && okT p.task l
def slF : List Wk → Int → Int
  | [], _ => 0
  | w :: l, y => if w.id = y then w.sl else slF l y
def cnt : List Pl → Int → Int
  | [], _ => 0
  | p :: l, y => (if p.wk = y then 1 else 0) + cnt l y
def okC (ws : List Wk) (ps : List Pl) : Bool := (ws.map (·.id) ++ ps.map (·.wk)).all fun y => decide (cnt ps y ≤ slF ws y)
def okF (ws : List Wk) (ps : List Pl) : Bool := okW 0 ws && okT (-1) ps && okC ws ps
def wsrt (ws : List Wk) : Prop := ws.Pairwise fun a b => a.id < b.id
def psrt (ps : List Pl) : Prop := ps.Pairwise fun a b => a.task < b.task
theorem okW_all : ∀ {ws : List Wk} {a : Int}, okW a ws = true ↔ wsrt ws ∧ ∀ w ∈ ws, a < w.id ∧ 1 ≤ w.id ∧ w.id ≤ 4 ∧ 1 ≤ w.sl ∧ w.sl ≤ 8
  | [], a => by simp [okW, wsrt]
  | w :: l, a => by
    simp only [okW, Bool.and_eq_true, decide_eq_true_eq, okW_all (ws := l), wsrt, List.pairwise_cons, List.mem_cons]
    constructor
    · rintro ⟨h1, h2, h3⟩
      refine ⟨⟨fun b hb => (h3 b hb).1, h2⟩, ?_⟩
      rintro b (rfl | hb)
      · omega
      · have := h3 b hb; omega
    · rintro ⟨⟨h1, h2⟩, h3⟩
      refine ⟨?_, h2, fun b hb => ?_⟩
      · have := h3 w (.inl rfl); omega
      · have := h3 b (.inr hb); have := h1 b hb; omega
theorem okT_all : ∀ {ps : List Pl} {a : Int}, okT a ps = true ↔ psrt ps ∧ ∀ p ∈ ps, a < p.task ∧ 0 ≤ p.task ∧ p.task < 16
  | [], a => by simp [okT, psrt]
  | w :: l, a => by
    simp only [okT, Bool.and_eq_true, decide_eq_true_eq, okT_all (ps := l), psrt, List.pairwise_cons, List.mem_cons]
    constructor
    · rintro ⟨h1, h2, h3⟩
      refine ⟨⟨fun b hb => (h3 b hb).1, h2⟩, ?_⟩
      rintro b (rfl | hb)
      · omega
      · have := h3 b hb; omega
    · rintro ⟨⟨h1, h2⟩, h3⟩
      refine ⟨?_, h2, fun b hb => ?_⟩
      · have := h3 w (.inl rfl); omega
      · have := h3 b (.inr hb); have := h1 b hb; omega
theorem srt_len {α : Type} {f : α → Int} : ∀ {l : List α} {a b : Int}, l.Pairwise (fun x y => f x < f y) → (∀ x ∈ l, a < f x ∧ f x < b) → a < b → (l.length : Int) < b - a
  | [], a, b, _, _, h => by simp; omega
  | x :: l, a, b, h, g, hab => by
    rw [List.pairwise_cons] at h
    have hx := g x (by simp)
    have := srt_len (a := f x) (b := b) h.2 (fun y hy => ⟨h.1 y hy, (g y (by simp [hy])).2⟩) hx.2
    simp only [List.length_cons]; omega
theorem okW_len {ws : List Wk} (h : okW 0 ws = true) : ws.length ≤ 4 := by
  obtain ⟨h1, h2⟩ := okW_all.1 h
  have := srt_len (f := Wk.id) (a := 0) (b := 5) h1 (fun w hw => by have := h2 w hw; omega) (by decide)
  omega
theorem okT_len {ps : List Pl} (h : okT (-1) ps = true) : ps.length ≤ 16 := by
  obtain ⟨h1, h2⟩ := okT_all.1 h
  have := srt_len (f := Pl.task) (a := -1) (b := 16) h1 (fun w hw => by have := h2 w hw; omega) (by decide)
  omega
theorem cnt_nn : ∀ {ps : List Pl} {y : Int}, 0 ≤ cnt ps y ∧ cnt ps y ≤ ps.length
  | [], y => by simp [cnt]
  | p :: l, y => by
    have := cnt_nn (ps := l) (y := y)
    simp only [cnt, List.length_cons]; split <;> omega
theorem cnt_pos : ∀ {ps : List Pl} {y : Int}, 0 < cnt ps y → y ∈ ps.map (·.wk)
  | [], y, h => by simp [cnt] at h
  | p :: l, y, h => by
    simp only [cnt] at h
    by_cases hp : p.wk = y
    · simp [hp]
    · rw [if_neg hp] at h
      have := cnt_pos (ps := l) (y := y) (by omega)
      rw [List.map_cons]; exact List.mem_cons_of_mem _ this
theorem cnt_app : ∀ {ps qs : List Pl} {y : Int}, cnt (ps ++ qs) y = cnt ps y + cnt qs y
  | [], qs, y => by simp [cnt]
  | p :: l, qs, y => by simp only [List.cons_append, cnt, cnt_app]; omega
theorem slF_b : ∀ {ws : List Wk} {y : Int}, (∀ w ∈ ws, 1 ≤ w.sl ∧ w.sl ≤ 8) → 0 ≤ slF ws y ∧ slF ws y ≤ 8
  | [], y, _ => by simp [slF]
  | w :: l, y, h => by
    simp only [slF]
    have := h w (by simp)
    have := slF_b (ws := l) (y := y) fun x hx => h x (by simp [hx])
    split <;> omega
theorem okW_sl {ws : List Wk} (h : okW 0 ws = true) (y : Int) : 0 ≤ slF ws y ∧ slF ws y ≤ 8 := slF_b fun w hw => by have := (okW_all.1 h).2 w hw; omega
theorem slF_nn {ws : List Wk} (h : okW 0 ws = true) : ∀ y, 0 ≤ slF ws y := fun y => (okW_sl h y).1
theorem okC_iff {ws : List Wk} {ps : List Pl} (h : okW 0 ws = true) : okC ws ps = true ↔ ∀ y, cnt ps y ≤ slF ws y := by
  unfold okC
  rw [List.all_eq_true]
  constructor
  · intro g y
    by_cases hy : y ∈ ws.map (·.id) ++ ps.map (·.wk)
    · exact of_decide_eq_true (g y hy)
    · have h1 := slF_nn h y
      have h2 := cnt_nn (ps := ps) (y := y)
      by_cases h3 : 0 < cnt ps y
      · exact absurd (List.mem_append_right _ (cnt_pos h3)) hy
      · omega
  · intro g y _
    exact decide_eq_true (g y)
def sumK (L : List (Int × Int)) : Int := (L.map (·.2)).sum
theorem sum_put {k v : Int} : ∀ {L : List (Int × Int)}, sumK (Z.putK L k v) = sumK L - (Z.lookK L k).getD 0 + v
  | [] => by simp [sumK, Z.putK, Z.lookK]
  | (a, w) :: l => by
    simp only [Z.putK, Z.lookK]
    by_cases h : a = k
    · simp only [if_pos h, sumK, List.map_cons, List.sum_cons, Option.getD_some]; omega
    · have := sum_put (k := k) (v := v) (L := l)
      simp only [if_neg h, sumK, List.map_cons, List.sum_cons] at *; omega
def sumW (ws : List Wk) : Int := (ws.map (·.sl)).sum
/-- What a map tells of the workers so far. -/
def mapW (ws : List Wk) : List (Int × Int) := ws.map fun w => (w.id, w.sl)
theorem look_mapW : ∀ {ws : List Wk} {y : Int}, (Z.lookK (mapW ws) y).getD 0 = slF ws y
  | [], y => rfl
  | w :: l, y => by
    simp only [mapW, List.map_cons, Z.lookK, slF]
    split
    · rfl
    · exact look_mapW (ws := l)
theorem sum_mapW {ws : List Wk} : sumK (mapW ws) = sumW ws := by unfold sumK sumW mapW; rw [List.map_map]; rfl
theorem mapW_snoc {ws : List Wk} {i : Nat} {w : Wk} (hs : wsrt ws) (h : ws[i]? = some w) : Z.putK (mapW (ws.take i)) w.id w.sl = mapW (ws.take (i + 1)) := by
  rw [Z.put_new, take_snoc h]
  · unfold mapW; rw [List.map_append]; rfl
  · rw [Z.look_none]
    simp only [mapW, List.map_map, List.mem_map, Function.comp]
    rintro ⟨x, hx, hxe⟩
    obtain ⟨j, hj⟩ := List.getElem?_of_mem hx
    obtain ⟨hjl, hje⟩ := List.getElem?_eq_some_iff.1 hj
    rw [List.length_take] at hjl
    obtain ⟨hi, hie⟩ := List.getElem?_eq_some_iff.1 h
    have := List.pairwise_iff_getElem.1 hs j i (by omega) hi (by omega)
    rw [List.getElem_take] at hje
    rw [hje, hie] at this
    omega
theorem cnt_snoc {ps : List Pl} {j : Nat} {p : Pl} (h : ps[j]? = some p) {y : Int} : cnt (ps.take (j + 1)) y = cnt (ps.take j) y + if p.wk = y then 1 else 0 := by
  rw [take_snoc h, cnt_app]; simp [cnt]
theorem free_step {ws : List Wk} {ps : List Pl} {j : Nat} {p : Pl} {L : List (Int × Int)} {v : Int} (h : ps[j]? = some p) (hL : ∀ y, (Z.lookK L y).getD 0 = slF ws y - cnt (ps.take j) y) (hv : v = (Z.lookK L p.wk).getD 0 - 1) : ∀ y, (Z.lookK (Z.putK L p.wk v) y).getD 0 = slF ws y - cnt (ps.take (j + 1)) y := fun y => by
  rw [Z.look_put, cnt_snoc h]
  by_cases hy : p.wk = y
  · rw [if_pos hy, if_pos hy, ← hy, hv, hL]; simp; omega
  · rw [if_neg hy, if_neg hy, hL]; omega
theorem free_all {ws : List Wk} {ps : List Pl} {L : List (Int × Int)} (hw : okW 0 ws = true) (hL : ∀ y, (Z.lookK L y).getD 0 = slF ws y - cnt ps y) (h : ∀ z ∈ L, 0 ≤ z.2) : okC ws ps = true := by
  refine (okC_iff hw).2 fun y => ?_
  have := hL y
  cases hl : Z.lookK L y with
  | none => rw [hl] at this; simp at this; omega
  | some v =>
    have hm : (y, v) ∈ L := by
      clear hL this h
      induction L with
      | nil => cases hl
      | cons a l ih =>
        obtain ⟨a1, a2⟩ := a
        simp only [Z.lookK] at hl
        split at hl
        · rename_i e; cases hl; subst e; simp
        · exact List.mem_cons_of_mem _ (ih hl)
    have h9 := h _ hm
    rw [hl] at this; simp at this h9; omega
theorem free_not {ws : List Wk} {ps : List Pl} {L : List (Int × Int)} {z : Int × Int} (hw : okW 0 ws = true) (hn : (L.map (·.1)).Nodup) (hL : ∀ y, (Z.lookK L y).getD 0 = slF ws y - cnt ps y) (hz : z ∈ L) (h : z.2 < 0) : okC ws ps = false := by
  refine Bool.eq_false_iff.2 fun g => ?_
  have h1 := (okC_iff hw).1 g z.1
  have h2 := (Z.look_mem hn).2 (show (z.1, z.2) ∈ L from hz)
  have h3 := hL z.1
  rw [h2] at h3
  simp at h3; omega
theorem sum_perm {r s : List (Int × Int)} (h : r.Perm s) : sumK r = sumK s := by
  unfold sumK
  induction h with
  | nil => rfl
  | cons x _ ih => simp only [List.map_cons, List.sum_cons, ih]
  | swap x y l => simp only [List.map_cons, List.sum_cons]; omega
  | trans _ _ a b => exact a.trans b
theorem check_con (ws : List Wk) (ps : List Pl) (hw : ws.length ≤ 9223372036854775807) (hp : ps.length ≤ 9223372036854775807) : Con Try.prog 23 [.agg [.ro false 2 ((ws).map eW), .ro false 2 ((ps).map eL)]] (fun rx rK rt => rx = .val (.int .i64 (bif okF ws ps then 0 else 210)) ∧ rK = [] ∧ rt = 0) := by
  refine Z.con_ofF tabOk 58 Try.f23 _ Try.func23 (by kernel_rfl) rfl rfl rfl rfl ?_
  repeat' ((conv => whnf); first
    | ((with_reducible apply ex_and); exact rfl))
  all_goals (try (conv => whnf))
  all_goals try (show Nat.ble _ _ = true; rfl)
  refine Z.loopK tabOk (fun zq : Nat × Int => [(13, .val (.int .i64 (zq.1 : Int))), (3, .val (.int .i64 zq.2))]) (fun zq : Nat × Int => ([] : Z.Kr)) (fun zq => zq.1 ≤ ws.length ∧ okW 0 ws = okW zq.2 (ws.drop zq.1)) (fun zq => ws.length - zq.1) (0, 0) 1 [(1, _), (11, _), (12, _)] ⟨rfl, rfl, rfl, trivial⟩ [(0, some _)] ⟨rfl, trivial⟩ ?_ ?_ rfl rfl ⟨Nat.zero_le _, rfl⟩ ?_
  · repeat' (first | exact trivial | apply And.intro | exact ⟨_, rfl, rfl⟩ | exact ⟨_, rfl, Z.Imp.refl _⟩ | exact ⟨_, rfl, Z.Imp.nilg _⟩ | exact ⟨_, rfl, Z.Imp.nilr _ _⟩)
  · repeat' (first | exact trivial | (intro b hb; cases hb; done) | exact (fun b hb => ⟨b, hb, Z.ImpO.refl b⟩) | (intro b hb; cases hb; refine ⟨_, rfl, ⟨rfl, rfl, rfl⟩, ?_⟩; (repeat' (first | exact trivial | apply And.intro | exact Z.Imp.refl _ | exact Z.Imp.nilg _ | exact Z.Imp.nilr _ _)); done) | apply And.intro)
  rintro ⟨i, a⟩ HINV
  dsimp only at HINV ⊢
  obtain ⟨HI, HO⟩ := HINV
  by_cases hi : i < ws.length
  · obtain ⟨w, hx⟩ := getElem?_some' (xs := ws) (i := i) hi
    repeat' ((conv => whnf); first
      | with_reducible first | refine spB_t ?_
      | ((with_reducible apply spB_cong); (focus (simp only [beq_self_eq_true, bne_self_eq_false, Bool.true_bne, Bool.false_bne, Bool.bne_true, Bool.bne_false, Bool.true_beq, Bool.false_beq, Bool.not_true, Bool.not_false, Bool.not_not, Int.reduceBEq, Int.reduceBNe, Int.reduceLE, Int.reduceLT, Int.reduceEq, decide_true, decide_false]; rfl)))
      | with_reducible first | refine spB_yes (by decide) ?_ | refine spB_no (by decide) ?_ | refine spB_f ?_ | refine spB_not ?_ | refine spB_yes (by assumption) ?_ | refine spB_no (by assumption) ?_
      | (with_reducible refine spB_dec ?_ ?_ <;> intro _ <;> (try (exfalso; first | contradiction | omega | (rename_i hz; refine hz ?_; simp; done) | (simp only [LN] at *; omega))))
      | with_reducible first | refine Z.rowN_known hx ?_
      | ((with_reducible apply ixN_litp); (focus (exact rfl)); (focus ((try simp only [LN] at *) <;> omega)))
      | with_reducible refine wr_i64 (by first | omega | (simp only [LN] at *; omega)) ?_
      | with_reducible first | refine apN_mk (by kernel_rfl) ?_ | refine Z.callZ_in tabOk 21 Try.f33 _ Try.func33 (by kernel_rfl) rfl rfl rfl ?_ | refine Z.callZ_in tabOk 36 Try.f47 _ Try.func47 (by kernel_rfl) rfl rfl rfl ?_ | refine Z.callZ_in tabOk 9 Try.f56 _ Try.func56 (by kernel_rfl) rfl rfl rfl ?_
      | ((with_reducible apply ex_and); exact rfl))
    all_goals (try (conv => whnf))
    all_goals try (show Nat.ble _ _ = true; rfl)
    all_goals first
      | ((refine Z.rndK ((i + 1, w.id)) (fun s => [0]) rfl rfl rfl rfl ?_ ?_ ?_ ?_); (focus (repeat' (first | exact trivial | exact Z.map_sub (Z.MapL.ren HM0 fun _ => rfl) rfl | exact Z.it_sub rfl | exact rfl | (rw [List.map_append]; exact rfl) | apply And.intro))); (focus (repeat' (first | exact trivial | exact Z.map_sub (Z.MapL.ren HM0 fun _ => rfl) rfl | exact Z.it_sub rfl | (intro b hb; cases hb; rfl) | (intro b hb; cases hb; subst hlb; rfl) | (intro b hb; cases hb; rw [List.map_append]; rfl) | (intro b hb; cases hb; done) | exact Z.blk_sub rfl rfl (ren_map fun _ => rfl) | exact Z.blk_sub rfl rfl (Z.ren_app (ren_map fun _ => rfl) (ren_map fun _ => rfl)) | exact Z.blk_sub rfl (by first | (rw [List.map_append]; rfl) | (rw [List.map_set]; rfl) | simp only [List.map_append, List.map_cons, List.map_nil, List.map_set]) (ren_map fun _ => rfl) | exact Z.gB_sub rfl rfl (ren_map fun _ => rfl) | exact Z.gB_sub' rfl (by first | rfl | (rw [List.map_append]; rfl) | simp only [List.map_append, List.map_cons, List.map_nil]) (ren_map fun _ => rfl) | apply And.intro))); (focus (refine ⟨by dsimp only; omega, ?_⟩; (try dsimp only); rw [HO, drop_cons hx, okW, decide_eq_true (p := (1 ≤ w.id ∧ w.id ≤ 4) ∧ (1 ≤ w.sl ∧ w.sl ≤ 8) ∧ a < w.id) (by omega), Bool.true_and])); ((try dsimp only); omega))
      | ((first | (with_reducible apply Z.retF1) | (with_reducible apply Z.retF2) | (with_reducible apply Z.retF0)); (focus (exact rfl)); (repeat' (first | exact trivial | (with_reducible apply Z.frz_one) | (with_reducible apply Z.frz_agg) | (with_reducible apply Z.fq_int) | (with_reducible apply Z.fq_bool) | (exact Z.frz_nil) | (exact Z.frz_osl0 rfl rfl rfl) | (with_reducible apply Z.fq_nil) | (with_reducible apply Z.fq_ro) | ((with_reducible apply Z.fq_gsl); (focus (first | rfl | exact Z.isB_map _ | exact Z.gB_snoc.symm)); (focus (exact fun _ => rfl))) | ((with_reducible apply Z.fq_osl); (focus (exact rfl)); (focus (first | exact rfl | (simp only [List.length_map, Nat.zero_add]; done) | ((try simp only [LN] at *) <;> omega))); (focus (exact fun _ => rfl))) | ((with_reducible apply Z.fq_src); (focus (exact rfl)); (focus (first | exact rfl | (simp only [List.length_map, Nat.zero_add]; done) | ((try simp only [LN] at *) <;> omega))); (focus (exact fun _ => rfl))) | exact rfl | ((apply Z.fq_osl); (focus (exact rfl)); (focus (first | exact rfl | (simp only [List.length_map, Nat.zero_add]; done) | ((try simp only [LN] at *) <;> omega))); (focus (exact fun _ => rfl))) | ((apply Z.fq_src); (focus (exact rfl)); (focus (first | exact rfl | (simp only [List.length_map, Nat.zero_add]; done) | ((try simp only [LN] at *) <;> omega))); (focus (exact fun _ => rfl))) | (apply Z.fq_ro) | (apply Z.fq_int) | (apply Z.fq_bool) | apply And.intro)); (all_goals (try exact (fun _ => none))); all_goals ((have hf : okF ws ps = false := by unfold okF; rw [HO, drop_cons hx, okW, decide_eq_false (p := (1 ≤ w.id ∧ w.id ≤ 4) ∧ (1 ≤ w.sl ∧ w.sl ≤ 8) ∧ a < w.id) (by omega)]; rfl); rw [hf]; rfl))
      | (exfalso; rename_i hz; cases hz; done)
      | (exfalso; (try simp only [LN] at *) <;> omega)
      | (fail)
  have hkw : okW 0 ws = true := by rw [HO, drop_end hi]; rfl
  have hwl := okW_len hkw
  have hsw := (okW_all.1 hkw).1
  repeat' ((conv => whnf); first
    | (with_reducible refine spB_dec ?_ ?_ <;> intro _ <;> (try (exfalso; first | contradiction | omega | (rename_i hz; refine hz ?_; simp; done) | (simp only [LN] at *; omega))))
    | ((with_reducible apply ex_and); exact rfl))
  all_goals (try (conv => whnf))
  all_goals try (show Nat.ble _ _ = true; rfl)
  all_goals try (exfalso; (try simp only [LN] at *) <;> omega)
  refine Z.loopK tabOk (fun zq : Nat × Int => [(32, .val (.int .i64 (zq.1 : Int))), (3, .val (.int .i64 zq.2))]) (fun zq : Nat × Int => ([] : Z.Kr)) (fun zq => zq.1 ≤ ps.length ∧ okT (-1) ps = okT zq.2 (ps.drop zq.1)) (fun zq => ps.length - zq.1) (0, -1) 1 [(1, _), (30, _), (31, _)] ⟨rfl, rfl, rfl, trivial⟩ [(0, some _)] ⟨rfl, trivial⟩ ?_ ?_ rfl rfl ⟨Nat.zero_le _, rfl⟩ ?_
  · repeat' (first | exact trivial | apply And.intro | exact ⟨_, rfl, rfl⟩ | exact ⟨_, rfl, Z.Imp.refl _⟩ | exact ⟨_, rfl, Z.Imp.nilg _⟩ | exact ⟨_, rfl, Z.Imp.nilr _ _⟩)
  · repeat' (first | exact trivial | (intro b hb; cases hb; done) | exact (fun b hb => ⟨b, hb, Z.ImpO.refl b⟩) | (intro b hb; cases hb; refine ⟨_, rfl, ⟨rfl, rfl, rfl⟩, ?_⟩; (repeat' (first | exact trivial | apply And.intro | exact Z.Imp.refl _ | exact Z.Imp.nilg _ | exact Z.Imp.nilr _ _)); done) | apply And.intro)
  rintro ⟨i1, a⟩ HINV
  dsimp only at HINV ⊢
  obtain ⟨HI1, HO1⟩ := HINV
  by_cases hi1 : i1 < ps.length
  · obtain ⟨q, hx⟩ := getElem?_some' (xs := ps) (i := i1) hi1
    repeat' ((conv => whnf); first
      | with_reducible first | refine spB_t ?_
      | ((with_reducible apply spB_cong); (focus (simp only [beq_self_eq_true, bne_self_eq_false, Bool.true_bne, Bool.false_bne, Bool.bne_true, Bool.bne_false, Bool.true_beq, Bool.false_beq, Bool.not_true, Bool.not_false, Bool.not_not, Int.reduceBEq, Int.reduceBNe, Int.reduceLE, Int.reduceLT, Int.reduceEq, decide_true, decide_false]; rfl)))
      | with_reducible first | refine spB_yes (by decide) ?_ | refine spB_no (by decide) ?_ | refine spB_f ?_ | refine spB_not ?_ | refine spB_yes (by assumption) ?_ | refine spB_no (by assumption) ?_
      | (with_reducible refine spB_dec ?_ ?_ <;> intro _ <;> (try (exfalso; first | contradiction | omega | (rename_i hz; refine hz ?_; simp; done) | (simp only [LN] at *; omega))))
      | with_reducible first | refine Z.rowN_known hx ?_
      | ((with_reducible apply ixN_litp); (focus (exact rfl)); (focus ((try simp only [LN] at *) <;> omega)))
      | with_reducible refine wr_i64 (by first | omega | (simp only [LN] at *; omega)) ?_
      | with_reducible first | refine apN_mk (by kernel_rfl) ?_ | refine Z.callZ_in tabOk 21 Try.f33 _ Try.func33 (by kernel_rfl) rfl rfl rfl ?_ | refine Z.callZ_in tabOk 36 Try.f47 _ Try.func47 (by kernel_rfl) rfl rfl rfl ?_ | refine Z.callZ_in tabOk 9 Try.f56 _ Try.func56 (by kernel_rfl) rfl rfl rfl ?_
      | ((with_reducible apply ex_and); exact rfl))
    all_goals (try (conv => whnf))
    all_goals try (show Nat.ble _ _ = true; rfl)
    all_goals first
      | ((refine Z.rndK ((i1 + 1, q.task)) (fun s => [0]) rfl rfl rfl rfl ?_ ?_ ?_ ?_); (focus (repeat' (first | exact trivial | exact Z.map_sub (Z.MapL.ren HM0 fun _ => rfl) rfl | exact Z.it_sub rfl | exact rfl | (rw [List.map_append]; exact rfl) | apply And.intro))); (focus (repeat' (first | exact trivial | exact Z.map_sub (Z.MapL.ren HM0 fun _ => rfl) rfl | exact Z.it_sub rfl | (intro b hb; cases hb; rfl) | (intro b hb; cases hb; subst hlb; rfl) | (intro b hb; cases hb; rw [List.map_append]; rfl) | (intro b hb; cases hb; done) | exact Z.blk_sub rfl rfl (ren_map fun _ => rfl) | exact Z.blk_sub rfl rfl (Z.ren_app (ren_map fun _ => rfl) (ren_map fun _ => rfl)) | exact Z.blk_sub rfl (by first | (rw [List.map_append]; rfl) | (rw [List.map_set]; rfl) | simp only [List.map_append, List.map_cons, List.map_nil, List.map_set]) (ren_map fun _ => rfl) | exact Z.gB_sub rfl rfl (ren_map fun _ => rfl) | exact Z.gB_sub' rfl (by first | rfl | (rw [List.map_append]; rfl) | simp only [List.map_append, List.map_cons, List.map_nil]) (ren_map fun _ => rfl) | apply And.intro))); (focus (refine ⟨by dsimp only; omega, ?_⟩; (try dsimp only); rw [HO1, drop_cons hx, okT, decide_eq_true (p := (0 ≤ q.task ∧ q.task < 16) ∧ a < q.task) (by omega), Bool.true_and])); ((try dsimp only); omega))
      | ((first | (with_reducible apply Z.retF1) | (with_reducible apply Z.retF2) | (with_reducible apply Z.retF0)); (focus (exact rfl)); (repeat' (first | exact trivial | (with_reducible apply Z.frz_one) | (with_reducible apply Z.frz_agg) | (with_reducible apply Z.fq_int) | (with_reducible apply Z.fq_bool) | (exact Z.frz_nil) | (exact Z.frz_osl0 rfl rfl rfl) | (with_reducible apply Z.fq_nil) | (with_reducible apply Z.fq_ro) | ((with_reducible apply Z.fq_gsl); (focus (first | rfl | exact Z.isB_map _ | exact Z.gB_snoc.symm)); (focus (exact fun _ => rfl))) | ((with_reducible apply Z.fq_osl); (focus (exact rfl)); (focus (first | exact rfl | (simp only [List.length_map, Nat.zero_add]; done) | ((try simp only [LN] at *) <;> omega))); (focus (exact fun _ => rfl))) | ((with_reducible apply Z.fq_src); (focus (exact rfl)); (focus (first | exact rfl | (simp only [List.length_map, Nat.zero_add]; done) | ((try simp only [LN] at *) <;> omega))); (focus (exact fun _ => rfl))) | exact rfl | ((apply Z.fq_osl); (focus (exact rfl)); (focus (first | exact rfl | (simp only [List.length_map, Nat.zero_add]; done) | ((try simp only [LN] at *) <;> omega))); (focus (exact fun _ => rfl))) | ((apply Z.fq_src); (focus (exact rfl)); (focus (first | exact rfl | (simp only [List.length_map, Nat.zero_add]; done) | ((try simp only [LN] at *) <;> omega))); (focus (exact fun _ => rfl))) | (apply Z.fq_ro) | (apply Z.fq_int) | (apply Z.fq_bool) | apply And.intro)); (all_goals (try exact (fun _ => none))); all_goals ((have hf : okF ws ps = false := by unfold okF; rw [HO1, drop_cons hx, okT, decide_eq_false (p := (0 ≤ q.task ∧ q.task < 16) ∧ a < q.task) (by omega), Bool.false_and, Bool.and_false]; rfl); rw [hf]; rfl))
      | (exfalso; rename_i hz; cases hz; done)
      | (exfalso; (try simp only [LN] at *) <;> omega)
      | (fail)
  have hkp : okT (-1) ps = true := by rw [HO1, drop_end hi1]; rfl
  have hpl := okT_len hkp
  repeat' ((conv => whnf); first
    | (with_reducible refine spB_dec ?_ ?_ <;> intro _ <;> (try (exfalso; first | contradiction | omega | (rename_i hz; refine hz ?_; simp; done) | (simp only [LN] at *; omega))))
    | with_reducible first | refine apN_mk (by kernel_rfl) ?_ | refine Z.callZ_in tabOk 21 Try.f33 _ Try.func33 (by kernel_rfl) rfl rfl rfl ?_ | refine Z.callZ_in tabOk 36 Try.f47 _ Try.func47 (by kernel_rfl) rfl rfl rfl ?_ | refine Z.callZ_in tabOk 9 Try.f56 _ Try.func56 (by kernel_rfl) rfl rfl rfl ?_
    | ((with_reducible apply ex_and); exact rfl))
  all_goals (try (conv => whnf))
  all_goals try (show Nat.ble _ _ = true; rfl)
  all_goals try (exfalso; (try simp only [LN] at *) <;> omega)
  refine Z.loopK tabOk (fun zq : Nat × Y.MS => [(12, .val (.int .i64 (zq.1 : Int)))]) (fun zq : Nat × Y.MS => ([(2, some (Z.Ob.m zq.2))] : Z.Kr)) (fun zq => zq.1 ≤ ws.length ∧ Z.MapL .i64 enI zq.2 (mapW (ws.take zq.1))) (fun zq => ws.length - zq.1) (0, ⟨[], 0⟩) 3 [(1, _), (3, _), (10, _), (11, _)] ⟨rfl, rfl, rfl, rfl, trivial⟩ [(0, some _), (1, some _)] ⟨rfl, rfl, trivial⟩ ?_ ?_ rfl rfl ⟨Nat.zero_le _, Z.MapL.nil⟩ ?_
  · repeat' (first | exact trivial | apply And.intro | exact ⟨_, rfl, rfl⟩ | exact ⟨_, rfl, Z.Imp.refl _⟩ | exact ⟨_, rfl, Z.Imp.nilg _⟩ | exact ⟨_, rfl, Z.Imp.nilr _ _⟩)
  · repeat' (first | exact trivial | (intro b hb; cases hb; done) | exact (fun b hb => ⟨b, hb, Z.ImpO.refl b⟩) | (intro b hb; cases hb; refine ⟨_, rfl, ⟨rfl, rfl, rfl⟩, ?_⟩; (repeat' (first | exact trivial | apply And.intro | exact Z.Imp.refl _ | exact Z.Imp.nilg _ | exact Z.Imp.nilr _ _)); done) | apply And.intro)
  rintro ⟨i2, es⟩ HINV
  dsimp only at HINV ⊢
  obtain ⟨HI2, HM⟩ := HINV
  by_cases hi2 : i2 < ws.length
  · obtain ⟨w, hx⟩ := getElem?_some' (xs := ws) (i := i2) hi2
    repeat' ((conv => whnf); first
      | (with_reducible refine spB_dec ?_ ?_ <;> intro _ <;> (try (exfalso; first | contradiction | omega | (rename_i hz; refine hz ?_; simp; done) | (simp only [LN] at *; omega))))
      | with_reducible first | refine Z.rowN_known hx ?_
      | ((with_reducible refine Z.MapL.upd' HM (v := w.sl) ?_ ?_); (focus rfl); (intro es3 HM))
      | ((with_reducible apply ixN_litp); (focus (exact rfl)); (focus ((try simp only [LN] at *) <;> omega)))
      | with_reducible refine wr_i64 (by first | omega | (simp only [LN] at *; omega)) ?_
      | ((with_reducible apply ex_and); exact rfl))
    all_goals (try (conv => whnf))
    all_goals try (show Nat.ble _ _ = true; rfl)
    all_goals first
      | ((refine Z.rndK ((i2 + 1, es3)) (fun s => [0, 1, 2]) rfl rfl rfl rfl ?_ ?_ ?_ ?_); (focus (repeat' (first | exact trivial | exact Z.map_sub (Z.MapL.ren HM fun _ => rfl) rfl | exact Z.it_sub rfl | exact rfl | (rw [List.map_append]; exact rfl) | apply And.intro))); (focus (repeat' (first | exact trivial | exact Z.map_sub (Z.MapL.ren HM fun _ => rfl) rfl | exact Z.it_sub rfl | (intro b hb; cases hb; rfl) | (intro b hb; cases hb; subst hlb; rfl) | (intro b hb; cases hb; rw [List.map_append]; rfl) | (intro b hb; cases hb; done) | exact Z.blk_sub rfl rfl (ren_map fun _ => rfl) | exact Z.blk_sub rfl rfl (Z.ren_app (ren_map fun _ => rfl) (ren_map fun _ => rfl)) | exact Z.blk_sub rfl (by first | (rw [List.map_append]; rfl) | (rw [List.map_set]; rfl) | simp only [List.map_append, List.map_cons, List.map_nil, List.map_set]) (ren_map fun _ => rfl) | exact Z.gB_sub rfl rfl (ren_map fun _ => rfl) | exact Z.gB_sub' rfl (by first | rfl | (rw [List.map_append]; rfl) | simp only [List.map_append, List.map_cons, List.map_nil]) (ren_map fun _ => rfl) | apply And.intro))); (focus (refine ⟨by dsimp only; omega, ?_⟩; (try dsimp only); rw [← mapW_snoc hsw hx]; exact HM)); ((try dsimp only); omega))
      | (exfalso; rename_i hz; cases hz; done)
      | (exfalso; (try simp only [LN] at *) <;> omega)
      | (fail)
  have hw9 := take_end hi2
  rw [hw9] at HM
  repeat' ((conv => whnf); first
    | (with_reducible refine spB_dec ?_ ?_ <;> intro _ <;> (try (exfalso; first | contradiction | omega | (rename_i hz; refine hz ?_; simp; done) | (simp only [LN] at *; omega))))
    | ((with_reducible apply ex_and); exact rfl))
  all_goals (try (conv => whnf))
  all_goals try (show Nat.ble _ _ = true; rfl)
  all_goals try (exfalso; (try simp only [LN] at *) <;> omega)
  refine Z.loopK tabOk (fun zq : Nat × Y.MS => [(25, .val (.int .i64 (zq.1 : Int)))]) (fun zq : Nat × Y.MS => ([(2, some (Z.Ob.m zq.2))] : Z.Kr)) (fun zq => zq.1 ≤ ps.length ∧ ∃ L, Z.MapL .i64 enI zq.2 L ∧ (∀ y, (Z.lookK L y).getD 0 = slF ws y - cnt (ps.take zq.1) y) ∧ sumK L = sumW ws - (zq.1 : Int)) (fun zq => ps.length - zq.1) (0, es) 3 [(3, _), (23, _), (24, _)] ⟨rfl, rfl, rfl, trivial⟩ [(0, some _), (1, some _)] ⟨rfl, rfl, trivial⟩ ?_ ?_ rfl rfl ⟨Nat.zero_le _, _, HM, fun y => by rw [look_mapW]; simp [cnt], by rw [sum_mapW]; simp⟩ ?_
  · repeat' (first | exact trivial | apply And.intro | exact ⟨_, rfl, rfl⟩ | exact ⟨_, rfl, Z.Imp.refl _⟩ | exact ⟨_, rfl, Z.Imp.nilg _⟩ | exact ⟨_, rfl, Z.Imp.nilr _ _⟩)
  · repeat' (first | exact trivial | (intro b hb; cases hb; done) | exact (fun b hb => ⟨b, hb, Z.ImpO.refl b⟩) | (intro b hb; cases hb; refine ⟨_, rfl, ⟨rfl, rfl, rfl⟩, ?_⟩; (repeat' (first | exact trivial | apply And.intro | exact Z.Imp.refl _ | exact Z.Imp.nilg _ | exact Z.Imp.nilr _ _)); done) | apply And.intro)
  rintro ⟨j2, es⟩ HINV
  dsimp only at HINV ⊢
  obtain ⟨HJ2, L, HM, HL, HS⟩ := HINV
  by_cases hj2 : j2 < ps.length
  · obtain ⟨q, hx⟩ := getElem?_some' (xs := ps) (i := j2) hj2
    have hv1 := HL q.wk
    have hv2 := okW_sl hkw q.wk
    have hv3 := cnt_nn (ps := ps.take j2) (y := q.wk)
    have hv4 : (ps.take j2).length ≤ 16 := by rw [List.length_take]; omega
    have hsp := sum_put (L := L) (k := q.wk) (v := (Z.lookK L q.wk).getD 0 - 1)
    repeat' ((conv => whnf); first
      | (with_reducible refine spB_dec ?_ ?_ <;> intro _ <;> (try (exfalso; first | contradiction | omega | (rename_i hz; refine hz ?_; simp; done) | (simp only [LN] at *; omega))))
      | with_reducible first | refine Z.rowN_known hx ?_
      | ((with_reducible refine Z.MapL.look HM (z0 := (0 : Int)) ?_ ?_); (focus rfl))
      | ((with_reducible refine Z.MapL.upd' HM (v := (Z.lookK L q.wk).getD 0 - 1) ?_ ?_); (focus rfl); (intro es3 HM))
      | ((with_reducible apply ixN_litp); (focus (exact rfl)); (focus ((try simp only [LN] at *) <;> omega)))
      | with_reducible refine wr_i64 (by first | omega | (simp only [LN] at *; omega)) ?_
      | ((with_reducible apply ex_and); exact rfl))
    all_goals (try (conv => whnf))
    all_goals try (show Nat.ble _ _ = true; rfl)
    all_goals first
      | ((refine Z.rndK ((j2 + 1, es3)) (fun s => [0, 1, 2]) rfl rfl rfl rfl ?_ ?_ ?_ ?_); (focus (repeat' (first | exact trivial | exact Z.map_sub (Z.MapL.ren HM fun _ => rfl) rfl | exact Z.it_sub rfl | exact rfl | (rw [List.map_append]; exact rfl) | apply And.intro))); (focus (repeat' (first | exact trivial | exact Z.map_sub (Z.MapL.ren HM fun _ => rfl) rfl | exact Z.it_sub rfl | (intro b hb; cases hb; rfl) | (intro b hb; cases hb; subst hlb; rfl) | (intro b hb; cases hb; rw [List.map_append]; rfl) | (intro b hb; cases hb; done) | exact Z.blk_sub rfl rfl (ren_map fun _ => rfl) | exact Z.blk_sub rfl rfl (Z.ren_app (ren_map fun _ => rfl) (ren_map fun _ => rfl)) | exact Z.blk_sub rfl (by first | (rw [List.map_append]; rfl) | (rw [List.map_set]; rfl) | simp only [List.map_append, List.map_cons, List.map_nil, List.map_set]) (ren_map fun _ => rfl) | exact Z.gB_sub rfl rfl (ren_map fun _ => rfl) | exact Z.gB_sub' rfl (by first | rfl | (rw [List.map_append]; rfl) | simp only [List.map_append, List.map_cons, List.map_nil]) (ren_map fun _ => rfl) | apply And.intro))); (focus (refine ⟨by dsimp only; omega, _, HM, free_step hx HL rfl, ?_⟩; (try dsimp only); omega)); ((try dsimp only); omega))
      | (exfalso; rename_i hz; cases hz; done)
      | (exfalso; (try simp only [LN] at *) <;> omega)
      | (fail)
  have hp9 := take_end hj2
  rw [hp9] at HL
  have hjl : j2 = ps.length := by omega
  subst hjl
  repeat' ((conv => whnf); first
    | (with_reducible refine spB_dec ?_ ?_ <;> intro _ <;> (try (exfalso; first | contradiction | omega | (rename_i hz; refine hz ?_; simp; done) | (simp only [LN] at *; omega))))
    | ((with_reducible apply ex_and); exact rfl))
  all_goals (try (conv => whnf))
  all_goals try (show Nat.ble _ _ = true; rfl)
  all_goals try (exfalso; (try simp only [LN] at *) <;> omega)
  refine Z.loopK tabOk (fun zq : List Nat × List (Int × Int) => []) (fun zq : List Nat × List (Int × Int) => ([(3, some (Z.Ob.i ⟨2, es.c, zq.1, es.c⟩))] : Z.Kr)) (fun zq => Z.LeftL .i64 enI es zq.1 zq.2 ∧ (∀ z ∈ L, z ∈ zq.2 ∨ 0 ≤ z.2) ∧ ∀ z ∈ zq.2, z ∈ L) (fun zq => zq.2.length) ([], L) 4 [(51, _)] ⟨rfl, trivial⟩ [(0, some _), (1, some _), (2, some _)] ⟨rfl, rfl, rfl, trivial⟩ ?_ ?_ rfl rfl ⟨HM.left, fun z hz => .inl hz, fun z hz => hz⟩ ?_
  · repeat' (first | exact trivial | apply And.intro | exact ⟨_, rfl, rfl⟩ | exact ⟨_, rfl, Z.Imp.refl _⟩ | exact ⟨_, rfl, Z.Imp.nilg _⟩ | exact ⟨_, rfl, Z.Imp.nilr _ _⟩)
  · repeat' (first | exact trivial | (intro b hb; cases hb; done) | exact (fun b hb => ⟨b, hb, Z.ImpO.refl b⟩) | (intro b hb; cases hb; refine ⟨_, rfl, ⟨rfl, rfl, rfl⟩, ?_⟩; (repeat' (first | exact trivial | apply And.intro | exact Z.Imp.refl _ | exact Z.Imp.nilg _ | exact Z.Imp.nilr _ _)); done) | apply And.intro)
  rintro ⟨seen, r⟩ HINV
  dsimp only at HINV ⊢
  obtain ⟨HR, HZ, HY⟩ := HINV
  repeat' ((conv => whnf); first
    | with_reducible first | refine spB_t ?_
    | with_reducible first | refine spB_yes (by decide) ?_ | refine spB_no (by decide) ?_ | refine spB_f ?_ | refine spB_not ?_ | refine spB_yes (by assumption) ?_ | refine spB_no (by assumption) ?_
    | (with_reducible refine spB_dec ?_ ?_ <;> intro _ <;> (try (exfalso; first | contradiction | omega | (rename_i hz; refine hz ?_; simp; done) | (simp only [LN] at *; omega))))
    | ((with_reducible refine Z.MapL.next HM ?_ ?_ HR ?_ ?_); (focus rfl); (focus rfl); (focus intro hr0); rotate_left; (focus intro y9 b9 r9 hp9 hl9 hm9))
    | ((with_reducible refine Z.MapL.entry HM hm9 (s := seen) ?_ ?_ ?_); (focus rfl); (focus (exact rfl)))
    | ((with_reducible apply ex_and); exact rfl))
  all_goals (try (conv => whnf))
  all_goals try (show Nat.ble _ _ = true; rfl)
  all_goals first
    | ((refine Z.rndK ((seen ++ [b9], r9)) (fun s => [0, 1, 2, 3]) rfl rfl rfl rfl ?_ ?_ ?_ ?_); (focus (repeat' (first | exact trivial | exact Z.map_sub (Z.MapL.ren HM fun _ => rfl) rfl | exact Z.it_sub rfl | exact rfl | (rw [List.map_append]; exact rfl) | apply And.intro))); (focus (repeat' (first | exact trivial | exact Z.map_sub (Z.MapL.ren HM fun _ => rfl) rfl | exact Z.it_sub rfl | (intro b hb; cases hb; rfl) | (intro b hb; cases hb; subst hlb; rfl) | (intro b hb; cases hb; rw [List.map_append]; rfl) | (intro b hb; cases hb; done) | exact Z.blk_sub rfl rfl (ren_map fun _ => rfl) | exact Z.blk_sub rfl rfl (Z.ren_app (ren_map fun _ => rfl) (ren_map fun _ => rfl)) | exact Z.blk_sub rfl (by first | (rw [List.map_append]; rfl) | (rw [List.map_set]; rfl) | simp only [List.map_append, List.map_cons, List.map_nil, List.map_set]) (ren_map fun _ => rfl) | exact Z.gB_sub rfl rfl (ren_map fun _ => rfl) | exact Z.gB_sub' rfl (by first | rfl | (rw [List.map_append]; rfl) | simp only [List.map_append, List.map_cons, List.map_nil]) (ren_map fun _ => rfl) | apply And.intro))); (focus (refine ⟨hl9, ?_, fun z hz => HY z (hp9.mem_iff.2 (List.mem_cons_of_mem _ hz))⟩; intro z hz; rcases HZ z hz with h1 | h1; (rcases List.mem_cons.1 (hp9.mem_iff.1 h1) with h2 | h2; (right; subst h2; omega); exact .inl h2); exact .inr h1)); (have h8 := hp9.length_eq; simp only [List.length_cons] at h8; (try dsimp only); omega))
    | ((first | (with_reducible apply Z.retF1) | (with_reducible apply Z.retF2) | (with_reducible apply Z.retF0)); (focus (exact rfl)); (repeat' (first | exact trivial | (with_reducible apply Z.frz_one) | (with_reducible apply Z.frz_agg) | (with_reducible apply Z.fq_int) | (with_reducible apply Z.fq_bool) | (exact Z.frz_nil) | (exact Z.frz_osl0 rfl rfl rfl) | (with_reducible apply Z.fq_nil) | (with_reducible apply Z.fq_ro) | ((with_reducible apply Z.fq_gsl); (focus (first | rfl | exact Z.isB_map _ | exact Z.gB_snoc.symm)); (focus (exact fun _ => rfl))) | ((with_reducible apply Z.fq_osl); (focus (exact rfl)); (focus (first | exact rfl | (simp only [List.length_map, Nat.zero_add]; done) | ((try simp only [LN] at *) <;> omega))); (focus (exact fun _ => rfl))) | ((with_reducible apply Z.fq_src); (focus (exact rfl)); (focus (first | exact rfl | (simp only [List.length_map, Nat.zero_add]; done) | ((try simp only [LN] at *) <;> omega))); (focus (exact fun _ => rfl))) | exact rfl | ((apply Z.fq_osl); (focus (exact rfl)); (focus (first | exact rfl | (simp only [List.length_map, Nat.zero_add]; done) | ((try simp only [LN] at *) <;> omega))); (focus (exact fun _ => rfl))) | ((apply Z.fq_src); (focus (exact rfl)); (focus (first | exact rfl | (simp only [List.length_map, Nat.zero_add]; done) | ((try simp only [LN] at *) <;> omega))); (focus (exact fun _ => rfl))) | (apply Z.fq_ro) | (apply Z.fq_int) | (apply Z.fq_bool) | apply And.intro)); (all_goals (try exact (fun _ => none))); all_goals (first | (have hf : okF ws ps = true := by unfold okF; rw [hkw, hkp, free_all hkw HL (fun z hz => (HZ z hz).resolve_left (by rw [hr0]; simp))]; rfl); rw [hf]; rfl | (have hf : okF ws ps = false := by unfold okF; rw [free_not hkw HM.keys HL (z := y9) (HY y9 (hp9.mem_iff.2 (by simp))) (by omega), Bool.and_false]); rw [hf]; rfl))
    | (exfalso; rename_i hz; cases hz; done)
    | (exfalso; (try simp only [LN] at *) <;> omega)
    | (fail)

end Go.Proofs.Ytllnmdmmmkoiaaa
