import Derived.Test.YtllnmdmmmkoiaaaOwn7
import Derived.Test.YtllnmdmmmkoiaaaOwn6
import Derived.Test.YtllnmdmmmkoiaaaLib5
import Derived.Test.YtllnmdmmmkoiaaaRows
namespace Go.Proofs.Ytllnmdmmmkoiaaa
open Go Go.RowKit Wx
set_option linter.unusedVariables false
set_option linter.unusedSimpArgs false
set_option maxHeartbeats 4000000
/-- What Lay tells: the workers, the places, and whether it was refused. -/
def layR (ws : List Wk) (ps : List Pl) (ts : List Int) : List Wk × List Pl × Int :=
  if okF ws ps = true then (if wantT ws ps ts = 0 then (ws, layT ws ps ts, 0) else ([], [], wantT ws ps ts)) else ([], [], 210)
theorem lay_con (ws : List Wk) (ps : List Pl) (ts : List Int) (hw : ws.length ≤ 1000) (hp : ps.length ≤ 1000) (ht : ts.length ≤ 1000) : Con Try.prog 18 [.agg [.ro false 2 (ws.map eW), .ro false 2 (ps.map eL)], .one (.ro false 1 (ts.map eI))] (fun rx rK rt => rx = .tup [.agg [.ro true 2 ((layR ws ps ts).1.map eW), .ro true 2 ((layR ws ps ts).2.1.map eL)], .one (.v (.int .i64 (layR ws ps ts).2.2))] ∧ rK = [] ∧ rt = 0) := by
  by_cases hk : okF ws ps = true
  · by_cases hwt : wantT ws ps ts = 0
    · rw [show layR ws ps ts = (ws, layT ws ps ts, 0) by unfold layR; rw [if_pos hk, if_pos hwt]]
      cases ps with
      | nil => exact con_nil2 (lay_0n ws ts hw ht hk hwt) (fun ad cap => lay_0e ad cap ws ts hw ht hk hwt)
      | cons p l => exact lay_n ws (p :: l) ts hw hp ht hk hwt (by simp)
    · rw [show layR ws ps ts = ([], [], wantT ws ps ts) by unfold layR; rw [if_pos hk, if_neg hwt]]
      exact lay_no ws ps ts hw hp ht hk hwt
  · rw [show layR ws ps ts = ([], [], 210) by unfold layR; rw [if_neg hk]]
    exact lay_bad ws ps ts hw hp ht (by cases h : okF ws ps <;> simp_all)
theorem take_con (ws : List Wk) (ps : List Pl) (ts : List Int) (hw : ws.length ≤ 1000) (hp : ps.length ≤ 1000) (ht : ts.length ≤ 1000) : Con Try.prog 20 [.agg [.ro false 2 (ws.map eW), .ro false 2 (ps.map eL)], .one (.ro false 1 (ts.map eI))] (fun rx rK rt => rx = .tup [.agg [.ro true 2 ((takeT ws ps ts).1.map eW), .ro true 2 ((takeT ws ps ts).2.1.map eL)], .one (.v (.int .i64 (takeT ws ps ts).2.2))] ∧ rK = [] ∧ rt = 0) := by
  cases hk : okF ws ps with
  | false => exact take_bad ws ps ts hw hp ht hk
  | true =>
    cases ps with
    | nil => exact take_0 ws ts hw ht hk
    | cons p l => exact take_n ws (p :: l) ts hw hp ht hk (by simp)
def insL (a c : Int) : List Pl → List Pl
  | [] => [⟨a, c⟩]
  | w :: l => if a < w.task then ⟨a, c⟩ :: w :: l else w :: insL a c l
theorem insL_eq {a c : Int} : ∀ {ws : List Pl}, ws.take (gtT ws a) ++ ⟨a, c⟩ :: ws.drop (gtT ws a) = insL a c ws
  | [] => rfl
  | w :: l => by
    unfold gtT insL
    rw [List.findIdx_cons]
    by_cases h : a < w.task
    · rw [if_pos h, decide_eq_true h]; rfl
    · rw [if_neg h, decide_eq_false h]
      show w :: (List.take (gtT l a) l ++ _ :: List.drop (gtT l a) l) = _
      rw [insL_eq]
theorem ers_fil {id : Int} : ∀ {ws : List Pl}, psrt ws → ws.eraseIdx (idxT ws id) = ws.filter fun w => !decide (w.task = id)
  | [], _ => rfl
  | w :: l, h => by
    have hl := (List.pairwise_cons.1 h).1
    have h1 : psrt l := (List.pairwise_cons.1 h).2
    unfold idxT
    rw [List.findIdx_cons]
    by_cases e : w.task = id
    · rw [decide_eq_true e, List.filter_cons, decide_eq_true e]
      show l = l.filter _
      exact (List.filter_eq_self.2 fun z hz => by have := hl z hz; simp; omega).symm
    · rw [decide_eq_false e, List.filter_cons, decide_eq_false e]
      show w :: l.eraseIdx (idxT l id) = w :: l.filter _
      rw [ers_fil h1]
/-! ### Who has most room -/
theorem room_cons {f : Int → Int} {w : Wk} {l : List Wk} {b : Int} (h : b ≠ 0) : roomF f (w :: l) b = if f w.id > f b then roomF f l w.id else roomF f l b := by
  rw [roomF]
  by_cases e : f w.id > f b
  · rw [if_pos (.inr e), if_pos e]
  · rw [if_neg (by rintro (g | g); exact h g; exact e g), if_neg e]
theorem room_spec {f : Int → Int} : ∀ {l : List Wk} {b : Int}, 0 < b → wsrt l → (∀ w ∈ l, b < w.id) → (roomF f l b = b ∨ ∃ w ∈ l, roomF f l b = w.id) ∧ f b ≤ f (roomF f l b) ∧ (∀ w ∈ l, f w.id ≤ f (roomF f l b)) ∧ (b < roomF f l b → f b < f (roomF f l b)) ∧ (∀ w ∈ l, w.id < roomF f l b → f w.id < f (roomF f l b))
  | [], b, h, _, _ => ⟨.inl rfl, Int.le_refl _, fun w hw => by simp at hw, fun h => by simp [roomF] at h, fun w hw => by simp at hw⟩
  | w :: l, b, hb, hs, hg => by
    have hl := (List.pairwise_cons.1 hs).1
    have hs' : wsrt l := (List.pairwise_cons.1 hs).2
    have hbw := hg w (by simp)
    rw [room_cons (by omega)]
    by_cases e : f w.id > f b
    · rw [if_pos e]
      obtain ⟨h1, h2, h3, h4, h5⟩ := room_spec (f := f) (b := w.id) (by omega) hs' hl
      have hwr : w.id ≤ roomF f l w.id := by
        rcases h1 with h | ⟨z, hz, h⟩
        · omega
        · have := hl z hz; omega
      refine ⟨?_, by omega, fun z hz => ?_, fun _ => by omega, fun z hz hlt => ?_⟩
      · rcases h1 with h | ⟨z, hz, h⟩
        · exact .inr ⟨w, by simp, h⟩
        · exact .inr ⟨z, by simp [hz], h⟩
      · rcases List.mem_cons.1 hz with rfl | hz
        · exact h2
        · exact h3 z hz
      · rcases List.mem_cons.1 hz with rfl | hz
        · exact h4 hlt
        · exact h5 z hz hlt
    · rw [if_neg e]
      obtain ⟨h1, h2, h3, h4, h5⟩ := room_spec (f := f) (b := b) hb hs' (fun z hz => hg z (by simp [hz]))
      refine ⟨?_, h2, fun z hz => ?_, h4, fun z hz hlt => ?_⟩
      · rcases h1 with h | ⟨z, hz, h⟩
        · exact .inl h
        · exact .inr ⟨z, by simp [hz], h⟩
      · rcases List.mem_cons.1 hz with rfl | hz
        · omega
        · exact h3 z hz
      · rcases List.mem_cons.1 hz with rfl | hz
        · have := h4 (by omega); omega
        · exact h5 z hz hlt
theorem room_all {f : Int → Int} {ws : List Wk} (h : okW 0 ws = true) (hne : ws ≠ []) : (∃ w ∈ ws, roomF f ws 0 = w.id) ∧ (∀ w ∈ ws, f w.id ≤ f (roomF f ws 0)) ∧ ∀ w ∈ ws, w.id < roomF f ws 0 → f w.id < f (roomF f ws 0) := by
  obtain ⟨h1, h2⟩ := okW_all.1 h
  cases ws with
  | nil => exact absurd rfl hne
  | cons w l =>
    have hl := (List.pairwise_cons.1 h1).1
    have hs' : wsrt l := (List.pairwise_cons.1 h1).2
    have hw := h2 w (by simp)
    rw [show roomF f (w :: l) 0 = roomF f l w.id by rw [roomF, if_pos (.inl rfl)]]
    obtain ⟨g1, g2, g3, g4, g5⟩ := room_spec (f := f) (b := w.id) (by omega) hs' hl
    refine ⟨?_, fun z hz => ?_, fun z hz hlt => ?_⟩
    · rcases g1 with h | ⟨z, hz, h⟩
      · exact ⟨w, by simp, h⟩
      · exact ⟨z, by simp [hz], h⟩
    · rcases List.mem_cons.1 hz with rfl | hz
      · exact g2
      · exact g3 z hz
    · rcases List.mem_cons.1 hz with rfl | hz
      · exact g4 hlt
      · exact g5 z hz hlt
/-! ### What is kept -/
theorem sum_nil0 : ∀ (ws : List Wk), (ws.map fun w => cnt [] w.id).sum = ((([] : List Pl).length : Nat) : Int)
  | [] => rfl
  | w :: l => by rw [List.map_cons, List.sum_cons, sum_nil0 l]; rfl
theorem sum_left {A : List Pl} : ∀ {ws : List Wk}, wsrt ws → (∀ p ∈ A, ∃ w ∈ ws, w.id = p.wk) → ((ws.map fun w => cnt A w.id).sum = (A.length : Int)) := by
  induction A with
  | nil =>
    intro ws _ _
    exact sum_nil0 ws
  | cons p A ih =>
    intro ws hs hp
    have h1 := ih hs fun q hq => hp q (by simp [hq])
    obtain ⟨w, hw, he⟩ := hp p (by simp)
    have key : ∀ {l : List Wk}, wsrt l → (l.map fun w => cnt (p :: A) w.id).sum = (l.map fun w => cnt A w.id).sum + if (∃ w ∈ l, w.id = p.wk) then 1 else 0 := by
      intro l hl
      induction l with
      | nil => simp
      | cons z l ih2 =>
        have hzl := (List.pairwise_cons.1 hl).1
        have ih3 := ih2 (List.pairwise_cons.1 hl).2
        rw [List.map_cons, List.sum_cons, ih3, List.map_cons, List.sum_cons, show cnt (p :: A) z.id = (if p.wk = z.id then 1 else 0) + cnt A z.id from rfl]
        by_cases e : z.id = p.wk
        · have h2 : ¬ ∃ w ∈ l, w.id = p.wk := fun ⟨v, hv, hve⟩ => by have := hzl v hv; omega
          rw [if_pos e.symm, if_neg h2, if_pos ⟨z, by simp, e⟩]; omega
        · rw [if_neg (fun h => e h.symm)]
          by_cases h2 : ∃ w ∈ l, w.id = p.wk
          · obtain ⟨v, hv, hve⟩ := h2
            rw [if_pos ⟨v, hv, hve⟩, if_pos ⟨v, by simp [hv], hve⟩]; omega
          · rw [if_neg h2, if_neg (by rintro ⟨v, hv, hve⟩; rcases List.mem_cons.1 hv with rfl | hv; exact e hve; exact h2 ⟨v, hv, hve⟩)]
            omega
    rw [key hs, h1, if_pos ⟨w, hw, he⟩]
    simp
theorem sumW_left {ws : List Wk} {A : List Pl} (hk : okF ws A = true) : (ws.map fun w => leftF ws A w.id).sum = sumW ws - (A.length : Int) := by
  obtain ⟨hkw, hkp, hkc⟩ := okF_all hk
  have hs := (okW_all.1 hkw).1
  have hc := (okC_iff hkw).1 hkc
  have h1 : (ws.map fun w => cnt A w.id).sum = (A.length : Int) := sum_left hs fun p hp => by
    have h2 := hc p.wk
    have h3 := cnt_mem hp
    exact slF_ne (by omega)
  rw [← h1]
  have key : ∀ {l : List Wk}, (∀ w ∈ l, slF ws w.id = w.sl) → (l.map fun w => leftF ws A w.id).sum = sumW l - (l.map fun w => cnt A w.id).sum := by
    intro l hl
    induction l with
    | nil => rfl
    | cons z l ih =>
      have h4 := ih fun w hw => hl w (by simp [hw])
      simp only [sumW, List.map_cons, List.sum_cons] at h4 ⊢
      rw [h4]
      unfold leftF
      rw [hl z (by simp)]; omega
  exact key fun w hw => slF_of hs hw
theorem sum_pos {l : List Int} (h : 0 < l.sum) : ∃ x ∈ l, 0 < x := by
  refine Classical.byContradiction fun g => ?_
  have : l.sum ≤ 0 := by
    clear h
    induction l with
    | nil => simp
    | cons x l ih =>
      have h1 : ¬ 0 < x := fun e => g ⟨x, by simp, e⟩
      have h2 := ih fun ⟨y, hy, e⟩ => g ⟨y, by simp [hy], e⟩
      simp only [List.sum_cons]; omega
  omega
theorem room_there {ws : List Wk} {A : List Pl} (hk : okF ws A = true) (h : 0 < sumW ws - (A.length : Int)) : ∃ w ∈ ws, 0 < leftF ws A w.id := by
  rw [← sumW_left hk] at h
  obtain ⟨x, hx, hp⟩ := sum_pos h
  obtain ⟨w, hw, rfl⟩ := List.mem_map.1 hx
  exact ⟨w, hw, hp⟩
theorem room_pos {ws : List Wk} {A : List Pl} (hk : okF ws A = true) (h : 0 < sumW ws - (A.length : Int)) : 0 < leftF ws A (roomF (leftF ws A) ws 0) ∧ ∃ w ∈ ws, roomF (leftF ws A) ws 0 = w.id := by
  obtain ⟨w, hw, hp⟩ := room_there hk h
  obtain ⟨h1, h2, _⟩ := room_all (f := leftF ws A) (okF_all hk).1 (fun e => by subst e; simp at hw)
  have := h2 w hw
  exact ⟨by omega, h1⟩
theorem insL_mem {a c : Int} {q : Pl} : ∀ {A : List Pl}, q ∈ insL a c A ↔ q = ⟨a, c⟩ ∨ q ∈ A
  | [] => by simp [insL]
  | p :: l => by
    unfold insL
    split
    · simp
    · simp only [List.mem_cons, insL_mem (A := l)]
      constructor
      · rintro (h | h | h)
        · exact .inr (.inl h)
        · exact .inl h
        · exact .inr (.inr h)
      · rintro (h | h | h)
        · exact .inr (.inl h)
        · exact .inl h
        · exact .inr (.inr h)
theorem insT_L {A : List Pl} {p : Pl} : insT A p = insL p.task p.wk A := by unfold insT; rw [← insL_eq]
theorem insT_mem {A : List Pl} {p q : Pl} : q ∈ insT A p ↔ q = p ∨ q ∈ A := by rw [insT_L, insL_mem]
theorem insL_srt {a c : Int} : ∀ {A : List Pl}, psrt A → (∀ p ∈ A, p.task ≠ a) → psrt (insL a c A)
  | [], _, _ => by simp [insL, psrt]
  | p :: l, hs, hn => by
    have hl := (List.pairwise_cons.1 hs).1
    have hs' : psrt l := (List.pairwise_cons.1 hs).2
    have hp := hn p (by simp)
    unfold insL
    split
    · rename_i h
      refine List.pairwise_cons.2 ⟨fun q hq => ?_, hs⟩
      rcases List.mem_cons.1 hq with rfl | hq
      · exact h
      · have := hl q hq; dsimp only; omega
    · rename_i h
      refine List.pairwise_cons.2 ⟨fun q hq => ?_, insL_srt hs' fun q hq => hn q (by simp [hq])⟩
      rcases insL_mem.1 hq with rfl | hq
      · dsimp only; omega
      · exact hl q hq
theorem idxT_yes {A : List Pl} {t : Int} : idxT A t < A.length ↔ ∃ p ∈ A, p.task = t := by
  unfold idxT
  rw [List.findIdx_lt_length]
  simp
theorem want_0 {ws : List Wk} {A : List Pl} {l : List Int} : wantT ws A l = 0 ↔ okTs l = true ∧ freshT A l = true ∧ (l.length : Int) ≤ sumW ws - (A.length : Int) := by
  unfold wantT
  cases okTs l <;> cases freshT A l <;> simp
theorem fresh_iff {A : List Pl} {l : List Int} : freshT A l = true ↔ l.Nodup ∧ ∀ t ∈ l, ∀ p ∈ A, p.task ≠ t := by
  unfold freshT
  rw [Bool.and_eq_true, decide_eq_true_eq, List.all_eq_true]
  refine and_congr_right fun _ => ⟨fun h t ht p hp e => ?_, fun h t ht => decide_eq_true ?_⟩
  · exact of_decide_eq_true (h t ht) (idxT_yes.2 ⟨p, hp, e⟩)
  · intro g; obtain ⟨p, hp, e⟩ := idxT_yes.1 g; exact h t ht p hp e
/-- A task laid: the floor may be, and the rest is wanted as before. -/
theorem lay_keep {ws : List Wk} {A : List Pl} {t : Int} {l : List Int} (hk : okF ws A = true) (hw : wantT ws A (t :: l) = 0) : okF ws (insT A ⟨t, roomF (leftF ws A) ws 0⟩) = true ∧ wantT ws (insT A ⟨t, roomF (leftF ws A) ws 0⟩) l = 0 := by
  obtain ⟨h1, h2, h3⟩ := want_0.1 hw
  obtain ⟨h4, h5⟩ := fresh_iff.1 h2
  obtain ⟨hkw, hkp, hkc⟩ := okF_all hk
  have hr := room_pos hk (by simp only [List.length_cons] at h3; omega)
  have ht := of_decide_eq_true (List.all_eq_true.1 h1 t (by simp))
  have hA := okT_all.1 hkp
  have hn : ∀ p ∈ A, p.task ≠ t := h5 t (by simp)
  generalize roomF (leftF ws A) ws 0 = b at *
  refine ⟨?_, want_0.2 ⟨?_, ?_, ?_⟩⟩
  · unfold okF
    rw [hkw, show okT (-1) (insT A ⟨t, b⟩) = true from okT_all.2 ⟨by rw [insT_L]; exact insL_srt hA.1 hn, fun p hp => ?_⟩, (okC_iff hkw).2 fun y => ?_]
    · rfl
    · rw [cnt_ins]
      have h6 := (okC_iff hkw).1 hkc y
      dsimp only
      by_cases e : b = y
      · subst e; rw [if_pos rfl]; have := hr.1; unfold leftF at this; omega
      · rw [if_neg e]; omega
    · rcases insT_mem.1 hp with rfl | hp
      · dsimp only; omega
      · exact hA.2 p hp
  · unfold okTs at h1 ⊢; rw [List.all_cons, Bool.and_eq_true] at h1; exact h1.2
  · refine fresh_iff.2 ⟨(List.nodup_cons.1 h4).2, fun s hs p hp e => ?_⟩
    rcases insT_mem.1 hp with rfl | hp
    · dsimp only at e; subst e; exact (List.nodup_cons.1 h4).1 hs
    · exact h5 s (by simp [hs]) p hp e
  · rw [insT_len]; simp only [List.length_cons] at h3; omega
theorem layT_len {ws : List Wk} : ∀ {l : List Int} {A : List Pl}, (layT ws A l).length = A.length + l.length
  | [], A => by simp [layT]
  | t :: l, A => by rw [layT, layT_len, insT_len, List.length_cons]; omega
/-! ### What is taken -/
theorem srt_filter {A : List Pl} {p : Pl → Bool} (h : psrt A) : psrt (A.filter p) := List.Pairwise.filter p h
theorem takT_doc : ∀ {l : List Int} {A : List Pl}, psrt A → takT A l = if l.Nodup ∧ ∀ t ∈ l, ∃ p ∈ A, p.task = t then some (A.filter fun p => !decide (p.task ∈ l)) else none
  | [], A, h => by
    rw [takT, if_pos ⟨List.nodup_nil, fun t ht => by simp at ht⟩]; exact congrArg some (List.filter_eq_self.2 fun p hp => by simp).symm
  | t :: l, A, h => by
    rw [takT]
    by_cases ht : idxT A t < A.length
    · obtain ⟨p, hp, hpt⟩ := idxT_yes.1 ht
      rw [if_pos ht, ers_fil h, takT_doc (srt_filter h)]
      by_cases hc : (t :: l).Nodup ∧ ∀ s ∈ t :: l, ∃ p ∈ A, p.task = s
      · obtain ⟨h1, h2⟩ := hc
        have h3 := List.nodup_cons.1 h1
        rw [if_pos (show l.Nodup ∧ ∀ s ∈ l, ∃ p ∈ A.filter (fun w => !decide (w.task = t)), p.task = s from ⟨h3.2, fun s hs => ?_⟩), if_pos ⟨h1, h2⟩]
        · rw [List.filter_filter]
          congr 1
          refine List.filter_congr fun q _ => ?_
          by_cases e : q.task = t <;> simp [e]
        · obtain ⟨q, hq, hqe⟩ := h2 s (by simp [hs])
          refine ⟨q, List.mem_filter.2 ⟨hq, ?_⟩, hqe⟩
          have : q.task ≠ t := fun e => h3.1 (by rw [← e, hqe]; exact hs)
          simp [this]
      · rw [if_neg hc, if_neg]
        rintro ⟨h1, h2⟩
        refine hc ⟨List.nodup_cons.2 ⟨fun hm => ?_, h1⟩, fun s hs => ?_⟩
        · obtain ⟨q, hq, hqe⟩ := h2 t hm
          have := (List.mem_filter.1 hq).2
          simp [hqe] at this
        · rcases List.mem_cons.1 hs with rfl | hs
          · exact ⟨p, hp, hpt⟩
          · obtain ⟨q, hq, hqe⟩ := h2 s hs
            exact ⟨q, (List.mem_filter.1 hq).1, hqe⟩
    · rw [if_neg ht, if_neg]
      rintro ⟨_, h2⟩
      exact ht (idxT_yes.2 (h2 t (by simp)))
end Go.Proofs.Ytllnmdmmmkoiaaa
namespace Go.Proofs.Ytllnmdmmmkoiaaa
open Go Go.RowKit Wx
set_option linter.unusedVariables false
set_option linter.unusedSimpArgs false
set_option maxHeartbeats 4000000
theorem clonew_fr2_nil   : Con Try.prog 59 [.one (.v (.slice none 0 0))] (fun rx rK rt => rx = .c (.ro true 2 (([] : List Wk).map eW)) ∧ rK = [] ∧ rt = 0) := by
  refine Z.con_ofF tabOk 8 Try.f59 _ Try.func59 (by kernel_rfl) rfl rfl rfl rfl ?_
  repeat' ((conv => whnf); first
    | with_reducible first | refine spB_t ?_)
  all_goals (try (conv => whnf))
  all_goals first
    | ((first | (with_reducible apply Z.retF1)); (focus (exact rfl)); (repeat' (first | exact trivial | (with_reducible apply Z.frz_one) | (exact Z.frz_nil) | apply And.intro)); (all_goals (try exact (fun _ => none))); all_goals (rfl))

theorem clonew_fr2_emp (ad : Addr) (cap : Nat)  : Con Try.prog 59 [.one (.v (.slice (some ad) 0 cap))] (fun rx rK rt => rx = .c (.ro true 2 (([] : List Wk).map eW)) ∧ rK = [] ∧ rt = 0) := by
  refine Z.con_ofF tabOk 8 Try.f59 _ Try.func59 (by kernel_rfl) rfl rfl rfl rfl ?_
  repeat' ((conv => whnf); first
    | with_reducible first | refine spB_no (by decide) ?_
    | ((with_reducible refine apdE_r ?_); (with_reducible refine aprN.mk ⟨_, rfl, ?_⟩ ?_ ?_ ?_ ?_); (focus ((try simp only [LN] at *) <;> omega)); (focus (first | rfl)); (focus (first | exact one_all (by rfl))); (focus ((try simp only [LN] at *) <;> omega))))
  all_goals (try (conv => whnf))
  all_goals first
    | ((first | (with_reducible apply Z.retF1)); (focus (exact rfl)); (repeat' (first | exact trivial | (with_reducible apply Z.frz_one) | (exact Z.frz_osl0 rfl rfl rfl) | apply And.intro)); (all_goals (try exact (fun _ => none))); all_goals (rfl))

theorem clonew_fr2_ne (x : Wk) (l : List Wk) (hl : l.length ≤ 1000) : Con Try.prog 59 [.one (.ro false 2 ((x :: l).map eW))] (fun rx rK rt => rx = .c (.ro true 2 ((x :: l).map eW)) ∧ rK = [] ∧ rt = 0) := by
  refine Z.con_ofF tabOk 8 Try.f59 _ Try.func59 (by kernel_rfl) rfl rfl rfl rfl ?_
  repeat' ((conv => whnf); first
    | with_reducible first | refine spB_no (by decide) ?_
    | ((with_reducible refine apdE_k ?_); (with_reducible refine apkN.mk ⟨_, rfl, ?_⟩ ?_); (focus ((try simp only [LN] at *) <;> omega)))
    | ((with_reducible refine apdN.mk ?_ ?_ ?_ ?_ ?_ ?_); (focus (first | (simp; done))); (focus (first | exact one_map2 (fun _ => rfl))); (focus ((try simp only [LN] at *) <;> omega)); (focus ((try simp only [LN] at *) <;> omega)); (focus ((try simp only [LN] at *) <;> omega))))
  all_goals (try (conv => whnf))
  all_goals first
    | ((first | (with_reducible apply Z.retF1)); (focus (exact rfl)); (repeat' (first | exact trivial | (with_reducible apply Z.frz_one) | ((with_reducible apply Z.fq_src); (focus (exact rfl)); (focus (first | (simp only [List.length_map, Nat.zero_add]; done))); (focus (exact fun _ => rfl))) | exact rfl | apply And.intro)); (all_goals (try exact (fun _ => none))); all_goals (rfl))

theorem clonew_fr2 (l : List Wk) (hl : l.length ≤ 1000) : Con Try.prog 59 [.one (.ro false 2 (l.map eW))] (fun rx rK rt => rx = .c (.ro true 2 (l.map eW)) ∧ rK = [] ∧ rt = 0) := by
  cases l with
  | nil => exact Z.con_nilcases (fun _ => clonew_fr2_nil) (fun _ ad cap => clonew_fr2_emp ad cap) (fun r rs h => by cases h)
  | cons x l => exact clonew_fr2_ne x l (by simp only [List.length_cons] at hl; omega)
theorem go_bad (ws : List Wk) (ps : List Pl) (id : Int) (hw : ws.length ≤ 1000) (hp : ps.length ≤ 1000) (hk : okF ws ps = false) : Con Try.prog 14 [.agg [.ro false 2 ((ws).map eW), .ro false 2 ((ps).map eL)], .one (.v (.int .i64 id))] (fun rx rK rt => rx = .tup [.agg [.ro true 2 ((([] : List Wk)).map eW), .ro true 2 ((([] : List Pl)).map eL)], .one (.ro true 1 (([] : List Int).map eI)), .one (.v (.int .i64 210))] ∧ rK = [] ∧ rt = 0) := by
  refine Z.con_ofF tabOk 23 Try.f14 _ Try.func14 (by kernel_rfl) rfl rfl rfl rfl ?_
  have ck := check_con ws ps (by omega) (by omega)
  rw [hk] at ck
  simp only [cond_false] at ck
  repeat' ((conv => whnf); first
    | with_reducible first | refine spB_t ?_
    | ((with_reducible apply spB_cong); (focus (simp only [beq_self_eq_true, bne_self_eq_false, Bool.true_bne, Bool.false_bne, Bool.bne_true, Bool.bne_false, Bool.true_beq, Bool.false_beq, Bool.not_true, Bool.not_false, Bool.not_not, Int.reduceBEq, Int.reduceBNe, Int.reduceLE, Int.reduceLT, Int.reduceEq, decide_true, decide_false]; rfl)))
    | with_reducible first | refine Z.callZ_in tabOk 29 Try.f31 _ Try.func31 (by kernel_rfl) rfl rfl rfl ?_
    | ((first | (with_reducible refine Z.callZ_mk ?_ (ck) ?_)); (focus ((repeat' (first | exact trivial | exact rfl | apply And.intro)); done)))
    | ((with_reducible apply ex_and); exact rfl))
  all_goals (try (conv => whnf))
  all_goals try (show Nat.ble _ _ = true; rfl)
  all_goals first
    | ((first | (with_reducible apply Z.retF2)); (focus (exact rfl)); (repeat' (first | exact trivial | (with_reducible apply Z.frz_one) | (with_reducible apply Z.frz_agg) | (exact Z.frz_nil) | exact rfl | apply And.intro)); (all_goals (try exact (fun _ => none))); all_goals (first | (simp; done)))

theorem go_none (ws : List Wk) (ps : List Pl) (id : Int) (hw : ws.length ≤ 1000) (hp : ps.length ≤ 1000) (hk : okF ws ps = true) (hno : ¬ idxW ws id < ws.length) : Con Try.prog 14 [.agg [.ro false 2 ((ws).map eW), .ro false 2 ((ps).map eL)], .one (.v (.int .i64 id))] (fun rx rK rt => rx = .tup [.agg [.ro true 2 ((([] : List Wk)).map eW), .ro true 2 ((([] : List Pl)).map eL)], .one (.ro true 1 (([] : List Int).map eI)), .one (.v (.int .i64 4))] ∧ rK = [] ∧ rt = 0) := by
  refine Z.con_ofF tabOk 23 Try.f14 _ Try.func14 (by kernel_rfl) rfl rfl rfl rfl ?_
  have ck := check_con ws ps (by omega) (by omega)
  rw [hk] at ck
  simp only [cond_true] at ck
  have cw := clonew_fr2 ws hw
  have cp := clonep_con ps hp
  have ca := workerAt_con ws ps id (by omega) (by omega)
  rw [decide_eq_false hno] at ca
  repeat' ((conv => whnf); first
    | with_reducible first | refine spB_t ?_
    | ((with_reducible apply spB_cong); (focus (simp only [beq_self_eq_true, bne_self_eq_false, Bool.true_bne, Bool.false_bne, Bool.bne_true, Bool.bne_false, Bool.true_beq, Bool.false_beq, Bool.not_true, Bool.not_false, Bool.not_not, Int.reduceBEq, Int.reduceBNe, Int.reduceLE, Int.reduceLT, Int.reduceEq, decide_true, decide_false]; rfl)))
    | with_reducible first | refine spB_no (by decide) ?_
    | with_reducible first | refine Z.callZ_in tabOk 35 Try.f40 _ Try.func40 (by kernel_rfl) rfl rfl rfl ?_ | refine Z.callZ_in tabOk 29 Try.f31 _ Try.func31 (by kernel_rfl) rfl rfl rfl ?_
    | ((first | (with_reducible refine Z.callZ_mk ?_ (ca) ?_) | (with_reducible refine Z.callZ_mk ?_ (ck) ?_) | (with_reducible refine Z.conZ_mz ?_ (cw) ?_) | (with_reducible refine Z.conZ_mz ?_ (cp) ?_)); (focus ((repeat' (first | exact trivial | exact rfl | apply And.intro)); done)))
    | ((with_reducible apply ex_and); exact rfl)
    | with_reducible first | refine Z.drawZ_rule tabOk mixOk ?_ | refine Z.apZ_mk (by kernel_rfl) ?_)
  all_goals (try (conv => whnf))
  all_goals try (show Nat.ble _ _ = true; rfl)
  all_goals first
    | ((first | (with_reducible apply Z.retF2)); (focus (exact rfl)); (repeat' (first | exact trivial | (with_reducible apply Z.frz_one) | (with_reducible apply Z.frz_agg) | (with_reducible apply Z.fq_int) | (exact Z.frz_nil) | exact rfl | apply And.intro)); (all_goals (try exact (fun _ => none))); all_goals (first | (simp; done)))

end Go.Proofs.Ytllnmdmmmkoiaaa
namespace Go.Proofs.Ytllnmdmmmkoiaaa
open Go Go.RowKit Wx
set_option linter.unusedVariables false
set_option linter.unusedSimpArgs false
set_option maxHeartbeats 4000000
theorem go_p1 (ws : List Wk) (ps : List Pl) (id : Int) (i : Nat) (hw : ws.length ≤ 1000) (hp : ps.length ≤ 1000) (hk : okF ws ps = true) (hi : idxW ws id = i) (hil : i < ws.length) (hi1 : i + 1 < ws.length) (hex : ¬ keepP id ps = ps) : Con Try.prog 14 [.agg [.ro false 2 ((ws).map eW), .ro false 2 ((ps).map eL)], .one (.v (.int .i64 id))] (fun rx rK rt => rx = .tup [.agg [.ro true 2 (((ws.eraseIdx i)).map eW), .ro true 2 (((keepP id ps)).map eL)], .one (.ro true 1 ((atL ps id).map eI)), .one (.v (.int .i64 0))] ∧ rK = [] ∧ rt = 0) := by
  refine Z.con_ofF tabOk 23 Try.f14 _ Try.func14 (by kernel_rfl) rfl rfl rfl rfl ?_
  have ck := check_con ws ps (by omega) (by omega)
  rw [hk] at ck
  simp only [cond_true] at ck
  have ca := workerAt_con ws ps id (by omega) (by omega)
  rw [decide_eq_true (by omega), hi] at ca
  have hne : ws ≠ [] := fun e => by subst e; simp at hil
  have hpe : ps ≠ [] := fun e => by subst e; exact hex rfl
  have cw := clonew_con ws hw hne
  have cp := cloneq_con ps hp hpe
  repeat' ((conv => whnf); first
    | ((with_reducible apply spB_cong); (focus (simp only [beq_self_eq_true, bne_self_eq_false, Bool.true_bne, Bool.false_bne, Bool.bne_true, Bool.bne_false, Bool.true_beq, Bool.false_beq, Bool.not_true, Bool.not_false, Bool.not_not, Int.reduceBEq, Int.reduceBNe, Int.reduceLE, Int.reduceLT, Int.reduceEq, decide_true, decide_false]; rfl)))
    | with_reducible first | refine spB_no (by decide) ?_
    | (with_reducible refine spB_beq ?_ ?_ <;> intro _ <;> (try (exfalso; first | contradiction | omega | (rename_i hz; refine hz ?_; simp; done) | (rename_i hz; simp at hz; done) | (simp only [LN] at *; omega))))
    | ((apply Z.callZ_capn (n := ws.length)); intro capv hcapv)
    | ((apply Z.callZ_capn (n := ps.length)); intro capp hcapp)
    | ((with_reducible refine slN_hi (i) ?_ ?_ ?_); (focus rfl); (focus ((try simp only [LN] at *) <;> omega)))
    | ((with_reducible refine Z.slN_lo (i + 1) ?_ ?_ ?_); (focus rfl); (focus ((try simp only [LN] at *) <;> omega)))
    | ((with_reducible refine Z.slN_lhc (ws.length - 1) ws.length ?_ ?_ ?_ ?_ ?_); (iterate 3 (focus ((try simp only [LN] at *) <;> omega))); (focus (exact ⟨_, rfl, by (try simp only [LN] at *) <;> omega⟩)))
    | ((with_reducible refine apdE_r ?_); (with_reducible refine aprN.mk ⟨_, rfl, ?_⟩ ?_ ?_ ?_ ?_); (focus ((try simp only [LN] at *) <;> omega)); (focus (exact g_len (f := cW) (ren_map fun _ => rfl) (by (try simp only [LN] at *) <;> omega))); (focus (exact g_one cW_one (ren_map fun _ => rfl))); (focus (exact g_le (f := cW) (ren_map fun _ => rfl) (by (try simp only [LN] at *) <;> omega))))
    | ((with_reducible refine clrN_mk ?_ ?_ ?_); (focus (exact g_clr (f := cW) (ren_map fun _ => rfl) (by first | (rw [g_len (f := cW) (l := ws) (ren_map fun _ => rfl) (by (try simp only [LN] at *) <;> omega)]; omega) | (simp; omega)) (by (try simp only [LN] at *) <;> omega))); (focus rfl))
    | ((with_reducible refine slE_a ?_ ?_); (focus ((try simp only [LN] at *) <;> omega)))
    | ((with_reducible apply sl3N_mk); (focus (exact rfl)); (focus (exact rfl)); (focus (exact rfl)); (focus ((try simp only [LN] at *) <;> omega)); (focus ((try simp only [LN] at *) <;> omega)); (focus ((try simp only [LN] at *) <;> omega)); (focus ((try simp only [LN] at *) <;> omega)))
    | with_reducible refine wr_i64 (by first | omega | (simp only [LN] at *; omega)) ?_
    | with_reducible first | refine Z.callZ_in tabOk 35 Try.f40 _ Try.func40 (by kernel_rfl) rfl rfl rfl ?_ | refine Z.callZ_in tabOk 33 Try.f41 _ Try.func41 (by kernel_rfl) rfl rfl rfl ?_ | refine Z.callZ_in tabOk 42 Try.f42 _ Try.func42 (by kernel_rfl) rfl rfl rfl ?_ | refine Z.callZ_in tabOk 19 Try.f64 _ Try.func64 (by kernel_rfl) rfl rfl rfl ?_ | refine Z.callZ_in tabOk 29 Try.f31 _ Try.func31 (by kernel_rfl) rfl rfl rfl ?_
    | ((first | (with_reducible refine Z.callZ_mk ?_ (ca) ?_) | (with_reducible refine Z.callZ_mk ?_ (ck) ?_) | (with_reducible refine Z.conZ_mz ?_ (cw) ?_) | (with_reducible refine Z.conZ_mz ?_ (cp) ?_)); (focus ((repeat' (first | exact trivial | exact rfl | apply And.intro)); done)))
    | ((with_reducible apply ex_and); exact rfl)
    | with_reducible first | refine Z.drawZ_rule tabOk mixOk ?_ | refine Z.apZ_mk (by kernel_rfl) ?_)
  all_goals (try (conv => whnf))
  all_goals try (show Nat.ble _ _ = true; rfl)
  refine Z.loopK tabOk (fun zq : Nat => [(8, .val (.int .i64 (zq : Int)))]) (fun zq : Nat => ([(5, some (Z.Ob.b ⟨(ws.eraseIdx i ++ [(⟨0, 0⟩ : Wk)]).map cW, 2, 27, false⟩)), (6, some (Z.Ob.b ⟨ps.map cL, 2, 66, false⟩))] : Z.Kr)) (fun zq => zq ≤ ps.length ∧ keepP id (ps.take zq) = ps.take zq) (fun zq => ps.length - zq) 0 8 [(0, _), (1, _), (7, _)] ⟨rfl, rfl, rfl, trivial⟩ [(0, some _), (1, some _), (2, some _), (3, some _), (4, some _), (7, some _)] ⟨rfl, rfl, rfl, rfl, rfl, rfl, trivial⟩ ?_ ?_ rfl rfl ⟨Nat.zero_le _, rfl⟩ ?_
  · repeat' (first | exact trivial | apply And.intro | exact ⟨_, rfl, Z.Imp.refl _⟩)
  · repeat' (first | exact trivial | (intro b hb; cases hb; refine ⟨_, rfl, ⟨rfl, rfl, rfl⟩, Z.imp_eq ?_⟩; first | rfl | exact ren_map (fun _ => rfl) | exact (ren_map (fun _ => rfl)).symm | exact del_full (f := cW) (ren_map (fun _ => rfl)) hil rfl (by rw [show ws.length - (ws.length - 1) = 1 by omega]; rfl) | exact (del_full (f := cW) (ren_map (fun _ => rfl)) hil rfl (by rw [show ws.length - (ws.length - 1) = 1 by omega]; rfl)).symm; done) | apply And.intro)
  rintro h HINV
  dsimp only at HINV ⊢
  obtain ⟨HH, HK⟩ := HINV
  have hh : h < ps.length := by
    rcases Nat.lt_or_ge h ps.length with h9 | h9
    · exact h9
    · rw [List.take_of_length_le h9] at HK; exact absurd HK hex
  obtain ⟨x, hx⟩ := getElem?_some' (xs := ps) (i := h) hh
  by_cases hd : x.wk = id
  rotate_left
  · skip
    repeat' ((conv => whnf); first
      | (with_reducible refine spB_dec ?_ ?_ <;> intro _ <;> (try (exfalso; first | contradiction | omega | (rename_i hz; refine hz ?_; simp; done) | (rename_i hz; simp at hz; done) | (simp only [LN] at *; omega))))
      | (with_reducible refine spB_beq ?_ ?_ <;> intro _ <;> (try (exfalso; first | contradiction | omega | (rename_i hz; refine hz ?_; simp; done) | (rename_i hz; simp at hz; done) | (simp only [LN] at *; omega))))
      | ((with_reducible refine rowN_mk (cL x) ?_ ?_); (focus (show (List.map cL ps)[0 + h]? = some (cL x); rw [Nat.zero_add, List.getElem?_map, hx]; rfl)))
      | ((with_reducible apply ixN_litp); (focus (exact rfl)); (focus ((try simp only [LN] at *) <;> omega)))
      | with_reducible refine wr_i64 (by first | omega | (simp only [LN] at *; omega)) ?_
      | with_reducible first | refine Z.callZ_in tabOk 8 Try.f43 _ Try.func43 (by kernel_rfl) rfl rfl rfl ?_
      | ((with_reducible apply ex_and); exact rfl))
    all_goals (try (conv => whnf))
    all_goals try (show Nat.ble _ _ = true; rfl)
    all_goals first
      | ((refine Z.rndK ((h + 1)) (fun s => [0, 1, 2, 3, 4, 5, 6, 7]) rfl rfl rfl rfl ?_ ?_ ?_ ?_); (focus (repeat' (first | exact trivial | exact rfl | apply And.intro))); (focus (repeat' (first | exact trivial | (intro b hb; cases hb; rfl) | exact Z.blk_sub rfl rfl (ren_map fun _ => rfl) | apply And.intro))); (focus (refine ⟨by (try dsimp only); omega, ?_⟩; (try dsimp only); rw [keepP_yes hx hd, HK, ← take_snoc hx])); ((try dsimp only); omega))
  have hkh : ps.take h = keepP id (ps.take (h + 1)) := by rw [keepP_no hx hd, HK]
  repeat' ((conv => whnf); first
    | (with_reducible refine spB_dec ?_ ?_ <;> intro _ <;> (try (exfalso; first | contradiction | omega | (rename_i hz; refine hz ?_; simp; done) | (rename_i hz; simp at hz; done) | (simp only [LN] at *; omega))))
    | (with_reducible refine spB_beq ?_ ?_ <;> intro _ <;> (try (exfalso; first | contradiction | omega | (rename_i hz; refine hz ?_; simp; done) | (rename_i hz; simp at hz; done) | (simp only [LN] at *; omega))))
    | ((with_reducible refine rowN_mk (cL x) ?_ ?_); (focus (show (List.map cL ps)[0 + h]? = some (cL x); rw [Nat.zero_add, List.getElem?_map, hx]; rfl)))
    | ((with_reducible apply ixN_litp); (focus (exact rfl)); (focus ((try simp only [LN] at *) <;> omega)))
    | with_reducible refine wr_i64 (by first | omega | (simp only [LN] at *; omega)) ?_
    | with_reducible first | refine Z.callZ_in tabOk 8 Try.f43 _ Try.func43 (by kernel_rfl) rfl rfl rfl ?_
    | ((with_reducible apply ex_and); exact rfl))
  all_goals (try (conv => whnf))
  all_goals try (show Nat.ble _ _ = true; rfl)
  refine Z.loopK tabOk (fun zq : Nat × Nat × List Pl => [(6, .val (.int .i64 (zq.1 : Int))), (5, .val (.int .i64 (zq.2.1 : Int)))]) (fun zq : Nat × Nat × List Pl => ([(6, some (Z.Ob.b ⟨((zq.2.2) ++ ps.drop zq.2.1).map cL, 2, 66, false⟩))] : Z.Kr)) (fun zq => zq.2.1 < zq.1 ∧ zq.1 ≤ ps.length ∧ zq.2.1 = (zq.2.2).length ∧ zq.2.2 = keepP id (ps.take zq.1)) (fun zq => ps.length - zq.1) (h + 1, h, ps.take h) 9 [(0, _), (1, _)] ⟨rfl, rfl, trivial⟩ [(0, some _), (1, some _), (2, some _), (3, some _), (4, some _), (5, some _), (7, some _)] ⟨rfl, rfl, rfl, rfl, rfl, rfl, rfl, trivial⟩ ?_ ?_ rfl rfl ⟨Nat.lt_succ_self _, by (try dsimp only); omega, (show h = (List.take h ps).length by rw [List.length_take]; omega), hkh⟩ ?_
  · repeat' (first | exact trivial | apply And.intro | exact ⟨_, rfl, Z.Imp.refl _⟩)
  · repeat' (first | exact trivial | (intro b hb; cases hb; refine ⟨_, rfl, ⟨rfl, rfl, rfl⟩, Z.imp_eq ?_⟩; first | rfl | exact ren_map (fun _ => rfl) | rw [List.take_append_drop]; done) | apply And.intro)
  rintro ⟨j, m, acc⟩ HINV
  dsimp only at HINV ⊢
  obtain ⟨HJ, HJ2, rfl, HC⟩ := HINV
  by_cases hjl : j < ps.length
  · obtain ⟨y, hy⟩ := getElem?_some' (xs := ps) (i := j) hjl
    obtain ⟨z, hz⟩ := getElem?_some' (xs := ps) (i := acc.length) (by omega)
    repeat' ((conv => whnf); first
      | with_reducible first | refine spB_not ?_
      | (with_reducible refine spB_dec ?_ ?_ <;> intro _ <;> (try (exfalso; first | contradiction | omega | (rename_i hz; refine hz ?_; simp; done) | (rename_i hz; simp at hz; done) | (simp only [LN] at *; omega))))
      | (with_reducible refine spB_beq ?_ ?_ <;> intro _ <;> (try (exfalso; first | contradiction | omega | (rename_i hz; refine hz ?_; simp; done) | (rename_i hz; simp at hz; done) | (simp only [LN] at *; omega))))
      | ((with_reducible refine rowN_mk (cL y) ?_ ?_); (focus (exact midp_get (by omega) hy)))
      | ((with_reducible refine rowN_mk (cL z) ?_ ?_); (focus (exact midp_get (Nat.le_refl _) hz)))
      | ((with_reducible apply ixN_litp); (focus (exact rfl)); (focus ((try simp only [LN] at *) <;> omega)))
      | with_reducible refine wr_i64 (by first | omega | (simp only [LN] at *; omega)) ?_
      | with_reducible first | refine Z.callZ_in tabOk 8 Try.f43 _ Try.func43 (by kernel_rfl) rfl rfl rfl ?_
      | ((with_reducible apply ex_and); exact rfl))
    all_goals (try (conv => whnf))
    all_goals try (show Nat.ble _ _ = true; rfl)
    all_goals first
      | ((refine Z.rnd_rw 6 (((acc ++ [y]) ++ ps.drop (acc.length + 1)).map cL) rfl rfl ?_ ?_); (focus (exact midp_set (by omega))); ((refine Z.rndK ((j + 1, acc.length + 1, acc ++ [y])) (fun s => [0, 1, 2, 3, 4, 5, 6, 7, 8]) rfl rfl rfl rfl ?_ ?_ ?_ ?_); (focus (repeat' (first | exact trivial | exact rfl | apply And.intro))); (focus (repeat' (first | exact trivial | (intro b hb; cases hb; rfl) | exact Z.blk_sub rfl rfl (ren_map fun _ => rfl) | apply And.intro))); (focus (refine ⟨by (try dsimp only); omega, by (try dsimp only); omega, by simp, ?_⟩; (try dsimp only); rw [keepP_yes hy (by assumption), ← HC])); ((try dsimp only); omega)))
      | ((refine Z.rndK ((j + 1, acc.length, acc)) (fun s => [0, 1, 2, 3, 4, 5, 6, 7, 8]) rfl rfl rfl rfl ?_ ?_ ?_ ?_); (focus (repeat' (first | exact trivial | exact rfl | apply And.intro))); (focus (repeat' (first | exact trivial | (intro b hb; cases hb; rfl) | exact Z.blk_sub rfl rfl (ren_map fun _ => rfl) | apply And.intro))); (focus (refine ⟨by (try dsimp only); omega, by (try dsimp only); omega, rfl, ?_⟩; (try dsimp only); rw [keepP_no hy (by assumption), ← HC])); ((try dsimp only); omega))
  have hfin : acc = keepP id ps := by rw [HC, List.take_of_length_le (by omega)]
  repeat' ((conv => whnf); first
    | ((with_reducible apply spB_cong); (focus (simp only [beq_self_eq_true, bne_self_eq_false, Bool.true_bne, Bool.false_bne, Bool.bne_true, Bool.bne_false, Bool.true_beq, Bool.false_beq, Bool.not_true, Bool.not_false, Bool.not_not, Int.reduceBEq, Int.reduceBNe, Int.reduceLE, Int.reduceLT, Int.reduceEq, decide_true, decide_false]; rfl)))
    | with_reducible first | refine spB_no (by decide) ?_
    | (with_reducible refine spB_dec ?_ ?_ <;> intro _ <;> (try (exfalso; first | contradiction | omega | (rename_i hz; refine hz ?_; simp; done) | (rename_i hz; simp at hz; done) | (simp only [LN] at *; omega))))
    | ((with_reducible refine Z.slN_lo acc.length ?_ ?_ ?_); (focus rfl); (focus ((try simp only [LN] at *) <;> omega)))
    | ((with_reducible refine slN_hi acc.length ?_ ?_ ?_); (focus rfl); (focus ((try simp only [LN] at *) <;> omega)))
    | ((with_reducible refine slE_a ?_ ?_); (focus ((try simp only [LN] at *) <;> omega)))
    | ((with_reducible refine clrN_mk ?_ ?_ ?_); (focus ((try simp only [LN] at *) <;> omega)); (focus rfl))
    | ((first | (with_reducible apply Z.conZ_mz ?_ (tasks_con _ _ _ ?_ ?_) ?_)); (rotate_left 3); (focus ((repeat' (first | exact trivial | exact rfl | apply And.intro)); done)); (iterate 2 (focus (first | assumption))))
    | ((with_reducible apply ex_and); exact rfl)
    | with_reducible first | refine Z.drawZ_rule tabOk mixOk ?_ | refine Z.apZ_mk (by kernel_rfl) ?_)
  all_goals (try (conv => whnf))
  all_goals try (show Nat.ble _ _ = true; rfl)
  all_goals first
  | (rw [← hfin]; refine Z.retF2 [.agg [.osl 5 0 (i - 0 + (ws.length - (i + 1))) (some capv), .osl 6 0 (acc.length - 0) (some capp)], .one (.ro true 1 ((atL ps id).map eI)), .one (.v (.int .i64 0))] (by rfl) ⟨⟨(Z.frz_oslw (l := ws.eraseIdx i) (f := cW) (ty := 27) (bx := false) (by rfl) (by rw [List.length_eraseIdx, if_pos hil]; omega) (tk_del hil (by omega)) (fun _ => rfl)), (Z.frz_oslw (l := acc) (f := cL) (ty := 66) (bx := false) (by rfl) (by simp) cutp_rows (fun _ => rfl)), trivial⟩, rfl, rfl, trivial⟩)
  | (fail)

theorem go_p2 (ws : List Wk) (ps : List Pl) (id : Int) (i : Nat) (hw : ws.length ≤ 1000) (hp : ps.length ≤ 1000) (hk : okF ws ps = true) (hi : idxW ws id = i) (hil : i < ws.length) (hi1 : i + 1 = ws.length) (hex : ¬ keepP id ps = ps) : Con Try.prog 14 [.agg [.ro false 2 ((ws).map eW), .ro false 2 ((ps).map eL)], .one (.v (.int .i64 id))] (fun rx rK rt => rx = .tup [.agg [.ro true 2 (((ws.eraseIdx i)).map eW), .ro true 2 (((keepP id ps)).map eL)], .one (.ro true 1 ((atL ps id).map eI)), .one (.v (.int .i64 0))] ∧ rK = [] ∧ rt = 0) := by
  refine Z.con_ofF tabOk 23 Try.f14 _ Try.func14 (by kernel_rfl) rfl rfl rfl rfl ?_
  have ck := check_con ws ps (by omega) (by omega)
  rw [hk] at ck
  simp only [cond_true] at ck
  have ca := workerAt_con ws ps id (by omega) (by omega)
  rw [decide_eq_true (by omega), hi] at ca
  have hne : ws ≠ [] := fun e => by subst e; simp at hil
  have hpe : ps ≠ [] := fun e => by subst e; exact hex rfl
  have cw := clonew_con ws hw hne
  have cp := cloneq_con ps hp hpe
  repeat' ((conv => whnf); first
    | ((with_reducible apply spB_cong); (focus (simp only [beq_self_eq_true, bne_self_eq_false, Bool.true_bne, Bool.false_bne, Bool.bne_true, Bool.bne_false, Bool.true_beq, Bool.false_beq, Bool.not_true, Bool.not_false, Bool.not_not, Int.reduceBEq, Int.reduceBNe, Int.reduceLE, Int.reduceLT, Int.reduceEq, decide_true, decide_false]; rfl)))
    | with_reducible first | refine spB_no (by decide) ?_
    | (with_reducible refine spB_beq ?_ ?_ <;> intro _ <;> (try (exfalso; first | contradiction | omega | (rename_i hz; refine hz ?_; simp; done) | (rename_i hz; simp at hz; done) | (simp only [LN] at *; omega))))
    | ((apply Z.callZ_capn (n := ws.length)); intro capv hcapv)
    | ((apply Z.callZ_capn (n := ps.length)); intro capp hcapp)
    | ((with_reducible refine slN_hi (i) ?_ ?_ ?_); (focus rfl); (focus ((try simp only [LN] at *) <;> omega)))
    | ((with_reducible refine Z.slN_lo (i + 1) ?_ ?_ ?_); (focus rfl); (focus ((try simp only [LN] at *) <;> omega)))
    | ((with_reducible refine Z.slN_lhc (ws.length - 1) ws.length ?_ ?_ ?_ ?_ ?_); (iterate 3 (focus ((try simp only [LN] at *) <;> omega))); (focus (exact ⟨_, rfl, by (try simp only [LN] at *) <;> omega⟩)))
    | ((with_reducible refine apdE_r ?_); (with_reducible refine aprN.mk ⟨_, rfl, ?_⟩ ?_ ?_ ?_ ?_); (focus ((try simp only [LN] at *) <;> omega)); (focus rfl); (focus (exact one_all (by rfl))); (focus (exact g_le (f := cW) (ren_map fun _ => rfl) (by (try simp only [LN] at *) <;> omega))))
    | ((with_reducible refine clrN_mk ?_ ?_ ?_); (focus (exact g_clr (f := cW) (ren_map fun _ => rfl) (by first | (rw [g_len (f := cW) (l := ws) (ren_map fun _ => rfl) (by (try simp only [LN] at *) <;> omega)]; omega) | (simp; omega)) (by (try simp only [LN] at *) <;> omega))); (focus rfl))
    | ((with_reducible refine slE_a ?_ ?_); (focus ((try simp only [LN] at *) <;> omega)))
    | ((with_reducible refine slE_b ?_ ?_); (focus ((try simp only [LN] at *) <;> omega)))
    | ((with_reducible apply sl3N_mk); (focus (exact rfl)); (focus (exact rfl)); (focus (exact rfl)); (focus ((try simp only [LN] at *) <;> omega)); (focus ((try simp only [LN] at *) <;> omega)); (focus ((try simp only [LN] at *) <;> omega)); (focus ((try simp only [LN] at *) <;> omega)))
    | with_reducible refine wr_i64 (by first | omega | (simp only [LN] at *; omega)) ?_
    | with_reducible first | refine Z.callZ_in tabOk 35 Try.f40 _ Try.func40 (by kernel_rfl) rfl rfl rfl ?_ | refine Z.callZ_in tabOk 33 Try.f41 _ Try.func41 (by kernel_rfl) rfl rfl rfl ?_ | refine Z.callZ_in tabOk 42 Try.f42 _ Try.func42 (by kernel_rfl) rfl rfl rfl ?_ | refine Z.callZ_in tabOk 19 Try.f64 _ Try.func64 (by kernel_rfl) rfl rfl rfl ?_ | refine Z.callZ_in tabOk 29 Try.f31 _ Try.func31 (by kernel_rfl) rfl rfl rfl ?_
    | ((first | (with_reducible refine Z.callZ_mk ?_ (ca) ?_) | (with_reducible refine Z.callZ_mk ?_ (ck) ?_) | (with_reducible refine Z.conZ_mz ?_ (cw) ?_) | (with_reducible refine Z.conZ_mz ?_ (cp) ?_)); (focus ((repeat' (first | exact trivial | exact rfl | apply And.intro)); done)))
    | ((with_reducible apply ex_and); exact rfl)
    | with_reducible first | refine Z.drawZ_rule tabOk mixOk ?_ | refine Z.apZ_mk (by kernel_rfl) ?_)
  all_goals (try (conv => whnf))
  all_goals try (show Nat.ble _ _ = true; rfl)
  refine Z.loopK tabOk (fun zq : Nat => [(8, .val (.int .i64 (zq : Int)))]) (fun zq : Nat => ([(5, some (Z.Ob.b ⟨(ws.eraseIdx i ++ [(⟨0, 0⟩ : Wk)]).map cW, 2, 27, false⟩)), (6, some (Z.Ob.b ⟨ps.map cL, 2, 66, false⟩))] : Z.Kr)) (fun zq => zq ≤ ps.length ∧ keepP id (ps.take zq) = ps.take zq) (fun zq => ps.length - zq) 0 8 [(0, _), (1, _), (7, _)] ⟨rfl, rfl, rfl, trivial⟩ [(0, some _), (1, some _), (2, some _), (3, some _), (4, some _), (7, some _)] ⟨rfl, rfl, rfl, rfl, rfl, rfl, trivial⟩ ?_ ?_ rfl rfl ⟨Nat.zero_le _, rfl⟩ ?_
  · repeat' (first | exact trivial | apply And.intro | exact ⟨_, rfl, Z.Imp.refl _⟩)
  · repeat' (first | exact trivial | (intro b hb; cases hb; refine ⟨_, rfl, ⟨rfl, rfl, rfl⟩, Z.imp_eq ?_⟩; first | rfl | exact ren_map (fun _ => rfl) | exact (ren_map (fun _ => rfl)).symm | exact del_full0 (f := cW) (ren_map (fun _ => rfl)) hi1 rfl (by rw [show ws.length - (ws.length - 1) = 1 by omega]; rfl) | exact (del_full0 (f := cW) (ren_map (fun _ => rfl)) hi1 rfl (by rw [show ws.length - (ws.length - 1) = 1 by omega]; rfl)).symm; done) | apply And.intro)
  rintro h HINV
  dsimp only at HINV ⊢
  obtain ⟨HH, HK⟩ := HINV
  have hh : h < ps.length := by
    rcases Nat.lt_or_ge h ps.length with h9 | h9
    · exact h9
    · rw [List.take_of_length_le h9] at HK; exact absurd HK hex
  obtain ⟨x, hx⟩ := getElem?_some' (xs := ps) (i := h) hh
  by_cases hd : x.wk = id
  rotate_left
  · skip
    repeat' ((conv => whnf); first
      | (with_reducible refine spB_dec ?_ ?_ <;> intro _ <;> (try (exfalso; first | contradiction | omega | (rename_i hz; refine hz ?_; simp; done) | (rename_i hz; simp at hz; done) | (simp only [LN] at *; omega))))
      | (with_reducible refine spB_beq ?_ ?_ <;> intro _ <;> (try (exfalso; first | contradiction | omega | (rename_i hz; refine hz ?_; simp; done) | (rename_i hz; simp at hz; done) | (simp only [LN] at *; omega))))
      | ((with_reducible refine rowN_mk (cL x) ?_ ?_); (focus (show (List.map cL ps)[0 + h]? = some (cL x); rw [Nat.zero_add, List.getElem?_map, hx]; rfl)))
      | ((with_reducible apply ixN_litp); (focus (exact rfl)); (focus ((try simp only [LN] at *) <;> omega)))
      | with_reducible refine wr_i64 (by first | omega | (simp only [LN] at *; omega)) ?_
      | with_reducible first | refine Z.callZ_in tabOk 8 Try.f43 _ Try.func43 (by kernel_rfl) rfl rfl rfl ?_
      | ((with_reducible apply ex_and); exact rfl))
    all_goals (try (conv => whnf))
    all_goals try (show Nat.ble _ _ = true; rfl)
    all_goals first
      | ((refine Z.rndK ((h + 1)) (fun s => [0, 1, 2, 3, 4, 5, 6, 7]) rfl rfl rfl rfl ?_ ?_ ?_ ?_); (focus (repeat' (first | exact trivial | exact rfl | apply And.intro))); (focus (repeat' (first | exact trivial | (intro b hb; cases hb; rfl) | exact Z.blk_sub rfl rfl (ren_map fun _ => rfl) | apply And.intro))); (focus (refine ⟨by (try dsimp only); omega, ?_⟩; (try dsimp only); rw [keepP_yes hx hd, HK, ← take_snoc hx])); ((try dsimp only); omega))
  have hkh : ps.take h = keepP id (ps.take (h + 1)) := by rw [keepP_no hx hd, HK]
  repeat' ((conv => whnf); first
    | (with_reducible refine spB_dec ?_ ?_ <;> intro _ <;> (try (exfalso; first | contradiction | omega | (rename_i hz; refine hz ?_; simp; done) | (rename_i hz; simp at hz; done) | (simp only [LN] at *; omega))))
    | (with_reducible refine spB_beq ?_ ?_ <;> intro _ <;> (try (exfalso; first | contradiction | omega | (rename_i hz; refine hz ?_; simp; done) | (rename_i hz; simp at hz; done) | (simp only [LN] at *; omega))))
    | ((with_reducible refine rowN_mk (cL x) ?_ ?_); (focus (show (List.map cL ps)[0 + h]? = some (cL x); rw [Nat.zero_add, List.getElem?_map, hx]; rfl)))
    | ((with_reducible apply ixN_litp); (focus (exact rfl)); (focus ((try simp only [LN] at *) <;> omega)))
    | with_reducible refine wr_i64 (by first | omega | (simp only [LN] at *; omega)) ?_
    | with_reducible first | refine Z.callZ_in tabOk 8 Try.f43 _ Try.func43 (by kernel_rfl) rfl rfl rfl ?_
    | ((with_reducible apply ex_and); exact rfl))
  all_goals (try (conv => whnf))
  all_goals try (show Nat.ble _ _ = true; rfl)
  refine Z.loopK tabOk (fun zq : Nat × Nat × List Pl => [(6, .val (.int .i64 (zq.1 : Int))), (5, .val (.int .i64 (zq.2.1 : Int)))]) (fun zq : Nat × Nat × List Pl => ([(6, some (Z.Ob.b ⟨((zq.2.2) ++ ps.drop zq.2.1).map cL, 2, 66, false⟩))] : Z.Kr)) (fun zq => zq.2.1 < zq.1 ∧ zq.1 ≤ ps.length ∧ zq.2.1 = (zq.2.2).length ∧ zq.2.2 = keepP id (ps.take zq.1)) (fun zq => ps.length - zq.1) (h + 1, h, ps.take h) 9 [(0, _), (1, _)] ⟨rfl, rfl, trivial⟩ [(0, some _), (1, some _), (2, some _), (3, some _), (4, some _), (5, some _), (7, some _)] ⟨rfl, rfl, rfl, rfl, rfl, rfl, rfl, trivial⟩ ?_ ?_ rfl rfl ⟨Nat.lt_succ_self _, by (try dsimp only); omega, (show h = (List.take h ps).length by rw [List.length_take]; omega), hkh⟩ ?_
  · repeat' (first | exact trivial | apply And.intro | exact ⟨_, rfl, Z.Imp.refl _⟩)
  · repeat' (first | exact trivial | (intro b hb; cases hb; refine ⟨_, rfl, ⟨rfl, rfl, rfl⟩, Z.imp_eq ?_⟩; first | rfl | exact ren_map (fun _ => rfl) | rw [List.take_append_drop]; done) | apply And.intro)
  rintro ⟨j, m, acc⟩ HINV
  dsimp only at HINV ⊢
  obtain ⟨HJ, HJ2, rfl, HC⟩ := HINV
  by_cases hjl : j < ps.length
  · obtain ⟨y, hy⟩ := getElem?_some' (xs := ps) (i := j) hjl
    obtain ⟨z, hz⟩ := getElem?_some' (xs := ps) (i := acc.length) (by omega)
    repeat' ((conv => whnf); first
      | with_reducible first | refine spB_not ?_
      | (with_reducible refine spB_dec ?_ ?_ <;> intro _ <;> (try (exfalso; first | contradiction | omega | (rename_i hz; refine hz ?_; simp; done) | (rename_i hz; simp at hz; done) | (simp only [LN] at *; omega))))
      | (with_reducible refine spB_beq ?_ ?_ <;> intro _ <;> (try (exfalso; first | contradiction | omega | (rename_i hz; refine hz ?_; simp; done) | (rename_i hz; simp at hz; done) | (simp only [LN] at *; omega))))
      | ((with_reducible refine rowN_mk (cL y) ?_ ?_); (focus (exact midp_get (by omega) hy)))
      | ((with_reducible refine rowN_mk (cL z) ?_ ?_); (focus (exact midp_get (Nat.le_refl _) hz)))
      | ((with_reducible apply ixN_litp); (focus (exact rfl)); (focus ((try simp only [LN] at *) <;> omega)))
      | with_reducible refine wr_i64 (by first | omega | (simp only [LN] at *; omega)) ?_
      | with_reducible first | refine Z.callZ_in tabOk 8 Try.f43 _ Try.func43 (by kernel_rfl) rfl rfl rfl ?_
      | ((with_reducible apply ex_and); exact rfl))
    all_goals (try (conv => whnf))
    all_goals try (show Nat.ble _ _ = true; rfl)
    all_goals first
      | ((refine Z.rnd_rw 6 (((acc ++ [y]) ++ ps.drop (acc.length + 1)).map cL) rfl rfl ?_ ?_); (focus (exact midp_set (by omega))); ((refine Z.rndK ((j + 1, acc.length + 1, acc ++ [y])) (fun s => [0, 1, 2, 3, 4, 5, 6, 7, 8]) rfl rfl rfl rfl ?_ ?_ ?_ ?_); (focus (repeat' (first | exact trivial | exact rfl | apply And.intro))); (focus (repeat' (first | exact trivial | (intro b hb; cases hb; rfl) | exact Z.blk_sub rfl rfl (ren_map fun _ => rfl) | apply And.intro))); (focus (refine ⟨by (try dsimp only); omega, by (try dsimp only); omega, by simp, ?_⟩; (try dsimp only); rw [keepP_yes hy (by assumption), ← HC])); ((try dsimp only); omega)))
      | ((refine Z.rndK ((j + 1, acc.length, acc)) (fun s => [0, 1, 2, 3, 4, 5, 6, 7, 8]) rfl rfl rfl rfl ?_ ?_ ?_ ?_); (focus (repeat' (first | exact trivial | exact rfl | apply And.intro))); (focus (repeat' (first | exact trivial | (intro b hb; cases hb; rfl) | exact Z.blk_sub rfl rfl (ren_map fun _ => rfl) | apply And.intro))); (focus (refine ⟨by (try dsimp only); omega, by (try dsimp only); omega, rfl, ?_⟩; (try dsimp only); rw [keepP_no hy (by assumption), ← HC])); ((try dsimp only); omega))
  have hfin : acc = keepP id ps := by rw [HC, List.take_of_length_le (by omega)]
  repeat' ((conv => whnf); first
    | ((with_reducible apply spB_cong); (focus (simp only [beq_self_eq_true, bne_self_eq_false, Bool.true_bne, Bool.false_bne, Bool.bne_true, Bool.bne_false, Bool.true_beq, Bool.false_beq, Bool.not_true, Bool.not_false, Bool.not_not, Int.reduceBEq, Int.reduceBNe, Int.reduceLE, Int.reduceLT, Int.reduceEq, decide_true, decide_false]; rfl)))
    | with_reducible first | refine spB_no (by decide) ?_
    | (with_reducible refine spB_dec ?_ ?_ <;> intro _ <;> (try (exfalso; first | contradiction | omega | (rename_i hz; refine hz ?_; simp; done) | (rename_i hz; simp at hz; done) | (simp only [LN] at *; omega))))
    | ((with_reducible refine Z.slN_lo acc.length ?_ ?_ ?_); (focus rfl); (focus ((try simp only [LN] at *) <;> omega)))
    | ((with_reducible refine slN_hi acc.length ?_ ?_ ?_); (focus rfl); (focus ((try simp only [LN] at *) <;> omega)))
    | ((with_reducible refine slE_a ?_ ?_); (focus ((try simp only [LN] at *) <;> omega)))
    | ((with_reducible refine clrN_mk ?_ ?_ ?_); (focus ((try simp only [LN] at *) <;> omega)); (focus rfl))
    | ((first | (with_reducible apply Z.conZ_mz ?_ (tasks_con _ _ _ ?_ ?_) ?_)); (rotate_left 3); (focus ((repeat' (first | exact trivial | exact rfl | apply And.intro)); done)); (iterate 2 (focus (first | assumption))))
    | ((with_reducible apply ex_and); exact rfl)
    | with_reducible first | refine Z.drawZ_rule tabOk mixOk ?_ | refine Z.apZ_mk (by kernel_rfl) ?_)
  all_goals (try (conv => whnf))
  all_goals try (show Nat.ble _ _ = true; rfl)
  all_goals first
  | (rw [← hfin]; refine Z.retF2 [.agg [.osl 5 0 (i - 0 + 0) (some capv), .osl 6 0 (acc.length - 0) (some capp)], .one (.ro true 1 ((atL ps id).map eI)), .one (.v (.int .i64 0))] (by rfl) ⟨⟨(Z.frz_oslw (l := ws.eraseIdx i) (f := cW) (ty := 27) (bx := false) (by rfl) (by rw [List.length_eraseIdx, if_pos hil]; omega) (tk_del hil (by omega)) (fun _ => rfl)), (Z.frz_oslw (l := acc) (f := cL) (ty := 66) (bx := false) (by rfl) (by simp) cutp_rows (fun _ => rfl)), trivial⟩, rfl, rfl, trivial⟩)
  | (fail)

end Go.Proofs.Ytllnmdmmmkoiaaa
namespace Go.Proofs.Ytllnmdmmmkoiaaa
open Go Go.RowKit Wx
set_option linter.unusedVariables false
set_option linter.unusedSimpArgs false
set_option maxHeartbeats 4000000
/-- What Go tells: the workers, the places, the tasks that lay there, and whether it was refused. -/
def goT (ws : List Wk) (ps : List Pl) (id : Int) : List Wk × List Pl × List Int × Int :=
  if okF ws ps = true then
    if idxW ws id < ws.length then (ws.eraseIdx (idxW ws id), keepP id ps, atL ps id, 0) else ([], [], [], 4)
  else ([], [], [], 210)
theorem go_con (ws : List Wk) (ps : List Pl) (id : Int) (hw : ws.length ≤ 1000) (hp : ps.length ≤ 1000) : Con Try.prog 14 [.agg [.ro false 2 (ws.map eW), .ro false 2 (ps.map eL)], .one (.v (.int .i64 id))] (fun rx rK rt => rx = .tup [.agg [.ro true 2 ((goT ws ps id).1.map eW), .ro true 2 ((goT ws ps id).2.1.map eL)], .one (.ro true 1 ((goT ws ps id).2.2.1.map eI)), .one (.v (.int .i64 (goT ws ps id).2.2.2))] ∧ rK = [] ∧ rt = 0) := by
  by_cases hk : okF ws ps = true
  · by_cases hil : idxW ws id < ws.length
    · rw [show goT ws ps id = (ws.eraseIdx (idxW ws id), keepP id ps, atL ps id, 0) by unfold goT; rw [if_pos hk, if_pos hil]]
      by_cases hex : keepP id ps = ps
      · have hnp : ∀ p ∈ ps, p.wk ≠ id := fun p hp9 e => by
          have h9 := List.filter_eq_self.1 hex p hp9
          simp [e] at h9
        rw [hex]
        by_cases hi1 : idxW ws id + 1 < ws.length
        · exact go_w1 ws ps id _ hw hp hk rfl hil hi1 hnp
        · exact go_w2 ws ps id _ hw hp hk rfl hil (by omega) hnp
      · by_cases hi1 : idxW ws id + 1 < ws.length
        · exact go_p1 ws ps id _ hw hp hk rfl hil hi1 hex
        · exact go_p2 ws ps id _ hw hp hk rfl hil (by omega) hex
    · rw [show goT ws ps id = ([], [], [], 4) by unfold goT; rw [if_pos hk, if_neg hil]]
      exact go_none ws ps id hw hp hk hil
  · rw [show goT ws ps id = ([], [], [], 210) by unfold goT; rw [if_neg hk]]
    exact go_bad ws ps id hw hp (by cases h : okF ws ps <;> simp_all)
end Go.Proofs.Ytllnmdmmmkoiaaa
namespace Go.Proofs.Ytllnmdmmmkoiaaa
open Go Go.RowKit Wx
set_option linter.unusedVariables false
set_option linter.unusedSimpArgs false
set_option maxHeartbeats 4000000
/-! ### Go, as the document has it -/
theorem go_doc {id : Int} : ∀ {ws : List Wk}, wsrt ws → ws.eraseIdx (idxW ws id) = ws.filter fun w => !decide (w.id = id)
  | [], _ => rfl
  | w :: l, h => by
    have hl := (List.pairwise_cons.1 h).1
    have h1 : wsrt l := (List.pairwise_cons.1 h).2
    unfold idxW
    rw [List.findIdx_cons]
    by_cases e : w.id = id
    · rw [decide_eq_true e, List.filter_cons, decide_eq_true e]
      show l = l.filter _
      exact (List.filter_eq_self.2 fun z hz => by have := hl z hz; simp; omega).symm
    · rw [decide_eq_false e, List.filter_cons, decide_eq_false e]
      show w :: l.eraseIdx (idxW l id) = w :: l.filter _
      rw [go_doc h1]
end Go.Proofs.Ytllnmdmmmkoiaaa
namespace Go.Proofs.Ytllnmdmmmkoiaaa
open Go Go.RowKit Wx
set_option linter.unusedVariables false
set_option linter.unusedSimpArgs false
set_option maxHeartbeats 4000000
def decW : List Ce → Option Wk
  | [.v (.int .i64 a), .v (.int .i64 b)] => some ⟨a, b⟩
  | _ => none
def decL : List Ce → Option Pl
  | [.v (.int .i64 a), .v (.int .i64 b)] => some ⟨a, b⟩
  | _ => none
def decAll {α : Type} (d : List Ce → Option α) : List (List Ce) → Option (List α)
  | [] => some []
  | r :: rs => match d r, decAll d rs with
    | some x, some xs => some (x :: xs)
    | _, _ => none
theorem decAll_map {α : Type} {d : List Ce → Option α} {en : α → List RT} (hd : ∀ r x, d r = some x → r.map RT.of = (en x).map some) : ∀ {rs : List (List Ce)} {xs : List α}, decAll d rs = some xs → rs.map (List.map RT.of) = (xs.map en).map (List.map some)
  | [], xs, h => by simp only [decAll, Option.some.injEq] at h; subst h; rfl
  | r :: rs, xs, h => by
    simp only [decAll] at h
    split at h
    · rename_i x ys h1 h2
      simp only [Option.some.injEq] at h
      subst h
      simp only [List.map_cons, hd r x h1, decAll_map hd h2]
    · cases h
def rowsD {α : Type} (d : List Ce → Option α) (K : Nat → Option Y.Ob) : Ce → Option (List α)
  | .v (.slice none 0 0) => some []
  | .osl i q n _ => match K i with
    | some (.b b) => match Nat.beq b.sz 2, decAll d ((b.rows.drop q).take n) with
      | true, some xs => match Nat.beq xs.length n, Nat.ble xs.length 1000 with
        | true, true => some xs
        | _, _ => none
      | _, _ => none
    | _ => none
  | _ => none
theorem rowsD_low {α : Type} {d : List Ce → Option α} {en : α → List RT} (hd : ∀ r x, d r = some x → r.map RT.of = (en x).map some) {K : Nat → Option Y.Ob} {c : Ce} {xs : List α} (h : rowsD d K c = some xs) : lowC (Y.blkOf K) c (.ro false 2 (xs.map en)) ∧ xs.length ≤ 1000 := by
  unfold rowsD at h
  split at h
  · simp only [Option.some.injEq] at h
    subst h
    exact ⟨.inr ⟨2, rfl⟩, by simp⟩
  · rename_i i q n _
    split at h
    · rename_i b hb
      split at h
      · rename_i ys hsz hys
        split at h
        · rename_i hn hle
          simp only [Option.some.injEq] at h
          subst h
          refine ⟨?_, Nat.le_of_ble_eq_true hle⟩
          have hk : Y.blkOf K i = some b := by unfold Y.blkOf; rw [hb]
          show match Y.blkOf K i with
            | some b => ∃ rows, Ce.ro false 2 (ys.map en) = .ro false b.sz rows ∧ rows.length = n ∧ ((b.rows.drop q).take n).map (List.map RT.of) = rows.map (List.map some)
            | none => False
          rw [hk]
          exact ⟨ys.map en, by rw [Nat.eq_of_beq_eq_true hsz], by rw [List.length_map]; exact Nat.eq_of_beq_eq_true hn, decAll_map hd hys⟩
        · cases h
      · cases h
    · cases h
  · cases h
theorem decW_ok (r : List Ce) (x : Wk) (h : decW r = some x) : r.map RT.of = (eW x).map some := by
  unfold decW at h
  split at h
  · simp only [Option.some.injEq] at h; subst h; rfl
  · cases h
theorem decL_ok (r : List Ce) (x : Pl) (h : decL r = some x) : r.map RT.of = (eL x).map some := by
  unfold decL at h
  split at h
  · simp only [Option.some.injEq] at h; subst h; rfl
  · cases h
/-- What Check and Free answer, by their contracts. -/
def orc : Y.CallFn := fun c avs K top => match c, avs with
  | .fn g [], [.pl (.agg [a, b])] => match Nat.beq g 23, Nat.beq g 26 with
    | true, _ => match rowsD decW K.get a, rowsD decL K.get b with
      | some ws, some ps => some ⟨.val (.int .i64 (bif okF ws ps then 0 else 210)), K, top, []⟩
      | _, _ => none
    | false, true => match rowsD decW K.get a, rowsD decL K.get b with
      | some ws, some ps => some ⟨.val (.int .i64 (bif okF ws ps then sumW ws - (ps.length : Int) else 0)), K, top, []⟩
      | _, _ => none
    | _, _ => none
  | _, _ => none
theorem orc_sound : Y.CallsOk Try.prog orc := by
  intro c avs K top r h
  unfold orc at h
  split at h
  · rename_i g a b
    split at h
    · have hg : Nat.beq g 23 = true := by assumption
      split at h
      · rename_i ws ps h1 h2
        simp only [Option.some.injEq] at h
        subst h
        obtain ⟨g1, g2⟩ := rowsD_low decW_ok h1
        obtain ⟨g3, g4⟩ := rowsD_low decL_ok h2
        have := Nat.eq_of_beq_eq_true hg
        subst this
        exact ⟨Y.con_callE (args := [.agg [.ro false 2 (ws.map eW), .ro false 2 (ps.map eL)]]) ⟨⟨g1, g3, trivial⟩, trivial⟩ (check_con ws ps (by omega) (by omega)) rfl, fun _ _ => rfl⟩
      · cases h
    · rename_i _ hg
      split at h
      · rename_i ws ps h1 h2
        simp only [Option.some.injEq] at h
        subst h
        obtain ⟨g1, g2⟩ := rowsD_low decW_ok h1
        obtain ⟨g3, g4⟩ := rowsD_low decL_ok h2
        have := Nat.eq_of_beq_eq_true hg
        subst this
        exact ⟨Y.con_callE (args := [.agg [.ro false 2 (ws.map eW), .ro false 2 (ps.map eL)]]) ⟨⟨g1, g3, trivial⟩, trivial⟩ (free_con ws ps (by omega) (by omega)) rfl, fun _ _ => rfl⟩
      · cases h
    · cases h
  · cases h
theorem wakes_con : Con Try.prog 9 [] (fun x K t => x = .val (.bool true) ∧ K = [] ∧ t = 0) := Y.con_runO ftabOk tabOk mixOk orc_sound 40 12 (by kernel_rfl) (by kernel_rfl)
end Go.Proofs.Ytllnmdmmmkoiaaa
namespace Go.Proofs.Ytllnmdmmmkoiaaa
open Go Go.RowKit Wx
set_option linter.unusedVariables false
set_option linter.unusedSimpArgs false
set_option maxHeartbeats 4000000
/-! ### Back again -/
theorem idx_no {ws : List Wk} {a : Int} (h : ¬ idxW ws a < ws.length) : slF ws a = 0 := slF_no fun w hw e => h (List.findIdx_lt_length.2 ⟨w, hw, decide_eq_true e⟩)
theorem lay_all {ws : List Wk} : ∀ {l : List Int} {A : List Pl}, okF ws A = true → wantT ws A l = 0 → okF ws (layT ws A l) = true
  | [], A, h, _ => h
  | t :: l, A, h, g => by
    have hl := lay_keep h g
    rw [layT]; exact lay_all hl.1 hl.2
theorem insL_filter {a c : Int} {p : Pl → Bool} (hp : p ⟨a, c⟩ = false) : ∀ {A : List Pl}, (insL a c A).filter p = A.filter p
  | [] => by simp [insL, hp]
  | q :: l => by
    unfold insL
    split
    · rw [List.filter_cons, hp]; rfl
    · rw [List.filter_cons, List.filter_cons, insL_filter hp]
theorem lay_filter {ws : List Wk} {p : Pl → Bool} : ∀ {l : List Int} {A : List Pl}, (∀ t ∈ l, ∀ b, p ⟨t, b⟩ = false) → (layT ws A l).filter p = A.filter p
  | [], A, _ => rfl
  | t :: l, A, h => by
    rw [layT, lay_filter fun s hs => h s (by simp [hs]), insT_L, insL_filter (h t (by simp) _)]
theorem layT_mem {ws : List Wk} : ∀ {l : List Int} {A : List Pl} {q : Pl}, q ∈ A → q ∈ layT ws A l
  | [], A, q, h => h
  | t :: l, A, q, h => by rw [layT]; exact layT_mem (insT_mem.2 (.inr h))
theorem lay_there {ws : List Wk} : ∀ {l : List Int} {A : List Pl} {t : Int}, t ∈ l → ∃ p ∈ layT ws A l, p.task = t
  | s :: l, A, t, h => by
    rw [layT]
    rcases List.mem_cons.1 h with rfl | h
    · exact ⟨_, layT_mem (insT_mem.2 (.inl rfl)), rfl⟩
    · exact lay_there h
theorem lay_take {ws : List Wk} {ps : List Pl} {ts : List Int} (hk : okF ws ps = true) (hw : wantT ws ps ts = 0) : takT (layT ws ps ts) ts = some ps := by
  have h1 := lay_all hk hw
  obtain ⟨h2, h3⟩ := fresh_iff.1 (want_0.1 hw).2.1
  rw [takT_doc (okT_all.1 (okF_all h1).2.1).1, if_pos ⟨h2, fun t ht => lay_there ht⟩, lay_filter fun t ht b => by simp [ht]]
  rw [List.filter_eq_self.2 fun p hp => by
    have : ¬ p.task ∈ ts := fun g => h3 _ g p hp rfl
    simp [this]]
theorem insW_mem {a c : Int} {q : Wk} : ∀ {A : List Wk}, q ∈ insW a c A ↔ q = ⟨a, c⟩ ∨ q ∈ A
  | [] => by simp [insW]
  | p :: l => by
    unfold insW
    split
    · simp
    · simp only [List.mem_cons, insW_mem (A := l)]
      constructor
      · rintro (h | h | h)
        · exact .inr (.inl h)
        · exact .inl h
        · exact .inr (.inr h)
      · rintro (h | h | h)
        · exact .inr (.inl h)
        · exact .inl h
        · exact .inr (.inr h)
theorem insW_srt {a c : Int} : ∀ {A : List Wk}, wsrt A → (∀ p ∈ A, p.id ≠ a) → wsrt (insW a c A)
  | [], _, _ => by simp [insW, wsrt]
  | p :: l, hs, hn => by
    have hl := (List.pairwise_cons.1 hs).1
    have hs' : wsrt l := (List.pairwise_cons.1 hs).2
    have hp := hn p (by simp)
    unfold insW
    split
    · rename_i h
      refine List.pairwise_cons.2 ⟨fun q hq => ?_, hs⟩
      rcases List.mem_cons.1 hq with rfl | hq
      · exact h
      · have := hl q hq; dsimp only; omega
    · rename_i h
      refine List.pairwise_cons.2 ⟨fun q hq => ?_, insW_srt hs' fun q hq => hn q (by simp [hq])⟩
      rcases insW_mem.1 hq with rfl | hq
      · dsimp only; omega
      · exact hl q hq
theorem insW_filter {a c : Int} {p : Wk → Bool} (hp : p ⟨a, c⟩ = false) : ∀ {A : List Wk}, (insW a c A).filter p = A.filter p
  | [] => by simp [insW, hp]
  | q :: l => by
    unfold insW
    split
    · rw [List.filter_cons, hp]; rfl
    · rw [List.filter_cons, List.filter_cons, insW_filter hp]
theorem insW_sl {a c y : Int} : ∀ {A : List Wk}, (∀ w ∈ A, w.id ≠ a) → slF (insW a c A) y = if a = y then c else slF A y
  | [], _ => by simp [insW, slF]
  | q :: l, h => by
    unfold insW
    have hq := h q (by simp)
    split
    · rw [slF]
    · rw [slF, slF, insW_sl fun w hw => h w (by simp [hw])]
      by_cases e : q.id = y
      · rw [if_pos e, if_pos e, if_neg (fun g => hq (by rw [g, e]))]
      · rw [if_neg e, if_neg e]
theorem insW_len {a c : Int} : ∀ {A : List Wk}, (insW a c A).length = A.length + 1
  | [] => rfl
  | q :: l => by
    unfold insW
    split
    · rfl
    · rw [List.length_cons, insW_len, List.length_cons]
/-- A worker that has come: the floor may be. -/
theorem come_ok {ws : List Wk} {ps : List Pl} {a c : Int} (hk : okF ws ps = true) (hv : (1 ≤ a ∧ a ≤ 4) ∧ 1 ≤ c ∧ c ≤ 8) (hno : ¬ idxW ws a < ws.length) : okF (insW a c ws) ps = true := by
  obtain ⟨hkw, hkp, hkc⟩ := okF_all hk
  have hs := okW_all.1 hkw
  have hne : ∀ w ∈ ws, w.id ≠ a := fun w hw e => hno (List.findIdx_lt_length.2 ⟨w, hw, decide_eq_true e⟩)
  have h1 : okW 0 (insW a c ws) = true := okW_all.2 ⟨insW_srt hs.1 hne, fun w hw => by
    rcases insW_mem.1 hw with rfl | hw
    · dsimp only; omega
    · exact hs.2 w hw⟩
  unfold okF
  rw [h1, hkp, (okC_iff h1).2 fun y => ?_]
  · rfl
  · have h2 := (okC_iff hkw).1 hkc y
    rw [insW_sl hne]
    by_cases e : a = y
    · subst e; rw [if_pos rfl]; rw [idx_no hno] at h2; omega
    · rw [if_neg e]; exact h2
theorem come_go {ws : List Wk} {ps : List Pl} {a c : Int} (hk : okF ws ps = true) (hv : (1 ≤ a ∧ a ≤ 4) ∧ 1 ≤ c ∧ c ≤ 8) (hno : ¬ idxW ws a < ws.length) : goT (insW a c ws) ps a = (ws, ps, [], 0) := by
  have h1 := come_ok (c := c) hk hv hno
  obtain ⟨hkw, hkp, hkc⟩ := okF_all hk
  have hne : ∀ w ∈ ws, w.id ≠ a := fun w hw e => hno (List.findIdx_lt_length.2 ⟨w, hw, decide_eq_true e⟩)
  have hi : idxW (insW a c ws) a < (insW a c ws).length := List.findIdx_lt_length.2 ⟨⟨a, c⟩, insW_mem.2 (.inl rfl), decide_eq_true rfl⟩
  have hnp : ∀ p ∈ ps, p.wk ≠ a := fun p hp e => by
    have h2 := (okC_iff hkw).1 hkc a
    have h3 := cnt_mem hp
    rw [e] at h3; rw [idx_no hno] at h2; omega
  unfold goT
  rw [if_pos h1, if_pos hi, go_doc (okW_all.1 (okF_all h1).1).1, insW_filter (by simp), keepP_all hnp]
  have e1 : ws.filter (fun w => !decide (w.id = a)) = ws := List.filter_eq_self.2 fun w hw => by simp [hne w hw]
  have e2 : atL ps a = [] := by unfold atL; rw [List.filter_eq_nil_iff.2 fun p hp => by simp [hnp p hp]]; rfl
  rw [e1, e2]
theorem comeT_ok {ws : List Wk} {ps : List Pl} {a c : Int} (hk : okF ws ps = true) (hv : (1 ≤ a ∧ a ≤ 4) ∧ 1 ≤ c ∧ c ≤ 8) (hno : ¬ idxW ws a < ws.length) : comeT ws ps a c = (insW a c ws, ps, 0) := by
  unfold comeT; rw [if_pos hk, if_pos hv, if_neg hno, insW_eq]
theorem comeT_no {ws : List Wk} {ps : List Pl} {a c : Int} (h : ¬ (okF ws ps = true ∧ ((1 ≤ a ∧ a ≤ 4) ∧ 1 ≤ c ∧ c ≤ 8) ∧ ¬ idxW ws a < ws.length)) : ∃ e : Int, e ≠ 0 ∧ comeT ws ps a c = ([], [], e) := by
  unfold comeT
  by_cases hk : okF ws ps = true
  · rw [if_pos hk]
    by_cases hv : (1 ≤ a ∧ a ≤ 4) ∧ 1 ≤ c ∧ c ≤ 8
    · rw [if_pos hv]
      by_cases hi : idxW ws a < ws.length
      · rw [if_pos hi]; exact ⟨5, by decide, rfl⟩
      · exact absurd ⟨hk, hv, hi⟩ h
    · rw [if_neg hv]; exact ⟨2, by decide, rfl⟩
  · rw [if_neg hk]; exact ⟨210, by decide, rfl⟩
theorem layR_no {ws : List Wk} {ps : List Pl} {ts : List Int} (h : ¬ (okF ws ps = true ∧ wantT ws ps ts = 0)) : ∃ e : Int, e ≠ 0 ∧ layR ws ps ts = ([], [], e) := by
  unfold layR
  by_cases hk : okF ws ps = true
  · rw [if_pos hk]
    by_cases hw : wantT ws ps ts = 0
    · exact absurd ⟨hk, hw⟩ h
    · rw [if_neg hw]; exact ⟨_, hw, rfl⟩
  · rw [if_neg hk]; exact ⟨210, by decide, rfl⟩
theorem sb_00 (ws : List Wk) (ps : List Pl) (ts : List Int) (a c : Int) (hw : ws.length ≤ 50) (hp : ps.length ≤ 100) (ht : ts.length ≤ 100) (hl : ¬ (okF ws ps = true ∧ wantT ws ps ts = 0)) (hm : ¬ (okF ws ps = true ∧ ((1 ≤ a ∧ a ≤ 4) ∧ 1 ≤ c ∧ c ≤ 8) ∧ ¬ idxW ws a < ws.length)) : Con Try.prog 7 [.agg [.ro false 2 ((ws).map eW), .ro false 2 ((ps).map eL)], .one (.ro false 1 (ts.map eI)), .agg [.v (.int .i64 a), .v (.int .i64 c)]] (fun rx rK rt => rx = .val (.bool true) ∧ rK = [] ∧ rt = 0) := by
  refine Z.con_ofF tabOk 75 Try.f7 _ Try.func7 (by kernel_rfl) rfl rfl rfl rfl ?_
  have co := over_con ws ps (by omega) (by omega)
  rw [decide_eq_false (by omega)] at co
  have cl := lay_con ws ps ts (by omega) (by omega) (by omega)
  have cm := come_con ws ps a c (by omega) (by omega)
  have cs := psame_con ws ws ps ps (by omega) (by omega)
  rw [decide_eq_true (p := ws = ws ∧ ps = ps) ⟨rfl, rfl⟩] at cs
  obtain ⟨e1, he1, h1⟩ := layR_no hl
  rw [h1] at cl
  dsimp only at cl
  obtain ⟨e2, he2, h2⟩ := comeT_no hm
  rw [h2] at cm
  dsimp only at cm
  repeat' ((conv => whnf); first
    | ((with_reducible apply spB_cong); (focus (simp only [beq_self_eq_true, bne_self_eq_false, Bool.true_bne, Bool.false_bne, Bool.bne_true, Bool.bne_false, Bool.true_beq, Bool.false_beq, Bool.not_true, Bool.not_false, Bool.not_not, Int.reduceBEq, Int.reduceBNe, Int.reduceLE, Int.reduceLT, Int.reduceEq, decide_true, decide_false, bne_self_eq_false, beq_self_eq_true]; rfl)))
    | with_reducible first | refine spB_no (by decide) ?_
    | (with_reducible refine spB_dec ?_ ?_ <;> intro _ <;> (try (exfalso; first | contradiction | omega | (rename_i hz; refine hz ?_; simp; done) | (rename_i hz; simp at hz; done) | (simp only [LN] at *; omega))))
    | (with_reducible refine spB_beq ?_ ?_ <;> intro _ <;> (try (exfalso; first | contradiction | omega | (rename_i hz; refine hz ?_; simp; done) | (rename_i hz; simp at hz; done) | (simp only [LN] at *; omega))))
    | ((first | (with_reducible refine Z.callZ_mk ?_ (wakes_con) ?_) | (with_reducible refine Z.callZ_mk ?_ (co) ?_) | (with_reducible refine Z.callZ_mk ?_ (cm) ?_) | (with_reducible refine Z.callZ_mk ?_ (cl) ?_)); (focus ((repeat' (first | exact trivial | exact rfl | apply And.intro)); done))))
  all_goals (try (conv => whnf))
  all_goals try (show Nat.ble _ _ = true; rfl)
  all_goals first
    | ((first | (with_reducible apply Z.retF1)); (focus (exact rfl)); (repeat' (first | exact trivial | (with_reducible apply Z.frz_one) | (with_reducible apply Z.fq_bool) | exact rfl | apply And.intro)); (all_goals (try exact (fun _ => none))); all_goals (first | (simp; done)))

theorem sb_01 (ws : List Wk) (ps : List Pl) (ts : List Int) (a c : Int) (hw : ws.length ≤ 50) (hp : ps.length ≤ 100) (ht : ts.length ≤ 100) (hl : ¬ (okF ws ps = true ∧ wantT ws ps ts = 0)) (hm : (okF ws ps = true ∧ ((1 ≤ a ∧ a ≤ 4) ∧ 1 ≤ c ∧ c ≤ 8) ∧ ¬ idxW ws a < ws.length)) : Con Try.prog 7 [.agg [.ro false 2 ((ws).map eW), .ro false 2 ((ps).map eL)], .one (.ro false 1 (ts.map eI)), .agg [.v (.int .i64 a), .v (.int .i64 c)]] (fun rx rK rt => rx = .val (.bool true) ∧ rK = [] ∧ rt = 0) := by
  refine Z.con_ofF tabOk 75 Try.f7 _ Try.func7 (by kernel_rfl) rfl rfl rfl rfl ?_
  have co := over_con ws ps (by omega) (by omega)
  rw [decide_eq_false (by omega)] at co
  have cl := lay_con ws ps ts (by omega) (by omega) (by omega)
  have cm := come_con ws ps a c (by omega) (by omega)
  have cs := psame_con ws ws ps ps (by omega) (by omega)
  rw [decide_eq_true (p := ws = ws ∧ ps = ps) ⟨rfl, rfl⟩] at cs
  obtain ⟨e1, he1, h1⟩ := layR_no hl
  rw [h1] at cl
  dsimp only at cl
  obtain ⟨hk2, hv2, hn2⟩ := hm
  rw [comeT_ok hk2 hv2 hn2] at cm
  have hI := insW_len (a := a) (c := c) (A := ws)
  have cg := go_con (insW a c ws) ps a (by omega) (by omega)
  rw [come_go hk2 hv2 hn2] at cg
  dsimp only at cm cg
  generalize insW a c ws = IW at *
  repeat' ((conv => whnf); first
    | with_reducible first | refine spB_t ?_
    | ((with_reducible apply spB_cong); (focus (simp only [beq_self_eq_true, bne_self_eq_false, Bool.true_bne, Bool.false_bne, Bool.bne_true, Bool.bne_false, Bool.true_beq, Bool.false_beq, Bool.not_true, Bool.not_false, Bool.not_not, Int.reduceBEq, Int.reduceBNe, Int.reduceLE, Int.reduceLT, Int.reduceEq, decide_true, decide_false, bne_self_eq_false, beq_self_eq_true]; rfl)))
    | with_reducible first | refine spB_yes (by decide) ?_ | refine spB_no (by decide) ?_
    | (with_reducible refine spB_dec ?_ ?_ <;> intro _ <;> (try (exfalso; first | contradiction | omega | (rename_i hz; refine hz ?_; simp; done) | (rename_i hz; simp at hz; done) | (simp only [LN] at *; omega))))
    | (with_reducible refine spB_beq ?_ ?_ <;> intro _ <;> (try (exfalso; first | contradiction | omega | (rename_i hz; refine hz ?_; simp; done) | (rename_i hz; simp at hz; done) | (simp only [LN] at *; omega))))
    | ((first | (with_reducible refine Z.callZ_mk ?_ (wakes_con) ?_) | (with_reducible refine Z.callZ_mk ?_ (co) ?_) | (with_reducible refine Z.callZ_mk ?_ (cm) ?_) | (with_reducible refine Z.callZ_mk ?_ (cg) ?_) | (with_reducible refine Z.callZ_mk ?_ (cl) ?_) | (with_reducible refine Z.callZ_mk ?_ (cs) ?_)); (focus ((repeat' (first | exact trivial | exact rfl | apply And.intro)); done))))
  all_goals (try (conv => whnf))
  all_goals try (show Nat.ble _ _ = true; rfl)
  all_goals first
    | ((first | (with_reducible apply Z.retF1)); (focus (exact rfl)); (repeat' (first | exact trivial | exact rfl | apply And.intro)); (all_goals (try exact (fun _ => none))); all_goals (first | (simp; done)))

theorem sb_10 (ws : List Wk) (ps : List Pl) (ts : List Int) (a c : Int) (hw : ws.length ≤ 50) (hp : ps.length ≤ 100) (ht : ts.length ≤ 100) (hl : (okF ws ps = true ∧ wantT ws ps ts = 0)) (hm : ¬ (okF ws ps = true ∧ ((1 ≤ a ∧ a ≤ 4) ∧ 1 ≤ c ∧ c ≤ 8) ∧ ¬ idxW ws a < ws.length)) : Con Try.prog 7 [.agg [.ro false 2 ((ws).map eW), .ro false 2 ((ps).map eL)], .one (.ro false 1 (ts.map eI)), .agg [.v (.int .i64 a), .v (.int .i64 c)]] (fun rx rK rt => rx = .val (.bool true) ∧ rK = [] ∧ rt = 0) := by
  refine Z.con_ofF tabOk 75 Try.f7 _ Try.func7 (by kernel_rfl) rfl rfl rfl rfl ?_
  have co := over_con ws ps (by omega) (by omega)
  rw [decide_eq_false (by omega)] at co
  have cl := lay_con ws ps ts (by omega) (by omega) (by omega)
  have cm := come_con ws ps a c (by omega) (by omega)
  have cs := psame_con ws ws ps ps (by omega) (by omega)
  rw [decide_eq_true (p := ws = ws ∧ ps = ps) ⟨rfl, rfl⟩] at cs
  obtain ⟨hk1, hw1⟩ := hl
  rw [show layR ws ps ts = (ws, layT ws ps ts, 0) by unfold layR; rw [if_pos hk1, if_pos hw1]] at cl
  have hL2 := layT_len (ws := ws) (l := ts) (A := ps)
  have ct := take_con ws (layT ws ps ts) ts (by omega) (by omega) (by omega)
  rw [takeT_yes (lay_all hk1 hw1) (lay_take hk1 hw1)] at ct
  dsimp only at cl ct
  generalize layT ws ps ts = LT at *
  obtain ⟨e2, he2, h2⟩ := comeT_no hm
  rw [h2] at cm
  dsimp only at cm
  repeat' ((conv => whnf); first
    | with_reducible first | refine spB_t ?_
    | ((with_reducible apply spB_cong); (focus (simp only [beq_self_eq_true, bne_self_eq_false, Bool.true_bne, Bool.false_bne, Bool.bne_true, Bool.bne_false, Bool.true_beq, Bool.false_beq, Bool.not_true, Bool.not_false, Bool.not_not, Int.reduceBEq, Int.reduceBNe, Int.reduceLE, Int.reduceLT, Int.reduceEq, decide_true, decide_false, bne_self_eq_false, beq_self_eq_true]; rfl)))
    | with_reducible first | refine spB_no (by decide) ?_
    | (with_reducible refine spB_dec ?_ ?_ <;> intro _ <;> (try (exfalso; first | contradiction | omega | (rename_i hz; refine hz ?_; simp; done) | (rename_i hz; simp at hz; done) | (simp only [LN] at *; omega))))
    | (with_reducible refine spB_beq ?_ ?_ <;> intro _ <;> (try (exfalso; first | contradiction | omega | (rename_i hz; refine hz ?_; simp; done) | (rename_i hz; simp at hz; done) | (simp only [LN] at *; omega))))
    | ((first | (with_reducible refine Z.callZ_mk ?_ (wakes_con) ?_) | (with_reducible refine Z.callZ_mk ?_ (co) ?_) | (with_reducible refine Z.callZ_mk ?_ (cm) ?_) | (with_reducible refine Z.callZ_mk ?_ (cl) ?_) | (with_reducible refine Z.callZ_mk ?_ (ct) ?_) | (with_reducible refine Z.callZ_mk ?_ (cs) ?_)); (focus ((repeat' (first | exact trivial | exact rfl | apply And.intro)); done))))
  all_goals (try (conv => whnf))
  all_goals try (show Nat.ble _ _ = true; rfl)
  all_goals first
    | ((first | (with_reducible apply Z.retF1)); (focus (exact rfl)); (repeat' (first | exact trivial | (with_reducible apply Z.frz_one) | (with_reducible apply Z.fq_bool) | exact rfl | apply And.intro)); (all_goals (try exact (fun _ => none))); all_goals (first | (simp; done)))

theorem sb_11 (ws : List Wk) (ps : List Pl) (ts : List Int) (a c : Int) (hw : ws.length ≤ 50) (hp : ps.length ≤ 100) (ht : ts.length ≤ 100) (hl : (okF ws ps = true ∧ wantT ws ps ts = 0)) (hm : (okF ws ps = true ∧ ((1 ≤ a ∧ a ≤ 4) ∧ 1 ≤ c ∧ c ≤ 8) ∧ ¬ idxW ws a < ws.length)) : Con Try.prog 7 [.agg [.ro false 2 ((ws).map eW), .ro false 2 ((ps).map eL)], .one (.ro false 1 (ts.map eI)), .agg [.v (.int .i64 a), .v (.int .i64 c)]] (fun rx rK rt => rx = .val (.bool true) ∧ rK = [] ∧ rt = 0) := by
  refine Z.con_ofF tabOk 75 Try.f7 _ Try.func7 (by kernel_rfl) rfl rfl rfl rfl ?_
  have co := over_con ws ps (by omega) (by omega)
  rw [decide_eq_false (by omega)] at co
  have cl := lay_con ws ps ts (by omega) (by omega) (by omega)
  have cm := come_con ws ps a c (by omega) (by omega)
  have cs := psame_con ws ws ps ps (by omega) (by omega)
  rw [decide_eq_true (p := ws = ws ∧ ps = ps) ⟨rfl, rfl⟩] at cs
  obtain ⟨hk1, hw1⟩ := hl
  rw [show layR ws ps ts = (ws, layT ws ps ts, 0) by unfold layR; rw [if_pos hk1, if_pos hw1]] at cl
  have hL2 := layT_len (ws := ws) (l := ts) (A := ps)
  have ct := take_con ws (layT ws ps ts) ts (by omega) (by omega) (by omega)
  rw [takeT_yes (lay_all hk1 hw1) (lay_take hk1 hw1)] at ct
  dsimp only at cl ct
  generalize layT ws ps ts = LT at *
  obtain ⟨hk2, hv2, hn2⟩ := hm
  rw [comeT_ok hk2 hv2 hn2] at cm
  have hI := insW_len (a := a) (c := c) (A := ws)
  have cg := go_con (insW a c ws) ps a (by omega) (by omega)
  rw [come_go hk2 hv2 hn2] at cg
  dsimp only at cm cg
  generalize insW a c ws = IW at *
  repeat' ((conv => whnf); first
    | with_reducible first | refine spB_t ?_
    | ((with_reducible apply spB_cong); (focus (simp only [beq_self_eq_true, bne_self_eq_false, Bool.true_bne, Bool.false_bne, Bool.bne_true, Bool.bne_false, Bool.true_beq, Bool.false_beq, Bool.not_true, Bool.not_false, Bool.not_not, Int.reduceBEq, Int.reduceBNe, Int.reduceLE, Int.reduceLT, Int.reduceEq, decide_true, decide_false, bne_self_eq_false, beq_self_eq_true]; rfl)))
    | with_reducible first | refine spB_yes (by decide) ?_ | refine spB_no (by decide) ?_
    | (with_reducible refine spB_dec ?_ ?_ <;> intro _ <;> (try (exfalso; first | contradiction | omega | (rename_i hz; refine hz ?_; simp; done) | (rename_i hz; simp at hz; done) | (simp only [LN] at *; omega))))
    | ((first | (with_reducible refine Z.callZ_mk ?_ (wakes_con) ?_) | (with_reducible refine Z.callZ_mk ?_ (co) ?_) | (with_reducible refine Z.callZ_mk ?_ (cm) ?_) | (with_reducible refine Z.callZ_mk ?_ (cg) ?_) | (with_reducible refine Z.callZ_mk ?_ (cl) ?_) | (with_reducible refine Z.callZ_mk ?_ (ct) ?_) | (with_reducible refine Z.callZ_mk ?_ (cs) ?_)); (focus ((repeat' (first | exact trivial | exact rfl | apply And.intro)); done))))
  all_goals (try (conv => whnf))
  all_goals try (show Nat.ble _ _ = true; rfl)
  all_goals first
    | ((first | (with_reducible apply Z.retF1)); (focus (exact rfl)); (repeat' (first | exact trivial | exact rfl | apply And.intro)); (all_goals (try exact (fun _ => none))); all_goals (first | (simp; done)))

theorem sb_over (ws : List Wk) (ps : List Pl) (ts : List Int) (a c : Int) (hw : ws.length ≤ 9223372036854775807) (hp : ps.length ≤ 9223372036854775807) (ht : ts.length ≤ 9223372036854775807) (hov : 50 < ws.length ∨ 100 < ps.length) : Con Try.prog 7 [.agg [.ro false 2 ((ws).map eW), .ro false 2 ((ps).map eL)], .one (.ro false 1 (ts.map eI)), .agg [.v (.int .i64 a), .v (.int .i64 c)]] (fun rx rK rt => rx = .val (.bool true) ∧ rK = [] ∧ rt = 0) := by
  refine Z.con_ofF tabOk 75 Try.f7 _ Try.func7 (by kernel_rfl) rfl rfl rfl rfl ?_
  have co := over_con ws ps (by omega) (by omega)
  rw [decide_eq_true hov] at co
  repeat' ((conv => whnf); first
    | with_reducible first | refine spB_t ?_
    | ((with_reducible apply spB_cong); (focus (simp only [beq_self_eq_true, bne_self_eq_false, Bool.true_bne, Bool.false_bne, Bool.bne_true, Bool.bne_false, Bool.true_beq, Bool.false_beq, Bool.not_true, Bool.not_false, Bool.not_not, Int.reduceBEq, Int.reduceBNe, Int.reduceLE, Int.reduceLT, Int.reduceEq, decide_true, decide_false]; rfl)))
    | with_reducible first | refine spB_no (by decide) ?_
    | ((first | (with_reducible refine Z.callZ_mk ?_ (wakes_con) ?_) | (with_reducible refine Z.callZ_mk ?_ (co) ?_)); (focus ((repeat' (first | exact trivial | exact rfl | apply And.intro)); done))))
  all_goals (try (conv => whnf))
  all_goals try (show Nat.ble _ _ = true; rfl)
  all_goals first
    | ((first | (with_reducible apply Z.retF1)); (focus (exact rfl)); (repeat' (first | exact trivial | (with_reducible apply Z.frz_one) | (with_reducible apply Z.fq_bool) | exact rfl | apply And.intro)); (all_goals (try exact (fun _ => none))); all_goals (first | (simp; done)))

theorem sb_long (ws : List Wk) (ps : List Pl) (ts : List Int) (a c : Int) (hw : ws.length ≤ 9223372036854775807) (hp : ps.length ≤ 9223372036854775807) (ht : ts.length ≤ 9223372036854775807) (hw2 : ws.length ≤ 50) (hp2 : ps.length ≤ 100) (hov : 100 < ts.length) : Con Try.prog 7 [.agg [.ro false 2 ((ws).map eW), .ro false 2 ((ps).map eL)], .one (.ro false 1 (ts.map eI)), .agg [.v (.int .i64 a), .v (.int .i64 c)]] (fun rx rK rt => rx = .val (.bool true) ∧ rK = [] ∧ rt = 0) := by
  refine Z.con_ofF tabOk 75 Try.f7 _ Try.func7 (by kernel_rfl) rfl rfl rfl rfl ?_
  have co := over_con ws ps (by omega) (by omega)
  rw [decide_eq_false (by omega)] at co
  repeat' ((conv => whnf); first
    | ((with_reducible apply spB_cong); (focus (simp only [beq_self_eq_true, bne_self_eq_false, Bool.true_bne, Bool.false_bne, Bool.bne_true, Bool.bne_false, Bool.true_beq, Bool.false_beq, Bool.not_true, Bool.not_false, Bool.not_not, Int.reduceBEq, Int.reduceBNe, Int.reduceLE, Int.reduceLT, Int.reduceEq, decide_true, decide_false]; rfl)))
    | with_reducible first | refine spB_no (by decide) ?_
    | (with_reducible refine spB_dec ?_ ?_ <;> intro _ <;> (try (exfalso; first | contradiction | omega | (rename_i hz; refine hz ?_; simp; done) | (rename_i hz; simp at hz; done) | (simp only [LN] at *; omega))))
    | ((first | (with_reducible refine Z.callZ_mk ?_ (wakes_con) ?_) | (with_reducible refine Z.callZ_mk ?_ (co) ?_)); (focus ((repeat' (first | exact trivial | exact rfl | apply And.intro)); done))))
  all_goals (try (conv => whnf))
  all_goals try (show Nat.ble _ _ = true; rfl)
  all_goals first
    | ((first | (with_reducible apply Z.retF1)); (focus (exact rfl)); (repeat' (first | exact trivial | (with_reducible apply Z.frz_one) | (with_reducible apply Z.fq_bool) | exact rfl | apply And.intro)); (all_goals (try exact (fun _ => none))); all_goals (first | (simp; done)))

theorem slotsback_con (ws : List Wk) (ps : List Pl) (ts : List Int) (a c : Int) (hw : ws.length ≤ 9223372036854775807) (hp : ps.length ≤ 9223372036854775807) (ht : ts.length ≤ 9223372036854775807) : Con Try.prog 7 [.agg [.ro false 2 ((ws).map eW), .ro false 2 ((ps).map eL)], .one (.ro false 1 (ts.map eI)), .agg [.v (.int .i64 a), .v (.int .i64 c)]] (fun rx rK rt => rx = .val (.bool true) ∧ rK = [] ∧ rt = 0) := by
  by_cases hov : 50 < ws.length ∨ 100 < ps.length
  · exact sb_over ws ps ts a c hw hp ht hov
  · have h1 : ws.length ≤ 50 := by omega
    have h2 : ps.length ≤ 100 := by omega
    by_cases h3 : 100 < ts.length
    · exact sb_long ws ps ts a c hw hp ht h1 h2 h3
    · have h3 : ts.length ≤ 100 := by omega
      by_cases hl : okF ws ps = true ∧ wantT ws ps ts = 0
      · by_cases hm : okF ws ps = true ∧ ((1 ≤ a ∧ a ≤ 4) ∧ 1 ≤ c ∧ c ≤ 8) ∧ ¬ idxW ws a < ws.length
        · exact sb_11 ws ps ts a c h1 h2 h3 hl hm
        · exact sb_10 ws ps ts a c h1 h2 h3 hl hm
      · by_cases hm : okF ws ps = true ∧ ((1 ≤ a ∧ a ≤ 4) ∧ 1 ≤ c ∧ c ≤ 8) ∧ ¬ idxW ws a < ws.length
        · exact sb_01 ws ps ts a c h1 h2 h3 hl hm
        · exact sb_00 ws ps ts a c h1 h2 h3 hl hm
structure Fl where
  ws : List Wk
  ps : List Pl
abbrev eFl (x : Fl) : List RT := [RT.ro 2 (x.ws.map eW), RT.ro 2 (x.ps.map eL)]
def okWk (x : Wk) : Prop := (Lit.int .i64 x.id).wf = true ∧ (Lit.int .i64 x.sl).wf = true ∧ True
theorem rowWk (row : List RT) (h : RowF (.st (.cons 3 1 (.int .i64) (.cons 3 1 (.int .i64) .nil))) row) : ∃ x, row = eW x ∧ okWk x := by
  obtain ⟨a0, r0, rfl, _, ⟨z0, rfl, w0⟩, a1, r1, rfl, _, ⟨z1, rfl, w1⟩, rfl⟩ := h
  exact ⟨⟨z0, z1⟩, rfl, w0, w1, trivial⟩
def okPl (x : Pl) : Prop := (Lit.int .i64 x.task).wf = true ∧ (Lit.int .i64 x.wk).wf = true ∧ True
theorem rowPl (row : List RT) (h : RowF (.st (.cons 3 1 (.int .i64) (.cons 3 1 (.int .i64) .nil))) row) : ∃ x, row = eL x ∧ okPl x := by
  obtain ⟨a0, r0, rfl, _, ⟨z0, rfl, w0⟩, a1, r1, rfl, _, ⟨z1, rfl, w1⟩, rfl⟩ := h
  exact ⟨⟨z0, z1⟩, rfl, w0, w1, trivial⟩
def okFl (x : Fl) : Prop := (x.ws.length ≤ maxLen ∧ ∀ z ∈ x.ws, okWk z) ∧ (x.ps.length ≤ maxLen ∧ ∀ z ∈ x.ps, okPl z) ∧ True
theorem rowFl (row : List RT) (h : RowF (.st (.cons 22 1 (.sl (.st (.cons 3 1 (.int .i64) (.cons 3 1 (.int .i64) .nil))) 27 2) (.cons 23 1 (.sl (.st (.cons 3 1 (.int .i64) (.cons 3 1 (.int .i64) .nil))) 66 2) .nil))) row) : ∃ x, row = eFl x ∧ okFl x := by
  obtain ⟨a0, r0, rfl, _, ⟨rows0, rfl, l0, h0⟩, a1, r1, rfl, _, ⟨rows1, rfl, l1, h1⟩, rfl⟩ := h
  obtain ⟨z0, rfl, k0⟩ := rows_map eW (fun z => okWk z) rowWk rows0 h0
  obtain ⟨z1, rfl, k1⟩ := rows_map eL (fun z => okPl z) rowPl rows1 h1
  exact ⟨⟨z0, z1⟩, rfl, ⟨by simpa using l0, k0⟩, ⟨by simpa using l1, k1⟩, trivial⟩
namespace slotsBack
theorem main (avs : List A0) (h : All2 FitA [(.st (.cons 22 1 (.sl (.st (.cons 3 1 (.int .i64) (.cons 3 1 (.int .i64) .nil))) 27 2) (.cons 23 1 (.sl (.st (.cons 3 1 (.int .i64) (.cons 3 1 (.int .i64) .nil))) 66 2) .nil))), (.sl (.int .i64) 3 1), (.st (.cons 3 1 (.int .i64) (.cons 3 1 (.int .i64) .nil)))] avs) : Con Try.prog 7 avs (fun x K t => x = .val (.bool true) ∧ K = [] ∧ t = 0) := by
  obtain ⟨x0, x1, x2, rfl, h0, h1, h2⟩ : ∃ x0 x1 x2, avs = [x0, x1, x2] ∧ FitA (.st (.cons 22 1 (.sl (.st (.cons 3 1 (.int .i64) (.cons 3 1 (.int .i64) .nil))) 27 2) (.cons 23 1 (.sl (.st (.cons 3 1 (.int .i64) (.cons 3 1 (.int .i64) .nil))) 66 2) .nil))) x0 ∧ FitA (.sl (.int .i64) 3 1) x1 ∧ FitA (.st (.cons 3 1 (.int .i64) (.cons 3 1 (.int .i64) .nil))) x2 := by
    cases avs with
    | nil => exact h.elim
    | cons x0 r => cases r with
      | nil => exact h.2.elim
      | cons x1 r => cases r with
        | nil => exact h.2.2.elim
        | cons x2 r => cases r with
          | nil => exact ⟨x0, x1, x2, rfl, h.1, h.2.1, h.2.2.1⟩
          | cons => exact h.2.2.2.elim
  clear h
  obtain ⟨row0, hrow0, rfl⟩ := h0
  obtain ⟨x, rfl, kx⟩ := rowFl row0 hrow0
  obtain ⟨zs, rfl, lzs, wzs⟩ := fit_ints h1
  obtain ⟨row2, hrow2, rfl⟩ := h2
  obtain ⟨y, rfl, ky⟩ := rowWk row2 hrow2
  exact slotsback_con x.ws x.ps zs y.id y.sl (by have := kx.1.1; simpa [maxLen] using this) (by have := kx.2.1.1; simpa [maxLen] using this) (by have := lzs; simpa [maxLen] using this)
end slotsBack
end Go.Proofs.Ytllnmdmmmkoiaaa
