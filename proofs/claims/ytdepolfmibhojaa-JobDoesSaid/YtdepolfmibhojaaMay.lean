/-
  The walk of layer 25's function May (job), at the seat's numbers: the happenings that are not refused, rising.
-/
import Derived.Test.YtdepolfmibhojaaTop
import Derived.Deep.OwnRows
import Derived.Deep.CutRange
import Derived.Deep.DeepCutAuto
namespace Go.Proofs.Ytdepolfmibhojaa
open Go.ChangeShapes Go.WideShapes Go.ChangeAt Go.RowKit
set_option linter.unusedVariables false

theorem Try.info3 : (Try.prog.info? 3).map (fun i => (i.zero, i.size, i.bytes)) = some (some (.int .i64 0), 1, 8) := by kernel_rfl
def In (xs : List Int) : List Value := xs.map (Value.int .i64)
theorem In_length (xs : List Int) : (In xs).length = xs.length := by simp [In]
theorem In_one (xs : List Int) : ∀ v ∈ In xs, v.oneCell' = true := by
  intro v hv; simp only [In, List.mem_map] at hv; obtain ⟨x, _, rfl⟩ := hv; rfl
/-- The happenings below k that are not refused. -/
def okL (s f m : Int) : Nat → List Int
  | 0 => []
  | k + 1 => okL s f m k ++ (if 1 ≤ k ∧ doE s f m (k : Int) = 0 then [(k : Int)] else [])
theorem okL_yes {s f m : Int} {k : Nat} (h1 : 1 ≤ k) (h : doE s f m (k : Int) = 0) : okL s f m (k + 1) = okL s f m k ++ [(k : Int)] := by rw [okL, if_pos ⟨h1, h⟩]
theorem okL_no {s f m : Int} {k : Nat} (h : ¬ doE s f m (k : Int) = 0) : okL s f m (k + 1) = okL s f m k := by rw [okL, if_neg (fun hh => h hh.2)]; simp
theorem okL_len (s f m : Int) (k : Nat) : (okL s f m k).length ≤ k := by
  induction k with
  | zero => simp [okL]
  | succ k ih => rw [okL]; split <;> simp <;> omega
theorem okL_pre (s f m : Int) (k j : Nat) : ∃ ys, okL s f m (k + j) = okL s f m k ++ ys := by
  induction j with
  | zero => exact ⟨[], by simp⟩
  | succ j ih =>
    obtain ⟨ys, hy⟩ := ih
    exact ⟨ys ++ (if 1 ≤ k + j ∧ doE s f m ((k + j : Nat) : Int) = 0 then [((k + j : Nat) : Int)] else []), by rw [← Nat.add_assoc, okL, hy, List.append_assoc]⟩
def SeenI (w : World) (a : Option Addr) (xs : List Int) : Prop :=
  0 < xs.length → ∃ b o, a = some ⟨b, o, none⟩ ∧ b < w.heap.size ∧ ∀ j, j < xs.length → w.cell? ⟨b, o + j, none⟩ = some (.int .i64 (xs[j]?.getD 0))
theorem SeenI.later {w w1 : World} {a : Option Addr} {xs : List Int} (h : SeenI w a xs) (hb : Below w.heap.size w w1) : SeenI w1 a xs := by
  intro h0
  obtain ⟨b, o, rfl, hl, hc⟩ := h h0
  exact ⟨b, o, rfl, Nat.lt_of_lt_of_le hl hb.size, fun j hj => cell_later hb (hc j hj)⟩
theorem own_viewI {B n : Nat} {w : World} {v : Value} {xs : List Int} (h : w.ownsRow B 3 1 v n (In xs)) : ∃ a c, v = .slice a n c ∧ SeenI w a xs ∧ xs.length = n := by
  obtain ⟨hl, h⟩ := h
  rw [In_length, Nat.mul_one] at hl
  rcases h with ⟨rfl, rfl⟩ | ⟨g, cap, cur, rfl, hB, hg, hn, hc, hs, ht⟩
  · exact ⟨none, 0, rfl, fun h => by omega, hl⟩
  · refine ⟨some ⟨g, 0, none⟩, cap, rfl, fun _ => ⟨g, 0, rfl, lt_of_block hg, fun j hj => ?_⟩, hl⟩
    have hcell : w.cell? ⟨g, 0 + j, none⟩ = cur[j]? := by simp [World.cell?, hg]
    rw [hcell]
    have hj' : j < n := by omega
    have : (In xs)[j]? = cur[j]? := by rw [← ht, Nat.mul_one, List.getElem?_take_of_lt hj', Array.getElem?_toList]
    rw [← this]
    simp [In, List.getElem?_eq_getElem hj]
theorem one_addsI (w : World) (x : Int) : ∀ j u, (In [x])[j]? = some u → (w.alloc (.cells #[.int .i64 x] 3)).cell? ((⟨w.heap.size, 0, none⟩ : Addr).add j) = some u := by
  intro j u hj
  match j, hj with
  | 0, hj => simp [In] at hj; subst hj; simp [Addr.add, go_sem]
theorem one_adds2 (w : World) (o : Obj) (x : Int) : ∀ j u, (In [x])[j]? = some u → ((w.alloc o).alloc (.cells #[.int .i64 x] 3)).cell? ((⟨w.heap.size + 1, 0, none⟩ : Addr).add j) = some u := by
  have h := one_addsI (w.alloc o) x
  rwa [show (w.alloc o).heap.size = w.heap.size + 1 by simp] at h
theorem more {B k : Nat} {w w1 : World} {v : Value} {xs : List Value} {o : Obj} (hB : B ≤ w.heap.size) (hown : w.ownsRow B 3 1 v k xs) (hgrow : (w.alloc o).grownBy w1 v.ownBlock) : Below B w w1 :=
  ((Below.refl B w).alloc hB o).grown hgrow (by simp; omega) (fun j hj => (hown.lt j hj).1)
def OwnI (B : Nat) (xs : List Int) (f : Ending) (w' : World) : Prop := ∃ v, f = .returned v ∧ w'.ownsRow B 3 1 v xs.length (In xs)
theorem do_err1 (s f m h : Int) (e : Int) (hr : rightB s f m = true) (h1 : 1 ≤ h) (h9 : h ≤ 9) (he : doE s f m h = e) (h0 : ¬ e = 0) (w : World) :
    Calls Try.prog 21 #[.agg #[.int .i64 s, .int .i64 f, .int .i64 m], .int .i64 h] w fun e' w' => e' = .returned (.tuple #[.agg #[.int .i64 0, .int .i64 0, .int .i64 0], .int .i64 e]) ∧ Below w.heap.size w w' := by
  have := do_any s f m h w hr h1 h9
  rwa [res_err he h0] at this
theorem do_ok1 (s f m h a b : Int) (hr : rightB s f m = true) (h1 : 1 ≤ h) (h9 : h ≤ 9) (he : doE s f m h = 0) (ha : stepS f m h = a) (hb : stepF f m h = b) (w : World) :
    Calls Try.prog 21 #[.agg #[.int .i64 s, .int .i64 f, .int .i64 m], .int .i64 h] w fun e' w' => e' = .returned (.tuple #[.agg #[.int .i64 a, .int .i64 b, .int .i64 m], .int .i64 0]) ∧ Below w.heap.size w w' := by
  have := do_any s f m h w hr h1 h9
  rwa [res_ok he, ha, hb] at this
theorem own_belowI {base e size n : Nat} {w w' : World} {v : Value} {xs : List Value} (h : w.ownsRow base e size v n xs) (hb : Below w.heap.size w w') : w'.ownsRow base e size v n xs := by
  obtain ⟨hl, h⟩ := h
  rcases h with h | ⟨g, cap, cur, hv, hB, hg, r⟩
  · exact ⟨hl, .inl h⟩
  · exact ⟨hl, .inr ⟨g, cap, cur, hv, hB, (hb.block g (lt_of_block hg)).trans hg, r⟩⟩

theorem may_no (s f m : Int) (w : World) (hr : rightB s f m = false) :
    Calls Try.prog 13 #[.agg #[.int .i64 s, .int .i64 f, .int .i64 m]] w fun e w' => e = .returned (.slice none 0 0) ∧ Below w.heap.size w w' := by
  have HR := Lib.hid hr; clear hr
  go_enter Try.func13, Try.ntmps13
  go_wp2_with (go_at_call 11; refine (check_no _ _ _ _ HR.out).mono ?_; rintro e1 w1 ⟨rfl, hb1⟩)
  go_ret
  exact ⟨rfl, below1 hb1⟩
set_option maxHeartbeats 1600000 in
theorem may_yes (s f m : Int) (w : World) (hr : rightB s f m = true) :
    Calls Try.prog 13 #[.agg #[.int .i64 s, .int .i64 f, .int .i64 m]] w fun e w' => OwnI (w.heap.size + 1) (okL s f m 10) e w' ∧ Below w.heap.size w w' := by
  obtain ⟨i0, hi, hz0, hz1, hz2⟩ := info_parts Try.info3
  have HI := Lib.hid hi; clear hi
  have HZ0 := Lib.hid hz0; clear hz0
  have HZ1 := Lib.hid hz1; clear hz1
  have HZ2 := Lib.hid hz2; clear hz2
  have HR := Lib.hid hr; clear hr
  obtain ⟨B, hB⟩ : ∃ B, B = w.heap.size + 1 := ⟨_, rfl⟩
  rw [← hB]
  have HBe := Lib.hid hB
  clear hB
  go_enter Try.func13, Try.ntmps13
  go_wp2_with (go_at_call 11; refine (check_ok _ _ _ _ HR.out).mono ?_; rintro e1 w1 ⟨rfl, hb1⟩)
  have HJ : Hid (w1.cell? ⟨w.heap.size, 0, none⟩ = some (.int .i64 s) ∧ w1.cell? ⟨w.heap.size, 1, none⟩ = some (.int .i64 f) ∧ w1.cell? ⟨w.heap.size, 2, none⟩ = some (.int .i64 m)) := Lib.hid (cells1 hb1)
  have HW1 : Hid (Below w.heap.size w w1) := Lib.hid (below1 hb1)
  have HL1 : Hid (w.heap.size + 1 ≤ w1.heap.size) := Lib.hid (by have := hb1.size; simpa using this)
  clear hb1
  rw [← HBe.out] at HL1
  go_loopw [2, 3] (fun v i wr => ∃ k : Nat, 1 ≤ k ∧ k ≤ 10 ∧ i = .int .i64 k ∧ wr.ownsRow B 3 1 v (okL s f m k).length (In (okL s f m k)) ∧ Below B w1 wr) (fun _ i _ => 10 - (intOf i).toNat)
  case atStart => exact ⟨1, by decide, by decide, rfl, World.ownsRow_nil _ _ _ _, Below.refl _ _⟩
  case round =>
    obtain ⟨k, hk1, hk, rfl, hown, hbw⟩ := hrel
    have HO := Lib.hid hown; clear hown
    have HBw := Lib.hid hbw; clear hbw
    have HBz : Hid (B ≤ wr.heap.size) := Lib.hid (Nat.le_trans HL1.out HBw.out.size)
    obtain ⟨j0, j1, j2⟩ := HJ.out
    have wlt : w.heap.size < B := by have := HBe.out; omega
    have c0 := (HBw.out.cell (p := ⟨w.heap.size, 0, none⟩) wlt).trans j0
    have c1 := (HBw.out.cell (p := ⟨w.heap.size, 1, none⟩) wlt).trans j1
    have c2 := (HBw.out.cell (p := ⟨w.heap.size, 2, none⟩) wlt).trans j2
    clear j0 j1 j2 wlt
    by_cases hlt : k < 10
    · have HK1 : Hid (1 ≤ (k : Int)) := Lib.hid (by omega)
      have HK9 : Hid ((k : Int) ≤ 9) := Lib.hid (by omega)
      by_cases he : doE s f m (k : Int) = 0
      · obtain ⟨a, ha⟩ : ∃ a, stepS f m (k : Int) = a := ⟨_, rfl⟩
        obtain ⟨b, hb⟩ : ∃ a, stepF f m (k : Int) = a := ⟨_, rfl⟩
        have D1 := fun w => Lib.hid (do_ok1 s f m k a b HR.out HK1.out HK9.out he ha hb w)
        have HE := Lib.hid he
        have HLn : Hid ((okL s f m k).length ≤ 10) := Lib.hid (Nat.le_trans (okL_len s f m k) hk)
        have HN1 : Hid ((In [(k : Int)]).length = 1 * 1) := Lib.hid rfl
        have HM1 : Hid ((okL s f m k).length + 1 ≤ maxLen) := Lib.hid (by have := HLn.out; unfold maxLen; omega)
        have HM2 : Hid (((okL s f m k).length + 1) * 8 ≤ 140737488355328) := Lib.hid (by have := HLn.out; omega)
        clear ha hb he
        go_wp2_with (first
          | (go_at_call 21; ((with_reducible refine (D1 _).out.mono ?_); rintro e2 w2 ⟨rfl, hb2⟩; have HO2 := Lib.hid (own_belowI (HO.out) hb2); have HB2 := Lib.hid hb2; clear hb2; have HZ2' : Hid (B ≤ w2.heap.size) := Lib.hid (Nat.le_trans HBz.out HB2.out.size); have HBa : Hid (B ≤ ((w2.alloc (.cells #[.int .i64 a, .int .i64 b, .int .i64 m] 23)).alloc (.cells #[.int .i64 (k : Int)] 3)).heap.size) := Lib.hid (by simp; have := HZ2'.out; omega)))
          | (at_builtin; refine wpList_append_own _ rfl (.tmp 21) (.tmp 23) 30 rfl B 3 i0 (.int .i64 0) 1 8 Try.underlying30 HI.out HZ0.out HZ1.out HZ2.out rfl (by decide) _ _ _ rfl ((HO2.out.alloc _).alloc _) ⟨w2.heap.size + 1, 0, none⟩ 1 1 (In [(k : Int)]) rfl HN1.out (one_adds2 _ _ _) (In_one _) HM1.out HM2.out HBa.out ?_; intro v' w3 hown' hgrow _; have HO' := Lib.hid hown'; clear hown'; have HGr := Lib.hid hgrow; clear hgrow))
        go_roundw
        case rel =>
          have hy : Below B w1 w2 := HBw.out.trans (HB2.out.mono HBz.out)
          have hx : Below B w1 (w2.alloc (.cells #[.int .i64 a, .int .i64 b, .int .i64 m] 23)) := hy.alloc HZ2'.out _
          refine ⟨k + 1, by omega, by omega, by go_num, ?_, hx.trans (more (Nat.le_trans HZ2'.out (by simp)) (HO2.out.alloc _) HGr.out)⟩
          rw [okL_yes hk1 HE.out, List.length_append]
          have h := HO'.out
          rw [show In (okL s f m k) ++ In [(k : Int)] = In (okL s f m k ++ [(k : Int)]) by simp [In]] at h
          exact h
        case measure => simp [intOf]; omega
      · obtain ⟨e, hee⟩ : ∃ e, doE s f m (k : Int) = e := ⟨_, rfl⟩
        rw [hee] at he
        have D1 := fun w => Lib.hid (do_err1 s f m k e HR.out HK1.out HK9.out hee he w)
        have hE : (e == 0) = false := by simpa using he
        have HN : Hid (okL s f m (k + 1) = okL s f m k) := Lib.hid (okL_no (by rw [hee]; exact he))
        clear hee he
        go_wp2_with (go_at_call 21; ((with_reducible refine (D1 _).out.mono ?_); rintro e2 w2 ⟨rfl, hb2⟩))
        go_roundw
        case rel =>
          refine ⟨k + 1, by omega, by omega, by go_num, ?_, (HBw.out.trans (hb2.mono HBz.out)).alloc (Nat.le_trans HBz.out hb2.size) _⟩
          rw [HN.out]
          exact (own_belowI HO.out hb2).alloc _
        case measure => simp [intOf]; omega
    · obtain rfl : k = 10 := by omega
      go_wp2
      go_ret
      exact ⟨⟨_, rfl, HO.out⟩, HW1.out.trans (HBw.out.mono (by have := HBe.out; omega))⟩
end Go.Proofs.Ytdepolfmibhojaa
