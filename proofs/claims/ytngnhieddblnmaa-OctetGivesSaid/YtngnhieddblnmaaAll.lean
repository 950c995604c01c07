/-
  The walk of 'OctetAll' (P1.2 to P1.4).
-/
import Derived.Test.YtngnhieddblnmaaClone
import Derived.Deep.CutRange
import Derived.Deep.CutBlock
import Derived.Deep.DeepCutAuto
namespace Go.Proofs.Ytngnhieddblnmaa
open Go.ChangeShapes Go.WideShapes Go.ChangeAt Go.RowKit
set_option linter.unusedVariables false

theorem own_below {base e size n : Nat} {w w' : World} {v : Value} {xs : List Value} (h : w.ownsRow base e size v n xs) (hb : Below w.heap.size w w') : w'.ownsRow base e size v n xs := by
  obtain ⟨hl, h⟩ := h
  rcases h with h | ⟨g, cap, cur, hv, hB, hg, r⟩
  · exact ⟨hl, .inl h⟩
  · exact ⟨hl, .inr ⟨g, cap, cur, hv, hB, (hb.block g (lt_of_block hg)).trans hg, r⟩⟩
theorem own_only {R e size n : Nat} {w w' : World} {v : Value} {xs : List Value} (h : w.ownsRow (R + 1) e size v n xs) (hb : Only R w w') : w'.ownsRow (R + 1) e size v n xs := by
  obtain ⟨hl, h⟩ := h
  rcases h with h | ⟨g, cap, cur, hv, hB, hg, r⟩
  · exact ⟨hl, .inl h⟩
  · exact ⟨hl, .inr ⟨g, cap, cur, hv, hB, (hb.block g (lt_of_block hg) (by omega)).trans hg, r⟩⟩
theorem own_row {B g : Nat} {w : World} {xs : List Int} (hB : B ≤ g) (hm : xs.length ≤ maxLen) (hg : w.heap[g]? = some (.cells (By xs).toArray 5 (0, 0))) : w.ownsRow B 5 1 (.slice (some ⟨g, 0, none⟩) xs.length xs.length) xs.length (By xs) := by
  refine ⟨by simp [By], .inr ⟨g, xs.length, _, rfl, hB, hg, Nat.le_refl _, hm, by simp [By], ?_⟩⟩
  simp [By, List.take_of_length_le]
theorem own_row_n {B g n : Nat} {w : World} {xs : List Int} (hn : xs.length = n) (hB : B ≤ g) (hm : n ≤ maxLen) (hg : w.heap[g]? = some (.cells (By xs).toArray 5 (0, 0))) : w.ownsRow B 5 1 (.slice (some ⟨g, 0, none⟩) n n) n (By xs) := by
  subst hn; exact own_row hB hm hg
theorem num_one {xs : List Int} (h : xs.length = 1) : [num xs] = xs := by
  match xs, h with
  | [y], _ => simp [num]
theorem By_append2 (xs ys : List Int) : By xs ++ By ys = By (xs ++ ys) := by simp [By]
theorem num_be (n : Nat) : ∀ x : Int, 0 ≤ x → x < 256 ^ n → num (be n x) = x := by
  induction n with
  | zero => intro x h0 h1; simp [be, num]; simp at h1; omega
  | succ n ih =>
    intro x h0 h1
    rw [be, num_snoc, ih (x / 256) (by omega) (by rw [Int.pow_succ] at h1; omega)]
    omega
theorem be_num (n : Nat) : ∀ xs : List Int, xs.length = n → bytesOk xs → be n (num xs) = xs := by
  induction n with
  | zero => intro xs h _; rw [List.eq_nil_of_length_eq_zero h]; rfl
  | succ n ih =>
    intro xs h hb
    have e := take_snoc xs n (by omega)
    rw [List.take_of_length_le (by omega)] at e
    obtain ⟨b0, b1⟩ := hb n (by omega)
    have hbt : bytesOk (xs.take n) := by
      intro j hj
      have hj' : j < n := by simp at hj; omega
      rw [List.getElem?_take_of_lt hj']
      exact hb j (by omega)
    have hi := ih (xs.take n) (by rw [List.length_take]; omega) hbt
    generalize xs[n]?.getD 0 = y at e b0 b1
    rw [e, num_snoc, be, show (num (xs.take n) * 256 + y) / 256 = num (xs.take n) by omega, show (num (xs.take n) * 256 + y) % 256 = y by omega, hi]
theorem ok_take {xs : List Int} (h : bytesOk xs) (m : Nat) : bytesOk (xs.take m) := by
  intro j hj
  have hj' : j < m := by simp at hj; omega
  rw [List.getElem?_take_of_lt hj']
  exact h j (by simp at hj; omega)
theorem ok_right {xs ys : List Int} (h : bytesOk (xs ++ ys)) : bytesOk ys := by
  intro j hj
  have := h (xs.length + j) (by simp; omega)
  rwa [List.getElem?_append_right (by omega), Nat.add_sub_cancel_left] at this
theorem ok_left {xs ys : List Int} (h : bytesOk (xs ++ ys)) : bytesOk xs := by
  intro j hj
  have := h j (by simp; omega)
  rwa [List.getElem?_append_left hj] at this

theorem own_at {B n c : Nat} {w : World} {a : Option Addr} {xs : List Int} (h : w.ownsRow B 5 1 (.slice a n c) n (By xs)) : Seen w a xs := by
  obtain ⟨a', c', he, hs, _⟩ := own_view h
  simp at he
  obtain ⟨rfl, _⟩ := he
  exact hs
theorem row_addsN {w : World} {g : Nat} {xs : List Int} (h : w.heap[g]? = some (.cells (By xs).toArray 5 (0, 0))) : ∀ j u, (By xs)[j]? = some u → w.cell? ((⟨g, 0, none⟩ : Addr).add j) = some u := by
  intro j u hj
  have h0 : 0 < xs.length := by
    rcases Nat.eq_zero_or_pos xs.length with h | h
    · rw [List.eq_nil_of_length_eq_zero h] at hj; simp [By] at hj
    · exact h
  obtain ⟨ad', he, hc⟩ := Seen.row h h0
  obtain rfl : (⟨g, 0, none⟩ : Addr) = ad' := by simpa using he
  exact hc j u hj
theorem raw_at (R n : Nat) (xs : List Int) (kq nq : Int) (w : World) (h : RdL (w.alloc (.cells #[.int .i64 kq, .int .i64 nq] 42)) R xs 0) (hn : n ≤ xs.length) (hm : n ≤ 140737488351232) :
    Calls Try.prog 24 #[.pointer (some ⟨R, 0, none⟩), .int .i64 (n : Int)] (w.alloc (.cells #[.int .i64 kq, .int .i64 nq] 42)) fun f w' => f = .returned (.slice (some ⟨w.heap.size + 1 + 1, 0, none⟩) n n) ∧ w'.heap[w.heap.size + 1 + 1]? = some (.cells (By (xs.take n)).toArray 5 (0, 0)) ∧ Only R (w.alloc (.cells #[.int .i64 kq, .int .i64 nq] 42)) w' ∧ RdL w' R (xs.drop n) 0 := by
  have := raw_ok R n xs _ h hn hm
  rwa [show (w.alloc (.cells #[.int .i64 kq, .int .i64 nq] 42)).heap.size = w.heap.size + 1 from by simp] at this
/-- What is wanted, one by one. -/
def Wants (w : World) (a : Option Addr) (m : Nat) (K N : Nat → Int) : Prop :=
  0 < m → ∃ b o, a = some ⟨b, o, none⟩ ∧ b < w.heap.size ∧ ∀ i, i < m → w.cell? ⟨b, o + i * 2, none⟩ = some (.int .i64 (K i)) ∧ w.cell? ⟨b, o + i * 2 + 1, none⟩ = some (.int .i64 (N i))

set_option maxHeartbeats 4000000 in
set_option maxRecDepth 100000 in
theorem all_main (a la : Option Addr) (n c m lc : Nat) (xs : List Int) (K N : Nat → Int) (w : World) (h : InB w a n c xs) (hl : Wants w la m K N) (hn : n ≤ 2000) (hm : m ≤ 150) :
    Calls Try.prog 6 #[.slice a n c, .slice la m lc] w fun e w' => e = .returned (.bool true) ∧ Below w.heap.size w w' := by
  have HA := Lib.hid h; clear h
  have HL := Lib.hid hl; clear hl
  have HM : Hid (n ≤ 140737488351232) := Lib.hid (by omega)
  obtain ⟨i0, hi, hz0, hz1, hz2⟩ := info_parts Try.info5
  have HI := Lib.hid hi; clear hi
  have HZ0 := Lib.hid hz0; clear hz0
  have HZ1 := Lib.hid hz1; clear hz1
  have HZ2 := Lib.hid hz2; clear hz2
  go_enter Try.func6, Try.ntmps6
  go_wp2_with (first
    | (go_at_call 9; refine (wakes_any _).mono ?_; rintro e w1 ⟨rfl, hb1⟩; have A1 := Lib.hid (HA.out.later hb1))
    | (go_at_call 17; ((with_reducible refine (readL a n c xs w1 A1.out.len A1.out.seen HM.out).mono ?_); rintro e w2 ⟨⟨R, rfl, hR, hrd⟩, hb2⟩; have HR0 := Lib.hid hrd; clear hrd)))
  have z1 := hb1.size
  have HRw : Hid (w.heap.size ≤ R) := Lib.hid (by omega)
  have HW2 : Hid (Below w.heap.size w w2) := Lib.hid (hb1.trans (hb2.mono z1))
  go_loopw [6, 28] (fun v i wr => ∃ (q : Nat) (gs rs : List Int) (e : Int), q ≤ m ∧ i = .int .i64 q ∧ wr.ownsRow (R + 1) 5 1 v gs.length (By gs) ∧ RdL wr R rs e ∧ gs ++ rs = xs ∧ Below w.heap.size w wr) (fun _ i _ => m - (intOf i).toNat)
  case atStart => exact ⟨0, [], xs, 0, Nat.zero_le _, rfl, World.ownsRow_nil _ _ _ _, HR0.out, rfl, HW2.out⟩
  case round =>
    obtain ⟨q, gs, rs, e, hq, rfl, hown, hrd, hgr, hbw⟩ := hrel
    have HO := Lib.hid hown; clear hown
    have HR := Lib.hid hrd; clear hrd
    have HG := Lib.hid hgr; clear hgr
    have HB := Lib.hid hbw; clear hbw
    by_cases hlt : q < m
    · obtain ⟨b1, o1, rfl, l1, g1⟩ := HL.out (by omega)
      obtain ⟨g1k, g1n⟩ := g1 q hlt
      have hck := (HB.out.cell (p := ⟨b1, o1 + q * 2, none⟩) l1).trans g1k
      have hcn := (HB.out.cell (p := ⟨b1, o1 + q * 2 + 1, none⟩) l1).trans g1n
      clear g1k g1n g1
      obtain ⟨kq, hkq⟩ : ∃ k, K q = k := ⟨_, rfl⟩
      obtain ⟨nq, hnq⟩ : ∃ k, N q = k := ⟨_, rfl⟩
      rw [hkq] at hck
      rw [hnq] at hcn
      clear hkq hnq
      have HRk : Hid (RdL (wr.alloc (.cells #[.int .i64 kq, .int .i64 nq] 42)) R rs e) := Lib.hid (HR.out.above ((Below.refl _ _).alloc (by have := HR.out.lt; omega) _))
      have HOk : Hid ((wr.alloc (.cells #[.int .i64 kq, .int .i64 nq] 42)).ownsRow (R + 1) 5 1 _ gs.length (By gs)) := Lib.hid (HO.out.alloc _)
      obtain ⟨aG, cG, rfl, hsG, _, hnG, hbG, hcG⟩ := own_view HO.out
      have HSG : Hid (Seen (wr.alloc (.cells #[.int .i64 kq, .int .i64 nq] 42)) aG gs) := Lib.hid (hsG.alloc _)
      have HBk : Hid (Below w.heap.size w (wr.alloc (.cells #[.int .i64 kq, .int .i64 nq] 42))) := Lib.hid (HB.out.alloc (by have := HB.out.size; omega) _)
      have HLen : Hid (gs.length + rs.length = n) := Lib.hid (by rw [← HA.out.len, ← HG.out, List.length_append])
      have HGn : Hid (gs.length ≤ 140737488351232) := Lib.hid (by have := HLen.out; omega)
      have HOkr : Hid (bytesOk rs) := Lib.hid (ok_right (by rw [HG.out]; exact HA.out.ok))
      have HRw2 : Hid (R < wr.heap.size) := Lib.hid HR.out.lt
      clear hsG hnG hbG hcG
      go_upto_block 2 with (go_at_call 26; refine (left_any _ rs e _ HRk.out.at).mono ?_; rintro e1 w' ⟨rfl, rfl⟩)
      go_cut [6] (fun v wc => ∃ (gs' rs' : List Int) (e' : Int), wc.ownsRow (R + 1) 5 1 v gs'.length (By gs') ∧ RdL wc R rs' e' ∧ gs' ++ rs' = xs ∧ (e' ≠ 0 → rs'.length = rs.length) ∧ Below w.heap.size w wc)
      case first =>
        by_cases he : e = 0
        · subst he
          by_cases hk0 : kq = 0
          · subst hk0
            by_cases hsh : rs.length < 1
            · go_wp2_with (first
                | (go_at_call 19; ((with_reducible refine (u8_shortL R rs (wr.alloc (.cells #[.int .i64 0, .int .i64 nq] 42)) HRk.out hsh).mono ?_); rintro e1 w3 ⟨rfl, hb3, hr3⟩; have HR3 := Lib.hid hr3; clear hr3; have HO3 := Lib.hid (own_only HOk.out hb3)))
                | (go_at_call 26; ((with_reducible refine (left_any R rs 7 w3 HR3.out.at).mono ?_); rintro e1 w' ⟨rfl, rfl⟩)))
              go_meet
              case rel => exact ⟨gs, rs, 7, HO3.out, HR3.out, HG.out, fun _ => rfl, HBk.out.trans (hb3.below HRw.out (by have := HBk.out.size; omega))⟩
            · have hge : 1 ≤ rs.length := by omega
              have HTL : Hid ((rs.take 1).length = 1) := Lib.hid (by rw [List.length_take]; omega)
              have HBN : Hid (be 1 (num (rs.take 1)) = rs.take 1) := Lib.hid (be_num 1 _ HTL.out (ok_take HOkr.out 1))
              have HY : Hid (0 ≤ num (rs.take 1) ∧ num (rs.take 1) < 256) := Lib.hid (by simpa using num_bound rs HOkr.out 1 hge)
              have HDL : Hid (((rs.drop 1).length : Int) = (rs.length : Int) - 1) := Lib.hid (by rw [List.length_drop]; omega)
              have HL1 : Hid ((By [num (rs.take 1)]).length = 1 * 1) := Lib.hid rfl
              have HM1 : Hid (gs.length + 1 ≤ maxLen) := Lib.hid (by unfold maxLen; have := HLen.out; omega)
              have HM2 : Hid ((gs.length + 1) * 1 ≤ 140737488355328) := Lib.hid (by have := HLen.out; omega)
              go_wp2_with (first
                | (go_at_call 19; ((with_reducible refine (u8_okL R rs (wr.alloc (.cells #[.int .i64 0, .int .i64 nq] 42)) HRk.out hge HOkr.out).mono ?_); rintro e1 w3 ⟨rfl, hb3, hr3⟩; have HR3 := Lib.hid hr3; clear hr3; have HO3 := Lib.hid (own_only HOk.out hb3); have HR1 : Hid (R + 1 ≤ w3.heap.size) := Lib.hid HR3.out.lt; have HSG3 : Hid (Seen w3 aG gs) := Lib.hid (own_at HO3.out); have HM3 : Hid (R + 1 ≤ (w3.alloc (.cells #[.int .u8 (num (rs.take 1))] 5)).heap.size) := Lib.hid (by simp; have := HR1.out; omega)))
                | (go_at_call 26; ((with_reducible refine (left_any R (rs.drop 1) 0 w3 HR3.out.at).mono ?_); rw [HDL.out]; rintro e1 w' ⟨rfl, rfl⟩))
                | (at_builtin; refine wpList_append_own _ rfl (.tmp 50) (.tmp 52) 22 rfl (R + 1) 5 i0 (.int .u8 0) 1 1 Try.underlying22 HI.out HZ0.out HZ1.out HZ2.out rfl (by decide) _ _ _ rfl (HO3.out.alloc _) ⟨w3.heap.size, 0, none⟩ 1 1 (By [num (rs.take 1)]) rfl HL1.out (one_adds _ _) (By_one _) HM1.out HM2.out HM3.out ?_; intro v' w4 hown' hgrow _; have HO4 := Lib.hid hown'; clear hown'; have HGr := Lib.hid hgrow; clear hgrow))
              have hBg : Below (R + 1) w3 w4 := more HR1.out HO3.out HGr.out
              go_meet
              case rel =>
                refine ⟨gs ++ rs.take 1, rs.drop 1, 0, ?_, HR3.out.above hBg, by rw [List.append_assoc, List.take_append_drop, HG.out], fun h => absurd rfl h, ?_⟩
                · have h := HO4.out
                  rw [num_one HTL.out, show By gs ++ By (rs.take 1) = By (gs ++ rs.take 1) by simp [By], show gs.length + 1 = (gs ++ rs.take 1).length by rw [List.length_append, HTL.out]] at h
                  exact h
                · exact (HBk.out.trans (hb3.below HRw.out (by have := HBk.out.size; omega))).trans (hBg.mono (by have := HRw.out; omega))
          by_cases hk1 : kq = 1
          · subst hk1
            by_cases hsh : rs.length < 2
            · go_wp2_with (first
                | (go_at_call 21; ((with_reducible refine (u16_shortL R rs (wr.alloc (.cells #[.int .i64 1, .int .i64 nq] 42)) HRk.out hsh).mono ?_); rintro e1 w3 ⟨rfl, hb3, hr3⟩; have HR3 := Lib.hid hr3; clear hr3; have HO3 := Lib.hid (own_only HOk.out hb3)))
                | (go_at_call 26; ((with_reducible refine (left_any R rs 7 w3 HR3.out.at).mono ?_); rintro e1 w' ⟨rfl, rfl⟩)))
              go_meet
              case rel => exact ⟨gs, rs, 7, HO3.out, HR3.out, HG.out, fun _ => rfl, HBk.out.trans (hb3.below HRw.out (by have := HBk.out.size; omega))⟩
            · have hge : 2 ≤ rs.length := by omega
              have HTL : Hid ((rs.take 2).length = 2) := Lib.hid (by rw [List.length_take]; omega)
              have HBN : Hid (be 2 (num (rs.take 2)) = rs.take 2) := Lib.hid (be_num 2 _ HTL.out (ok_take HOkr.out 2))
              have HY : Hid (0 ≤ num (rs.take 2) ∧ num (rs.take 2) < 65536) := Lib.hid (by simpa using num_bound rs HOkr.out 2 hge)
              have HDL : Hid (((rs.drop 2).length : Int) = (rs.length : Int) - 2) := Lib.hid (by rw [List.length_drop]; omega)
              have HL1 : Hid ((By [num (rs.take 1)]).length = 1 * 1) := Lib.hid rfl
              have HM1 : Hid (gs.length + 1 ≤ maxLen) := Lib.hid (by unfold maxLen; have := HLen.out; omega)
              have HM2 : Hid ((gs.length + 1) * 1 ≤ 140737488355328) := Lib.hid (by have := HLen.out; omega)
              go_wp2_with (first
                | (go_at_call 21; ((with_reducible refine (u16_okL R rs (wr.alloc (.cells #[.int .i64 1, .int .i64 nq] 42)) HRk.out hge HOkr.out).mono ?_); rintro e1 w3 ⟨rfl, hb3, hr3⟩; have HR3 := Lib.hid hr3; clear hr3; have HO3 := Lib.hid (own_only HOk.out hb3); have HR1 : Hid (R + 1 ≤ w3.heap.size) := Lib.hid HR3.out.lt; have HSG3 : Hid (Seen w3 aG gs) := Lib.hid (own_at HO3.out); have HM3 : Hid (R + 1 ≤ (w3.alloc (.cells #[.int .u8 (num (rs.take 1))] 5)).heap.size) := Lib.hid (by simp; have := HR1.out; omega)))
                | (go_at_call 26; ((with_reducible refine (left_any R (rs.drop 2) 0 w3 HR3.out.at).mono ?_); rw [HDL.out]; rintro e1 w' ⟨rfl, rfl⟩))
                | (go_at_call 13; ((with_reducible refine (put16_any aG gs.length cG (num (rs.take 2)) gs w3 rfl HSG3.out HGn.out HY.out.1 HY.out.2).mono ?_); rintro e1 w4 ⟨rfl, hg4, hb4⟩; have HG4 := Lib.hid hg4; clear hg4)))
              have hBg : Below (R + 1) w3 w4 := hb4.mono HR1.out
              go_meet
              case rel =>
                refine ⟨gs ++ rs.take 2, rs.drop 2, 0, ?_, HR3.out.above hBg, by rw [List.append_assoc, List.take_append_drop, HG.out], fun h => absurd rfl h, ?_⟩
                · have h := HG4.out
                  rw [HBN.out] at h
                  rw [show (gs ++ rs.take 2).length = gs.length + 2 by rw [List.length_append, HTL.out]]
                  exact own_row_n (by rw [List.length_append, HTL.out]) HR1.out (by unfold maxLen; have := HLen.out; omega) h
                · exact (HBk.out.trans (hb3.below HRw.out (by have := HBk.out.size; omega))).trans (hBg.mono (by have := HRw.out; omega))
          by_cases hk2 : kq = 2
          · subst hk2
            by_cases hsh : rs.length < 4
            · go_wp2_with (first
                | (go_at_call 22; ((with_reducible refine (u32_shortL R rs (wr.alloc (.cells #[.int .i64 2, .int .i64 nq] 42)) HRk.out hsh).mono ?_); rintro e1 w3 ⟨rfl, hb3, hr3⟩; have HR3 := Lib.hid hr3; clear hr3; have HO3 := Lib.hid (own_only HOk.out hb3)))
                | (go_at_call 26; ((with_reducible refine (left_any R rs 7 w3 HR3.out.at).mono ?_); rintro e1 w' ⟨rfl, rfl⟩)))
              go_meet
              case rel => exact ⟨gs, rs, 7, HO3.out, HR3.out, HG.out, fun _ => rfl, HBk.out.trans (hb3.below HRw.out (by have := HBk.out.size; omega))⟩
            · have hge : 4 ≤ rs.length := by omega
              have HTL : Hid ((rs.take 4).length = 4) := Lib.hid (by rw [List.length_take]; omega)
              have HBN : Hid (be 4 (num (rs.take 4)) = rs.take 4) := Lib.hid (be_num 4 _ HTL.out (ok_take HOkr.out 4))
              have HY : Hid (0 ≤ num (rs.take 4) ∧ num (rs.take 4) < 4294967296) := Lib.hid (by simpa using num_bound rs HOkr.out 4 hge)
              have HDL : Hid (((rs.drop 4).length : Int) = (rs.length : Int) - 4) := Lib.hid (by rw [List.length_drop]; omega)
              have HL1 : Hid ((By [num (rs.take 1)]).length = 1 * 1) := Lib.hid rfl
              have HM1 : Hid (gs.length + 1 ≤ maxLen) := Lib.hid (by unfold maxLen; have := HLen.out; omega)
              have HM2 : Hid ((gs.length + 1) * 1 ≤ 140737488355328) := Lib.hid (by have := HLen.out; omega)
              go_wp2_with (first
                | (go_at_call 22; ((with_reducible refine (u32_okL R rs (wr.alloc (.cells #[.int .i64 2, .int .i64 nq] 42)) HRk.out hge HOkr.out).mono ?_); rintro e1 w3 ⟨rfl, hb3, hr3⟩; have HR3 := Lib.hid hr3; clear hr3; have HO3 := Lib.hid (own_only HOk.out hb3); have HR1 : Hid (R + 1 ≤ w3.heap.size) := Lib.hid HR3.out.lt; have HSG3 : Hid (Seen w3 aG gs) := Lib.hid (own_at HO3.out); have HM3 : Hid (R + 1 ≤ (w3.alloc (.cells #[.int .u8 (num (rs.take 1))] 5)).heap.size) := Lib.hid (by simp; have := HR1.out; omega)))
                | (go_at_call 26; ((with_reducible refine (left_any R (rs.drop 4) 0 w3 HR3.out.at).mono ?_); rw [HDL.out]; rintro e1 w' ⟨rfl, rfl⟩))
                | (go_at_call 14; ((with_reducible refine (put32_any aG gs.length cG (num (rs.take 4)) gs w3 rfl HSG3.out HGn.out HY.out.1 HY.out.2).mono ?_); rintro e1 w4 ⟨rfl, hg4, hb4⟩; have HG4 := Lib.hid hg4; clear hg4)))
              have hBg : Below (R + 1) w3 w4 := hb4.mono HR1.out
              go_meet
              case rel =>
                refine ⟨gs ++ rs.take 4, rs.drop 4, 0, ?_, HR3.out.above hBg, by rw [List.append_assoc, List.take_append_drop, HG.out], fun h => absurd rfl h, ?_⟩
                · have h := HG4.out
                  rw [HBN.out] at h
                  rw [show (gs ++ rs.take 4).length = gs.length + 4 by rw [List.length_append, HTL.out]]
                  exact own_row_n (by rw [List.length_append, HTL.out]) HR1.out (by unfold maxLen; have := HLen.out; omega) h
                · exact (HBk.out.trans (hb3.below HRw.out (by have := HBk.out.size; omega))).trans (hBg.mono (by have := HRw.out; omega))
          by_cases hk3 : kq = 3
          · subst hk3
            by_cases hsh : rs.length < 8
            · go_wp2_with (first
                | (go_at_call 23; ((with_reducible refine (u64_shortL R rs (wr.alloc (.cells #[.int .i64 3, .int .i64 nq] 42)) HRk.out hsh).mono ?_); rintro e1 w3 ⟨rfl, hb3, hr3⟩; have HR3 := Lib.hid hr3; clear hr3; have HO3 := Lib.hid (own_only HOk.out hb3)))
                | (go_at_call 26; ((with_reducible refine (left_any R rs 7 w3 HR3.out.at).mono ?_); rintro e1 w' ⟨rfl, rfl⟩)))
              go_meet
              case rel => exact ⟨gs, rs, 7, HO3.out, HR3.out, HG.out, fun _ => rfl, HBk.out.trans (hb3.below HRw.out (by have := HBk.out.size; omega))⟩
            · have hge : 8 ≤ rs.length := by omega
              have HTL : Hid ((rs.take 8).length = 8) := Lib.hid (by rw [List.length_take]; omega)
              have HBN : Hid (be 8 (num (rs.take 8)) = rs.take 8) := Lib.hid (be_num 8 _ HTL.out (ok_take HOkr.out 8))
              have HY : Hid (0 ≤ num (rs.take 8) ∧ num (rs.take 8) < 18446744073709551616) := Lib.hid (by simpa using num_bound rs HOkr.out 8 hge)
              have HDL : Hid (((rs.drop 8).length : Int) = (rs.length : Int) - 8) := Lib.hid (by rw [List.length_drop]; omega)
              have HL1 : Hid ((By [num (rs.take 1)]).length = 1 * 1) := Lib.hid rfl
              have HM1 : Hid (gs.length + 1 ≤ maxLen) := Lib.hid (by unfold maxLen; have := HLen.out; omega)
              have HM2 : Hid ((gs.length + 1) * 1 ≤ 140737488355328) := Lib.hid (by have := HLen.out; omega)
              go_wp2_with (first
                | (go_at_call 23; ((with_reducible refine (u64_okL R rs (wr.alloc (.cells #[.int .i64 3, .int .i64 nq] 42)) HRk.out hge HOkr.out).mono ?_); rintro e1 w3 ⟨rfl, hb3, hr3⟩; have HR3 := Lib.hid hr3; clear hr3; have HO3 := Lib.hid (own_only HOk.out hb3); have HR1 : Hid (R + 1 ≤ w3.heap.size) := Lib.hid HR3.out.lt; have HSG3 : Hid (Seen w3 aG gs) := Lib.hid (own_at HO3.out); have HM3 : Hid (R + 1 ≤ (w3.alloc (.cells #[.int .u8 (num (rs.take 1))] 5)).heap.size) := Lib.hid (by simp; have := HR1.out; omega)))
                | (go_at_call 26; ((with_reducible refine (left_any R (rs.drop 8) 0 w3 HR3.out.at).mono ?_); rw [HDL.out]; rintro e1 w' ⟨rfl, rfl⟩))
                | (go_at_call 15; ((with_reducible refine (put64_any aG gs.length cG (num (rs.take 8)) gs w3 rfl HSG3.out HGn.out HY.out.1 HY.out.2).mono ?_); rintro e1 w4 ⟨rfl, hg4, hb4⟩; have HG4 := Lib.hid hg4; clear hg4)))
              have hBg : Below (R + 1) w3 w4 := hb4.mono HR1.out
              go_meet
              case rel =>
                refine ⟨gs ++ rs.take 8, rs.drop 8, 0, ?_, HR3.out.above hBg, by rw [List.append_assoc, List.take_append_drop, HG.out], fun h => absurd rfl h, ?_⟩
                · have h := HG4.out
                  rw [HBN.out] at h
                  rw [show (gs ++ rs.take 8).length = gs.length + 8 by rw [List.length_append, HTL.out]]
                  exact own_row_n (by rw [List.length_append, HTL.out]) HR1.out (by unfold maxLen; have := HLen.out; omega) h
                · exact (HBk.out.trans (hb3.below HRw.out (by have := HBk.out.size; omega))).trans (hBg.mono (by have := HRw.out; omega))
          by_cases hneg : nq < 0
          · go_wp2_with (first
              | (go_at_call 24; ((with_reducible refine (raw_arg R nq rs (wr.alloc (.cells #[.int .i64 kq, .int .i64 nq] 42)) HRk.out hneg).mono ?_); rintro e1 w3 ⟨rfl, hb3, hr3⟩; have HR3 := Lib.hid hr3; clear hr3; have HO3 := Lib.hid (own_only HOk.out hb3)))
              | (at_builtin; refine wpList_append_own_none rfl (.tmp 36) (.tmp 40) 22 rfl (R + 1) 5 i0 1 Try.underlying22 HI.out _ gs.length (By gs) rfl HO3.out rfl ?_))
            go_meet
            case rel => exact ⟨gs, rs, 2, HO3.out, HR3.out, HG.out, fun _ => rfl, HBk.out.trans (hb3.below HRw.out (by have := HBk.out.size; omega))⟩
          · by_cases hsh : (rs.length : Int) < nq
            · go_wp2_with (first
                | (go_at_call 24; ((with_reducible refine (raw_short R nq rs (wr.alloc (.cells #[.int .i64 kq, .int .i64 nq] 42)) HRk.out (by omega) hsh).mono ?_); rintro e1 w3 ⟨rfl, hb3, hr3⟩; have HR3 := Lib.hid hr3; clear hr3; have HO3 := Lib.hid (own_only HOk.out hb3)))
                | (at_builtin; refine wpList_append_own_none rfl (.tmp 36) (.tmp 40) 22 rfl (R + 1) 5 i0 1 Try.underlying22 HI.out _ gs.length (By gs) rfl HO3.out rfl ?_))
              go_meet
              case rel => exact ⟨gs, rs, 7, HO3.out, HR3.out, HG.out, fun _ => rfl, HBk.out.trans (hb3.below HRw.out (by have := HBk.out.size; omega))⟩
            · obtain ⟨kk, rfl⟩ : ∃ kk : Nat, nq = (kk : Int) := ⟨nq.toNat, by omega⟩
              have hge : kk ≤ rs.length := by omega
              have HTL : Hid ((rs.take kk).length = kk) := Lib.hid (by rw [List.length_take]; omega)
              have HL1 : Hid ((By (rs.take kk)).length = kk * 1) := Lib.hid (by rw [By_length, HTL.out, Nat.mul_one])
              have HM1 : Hid (gs.length + kk ≤ maxLen) := Lib.hid (by unfold maxLen; have := HLen.out; omega)
              have HM2 : Hid ((gs.length + kk) * 1 ≤ 140737488355328) := Lib.hid (by have := HLen.out; omega)
              have HMk : Hid (kk ≤ 140737488351232) := Lib.hid (by have := HLen.out; omega)
              go_wp2_with (first
                | (go_at_call 24; ((with_reducible refine (raw_at R kk rs kq (kk : Int) wr HRk.out hge HMk.out).mono ?_); rintro e1 w3 ⟨rfl, hg3, hb3, hr3⟩; have HR3 := Lib.hid hr3; clear hr3; have HG3 := Lib.hid hg3; clear hg3; have HO3 := Lib.hid (own_only HOk.out hb3); have HR1 : Hid (R + 1 ≤ w3.heap.size) := Lib.hid HR3.out.lt))
                | (at_builtin; refine wpList_append_own _ rfl (.tmp 36) (.tmp 40) 22 rfl (R + 1) 5 i0 (.int .u8 0) 1 1 Try.underlying22 HI.out HZ0.out HZ1.out HZ2.out rfl (by decide) _ _ _ rfl HO3.out ⟨wr.heap.size + 1 + 1, 0, none⟩ kk kk (By (rs.take kk)) rfl HL1.out (row_addsN HG3.out) (By_one _) HM1.out HM2.out HR1.out ?_; intro v' w4 hown' hgrow _; have HO4 := Lib.hid hown'; clear hown'; have HGr := Lib.hid hgrow; clear hgrow))
              have hBg : Below (R + 1) w3 w4 := (Below.refl _ _).grown HGr.out HR1.out (fun j hj => (HO3.out.lt j hj).1)
              go_meet
              case rel =>
                refine ⟨gs ++ rs.take kk, rs.drop kk, 0, ?_, HR3.out.above hBg, by rw [List.append_assoc, List.take_append_drop, HG.out], fun h => absurd rfl h, ?_⟩
                · have h := HO4.out
                  rw [show By gs ++ By (rs.take kk) = By (gs ++ rs.take kk) by simp [By], show gs.length + kk = (gs ++ rs.take kk).length by rw [List.length_append, HTL.out]] at h
                  exact h
                · exact (HBk.out.trans (hb3.below HRw.out (by have := HBk.out.size; omega))).trans (hBg.mono (by have := HRw.out; omega))
        · have heb : (e != 0) = true := by simpa using he
          have HE : Hid (e ≠ 0) := Lib.hid he
          clear he
          by_cases hk0 : kq = 0
          · subst hk0
            go_wp2_with (first
              | (go_at_call 19; ((with_reducible refine (u8_refuses R e rs (wr.alloc (.cells #[.int .i64 0, .int .i64 nq] 42)) HRk.out.at heb).mono ?_); rintro e1 w3 ⟨rfl, hb3⟩; have HR3 := Lib.hid (HRk.out.above (hb3.mono (by have := HRk.out.lt; omega))); have HO3 := Lib.hid (own_below HOk.out hb3)))
              | (go_at_call 26; ((with_reducible refine (left_any R rs e w3 HR3.out.at).mono ?_); rintro e1 w' ⟨rfl, rfl⟩)))
            go_meet
            case rel => exact ⟨gs, rs, e, HO3.out, HR3.out, HG.out, fun _ => rfl, HBk.out.trans (hb3.mono HBk.out.size)⟩
          by_cases hk1 : kq = 1
          · subst hk1
            go_wp2_with (first
              | (go_at_call 21; ((with_reducible refine (u16_refuses R e rs (wr.alloc (.cells #[.int .i64 1, .int .i64 nq] 42)) HRk.out.at heb).mono ?_); rintro e1 w3 ⟨rfl, hb3⟩; have HR3 := Lib.hid (HRk.out.above (hb3.mono (by have := HRk.out.lt; omega))); have HO3 := Lib.hid (own_below HOk.out hb3)))
              | (go_at_call 26; ((with_reducible refine (left_any R rs e w3 HR3.out.at).mono ?_); rintro e1 w' ⟨rfl, rfl⟩)))
            go_meet
            case rel => exact ⟨gs, rs, e, HO3.out, HR3.out, HG.out, fun _ => rfl, HBk.out.trans (hb3.mono HBk.out.size)⟩
          by_cases hk2 : kq = 2
          · subst hk2
            go_wp2_with (first
              | (go_at_call 22; ((with_reducible refine (u32_refuses R e rs (wr.alloc (.cells #[.int .i64 2, .int .i64 nq] 42)) HRk.out.at heb).mono ?_); rintro e1 w3 ⟨rfl, hb3⟩; have HR3 := Lib.hid (HRk.out.above (hb3.mono (by have := HRk.out.lt; omega))); have HO3 := Lib.hid (own_below HOk.out hb3)))
              | (go_at_call 26; ((with_reducible refine (left_any R rs e w3 HR3.out.at).mono ?_); rintro e1 w' ⟨rfl, rfl⟩)))
            go_meet
            case rel => exact ⟨gs, rs, e, HO3.out, HR3.out, HG.out, fun _ => rfl, HBk.out.trans (hb3.mono HBk.out.size)⟩
          by_cases hk3 : kq = 3
          · subst hk3
            go_wp2_with (first
              | (go_at_call 23; ((with_reducible refine (u64_refuses R e rs (wr.alloc (.cells #[.int .i64 3, .int .i64 nq] 42)) HRk.out.at heb).mono ?_); rintro e1 w3 ⟨rfl, hb3⟩; have HR3 := Lib.hid (HRk.out.above (hb3.mono (by have := HRk.out.lt; omega))); have HO3 := Lib.hid (own_below HOk.out hb3)))
              | (go_at_call 26; ((with_reducible refine (left_any R rs e w3 HR3.out.at).mono ?_); rintro e1 w' ⟨rfl, rfl⟩)))
            go_meet
            case rel => exact ⟨gs, rs, e, HO3.out, HR3.out, HG.out, fun _ => rfl, HBk.out.trans (hb3.mono HBk.out.size)⟩
          go_wp2_with (first
            | (go_at_call 24; ((with_reducible refine (raw_refuses R nq e rs (wr.alloc (.cells #[.int .i64 kq, .int .i64 nq] 42)) HRk.out heb).mono ?_); rintro e1 w3 ⟨rfl, hb3⟩; have HR3 := Lib.hid (HRk.out.above (hb3.mono (by have := HRk.out.lt; omega))); have HO3 := Lib.hid (own_below HOk.out hb3)))
            | (at_builtin; refine wpList_append_own_none rfl (.tmp 36) (.tmp 40) 22 rfl (R + 1) 5 i0 1 Try.underlying22 HI.out _ gs.length (By gs) rfl HO3.out rfl ?_))
          go_meet
          case rel => exact ⟨gs, rs, e, HO3.out, HR3.out, HG.out, fun _ => rfl, HBk.out.trans (hb3.mono HBk.out.size)⟩
      case rest =>
        obtain ⟨gs', rs', e', hown, hrd, hgr, hle, hbw⟩ := hcut
        obtain ⟨aV, cV, rfl, hsV, hcV, hnV⟩ := own_seenC hown
        have HOc := Lib.hid hown; clear hown
        have HRc := Lib.hid hrd; clear hrd
        have HGc := Lib.hid hgr; clear hgr
        have HBc := Lib.hid hbw; clear hbw
        have HLc : Hid (gs'.length + rs'.length = n) := Lib.hid (by rw [← HA.out.len, ← HGc.out, List.length_append])
        have HI5 : Hid (InB wc aV gs'.length cV gs') := Lib.hid ⟨rfl, hsV, hcV, ok_left (by rw [HGc.out]; exact HA.out.ok), fun h => by have h2 := hnV h; exact ⟨by omega, h2⟩⟩
        clear hsV hcV hnV
        have HLr : Hid (rs'.length ≤ 140737488351232) := Lib.hid (by have := HLc.out; omega)
        have HLg : Hid (gs'.length ≤ 140737488351232) := Lib.hid (by have := HLc.out; omega)
        have HM1 : Hid (gs'.length + rs'.length ≤ maxLen) := Lib.hid (by unfold maxLen; have := HLc.out; omega)
        have HM2 : Hid ((gs'.length + rs'.length) * 1 ≤ 140737488355328) := Lib.hid (by have := HLc.out; omega)
        have HLR : Hid ((By rs').length = rs'.length * 1) := Lib.hid (by rw [By_length, Nat.mul_one])
        have HS : Hid (same (gs' ++ rs') xs = true) := Lib.hid (by simp [same, HGc.out])
        have HLgr : Hid ((gs' ++ rs').length = gs'.length + rs'.length) := Lib.hid List.length_append
        have HOgr : Hid (bytesOk (gs' ++ rs')) := Lib.hid (by rw [HGc.out]; exact HA.out.ok)
        have HRc1 : Hid (R + 1 ≤ wc.heap.size) := Lib.hid HRc.out.lt
        by_cases he : e' = 0
        · subst he
          go_wp2_with (first
            | (go_at_call 29; ((with_reducible refine (clone_any aV gs'.length cV gs' wc HI5.out HLg.out).mono ?_); rintro e1 w4 ⟨⟨v4, rfl, ho4⟩, hb4⟩; have HO4 := Lib.hid ho4; clear ho4; have HR4 := Lib.hid (HRc.out.above (hb4.mono HRc1.out)); have HOv4 := Lib.hid (own_below HOc.out hb4); have HS4 : Hid (wc.heap.size ≤ w4.heap.size) := Lib.hid hb4.size))
            | (go_at_call 25; ((with_reducible refine (rest_any R rs' 0 w4 HR4.out.at HLr.out).mono ?_); rintro e1 w5 ⟨⟨g5, rfl, hg5, hr5⟩, hb5⟩; have HG5 := Lib.hid hr5; clear hr5; have HO5 := Lib.hid (own_below HO4.out hb5); have HR5 := Lib.hid (HR4.out.above (hb5.mono HR4.out.lt)); have HOv5 := Lib.hid (own_below HOv4.out hb5); have HS5 : Hid (wc.heap.size ≤ w5.heap.size) := Lib.hid (Nat.le_trans HS4.out hb5.size)))
            | (at_builtin; refine wpList_append_own _ rfl (.tmp 88) (.tmp 90) 22 rfl wc.heap.size 5 i0 (.int .u8 0) 1 1 Try.underlying22 HI.out HZ0.out HZ1.out HZ2.out rfl (by decide) _ gs'.length (By gs') rfl HO5.out ⟨g5, 0, none⟩ rs'.length rs'.length (By rs') rfl HLR.out (row_addsN HG5.out) (By_one _) HM1.out HM2.out HS5.out ?_; intro v6 w6 hown' hgrow _; have HGr := Lib.hid hgrow; clear hgrow; rw [By_append2] at hown'; obtain ⟨a6, c6, hv6, hs6, hc6, hn6⟩ := own_seenC hown'; subst hv6; have H6 := Lib.hid hs6; clear hs6 hown'; have HN6 : Hid (a6 = none → gs'.length + rs'.length = 0) := Lib.hid (fun h => by have := hn6 h; omega); clear hn6; have HB56 : Hid (Below wc.heap.size w5 w6) := Lib.hid ((Below.refl _ _).grown HGr.out HS5.out (fun j hj => (HO5.out.lt j hj).1)); have HR6 := Lib.hid (HR5.out.above (HB56.out.mono HRc1.out)); have HB46 : Hid (Below wc.heap.size wc w6) := Lib.hid (((hb4).trans (hb5.mono HS4.out)).trans HB56.out); have HOv6 := Lib.hid (own_below HOc.out HB46.out); have HA6 : Hid (InB w6 a n c xs) := Lib.hid (HA.out.later (HBc.out.trans (HB46.out.mono HBc.out.size))))
            | (go_at_call 28; ((with_reducible refine (bytesEqual_any a6 a (gs'.length + rs'.length) n c6 c (gs' ++ rs') xs w6 HLgr.out HA6.out.len H6.out HA6.out.seen HOgr.out HA6.out.ok HN6.out (fun h => (HA6.out.nil h).1)).mono ?_); rw [HS.out]; rintro e1 w' ⟨rfl, rfl⟩))
            | (go_at_call 27; ((with_reducible refine (err_any R rs' 0 w6 HR6.out.at).mono ?_); rintro e1 w' ⟨rfl, rfl⟩))
            | (go_at_call 26; ((with_reducible refine (left_any R rs' 0 w6 HR6.out.at).mono ?_);  rintro e1 w' ⟨rfl, rfl⟩)))
          go_roundw
          case rel => exact ⟨q + 1, gs', rs', 0, by omega, by go_num, HOv6.out, HR6.out, HGc.out, HBc.out.trans (HB46.out.mono HBc.out.size)⟩
          case measure => simp [intOf]; omega
        · have heb : (e' != 0) = true := by simpa using he
          have HE := Lib.hid (hle he)
          have HEc : Hid ((rs'.length : Int) = (rs.length : Int)) := Lib.hid (by rw [HE.out])
          clear hle he
          go_wp2_with (first
            | (go_at_call 29; ((with_reducible refine (clone_any aV gs'.length cV gs' wc HI5.out HLg.out).mono ?_); rintro e1 w4 ⟨⟨v4, rfl, ho4⟩, hb4⟩; have HO4 := Lib.hid ho4; clear ho4; have HR4 := Lib.hid (HRc.out.above (hb4.mono HRc1.out)); have HOv4 := Lib.hid (own_below HOc.out hb4); have HS4 : Hid (wc.heap.size ≤ w4.heap.size) := Lib.hid hb4.size))
            | (go_at_call 25; ((with_reducible refine (rest_any R rs' e' w4 HR4.out.at HLr.out).mono ?_); rintro e1 w5 ⟨⟨g5, rfl, hg5, hr5⟩, hb5⟩; have HG5 := Lib.hid hr5; clear hr5; have HO5 := Lib.hid (own_below HO4.out hb5); have HR5 := Lib.hid (HR4.out.above (hb5.mono HR4.out.lt)); have HOv5 := Lib.hid (own_below HOv4.out hb5); have HS5 : Hid (wc.heap.size ≤ w5.heap.size) := Lib.hid (Nat.le_trans HS4.out hb5.size)))
            | (at_builtin; refine wpList_append_own _ rfl (.tmp 88) (.tmp 90) 22 rfl wc.heap.size 5 i0 (.int .u8 0) 1 1 Try.underlying22 HI.out HZ0.out HZ1.out HZ2.out rfl (by decide) _ gs'.length (By gs') rfl HO5.out ⟨g5, 0, none⟩ rs'.length rs'.length (By rs') rfl HLR.out (row_addsN HG5.out) (By_one _) HM1.out HM2.out HS5.out ?_; intro v6 w6 hown' hgrow _; have HGr := Lib.hid hgrow; clear hgrow; rw [By_append2] at hown'; obtain ⟨a6, c6, hv6, hs6, hc6, hn6⟩ := own_seenC hown'; subst hv6; have H6 := Lib.hid hs6; clear hs6 hown'; have HN6 : Hid (a6 = none → gs'.length + rs'.length = 0) := Lib.hid (fun h => by have := hn6 h; omega); clear hn6; have HB56 : Hid (Below wc.heap.size w5 w6) := Lib.hid ((Below.refl _ _).grown HGr.out HS5.out (fun j hj => (HO5.out.lt j hj).1)); have HR6 := Lib.hid (HR5.out.above (HB56.out.mono HRc1.out)); have HB46 : Hid (Below wc.heap.size wc w6) := Lib.hid (((hb4).trans (hb5.mono HS4.out)).trans HB56.out); have HOv6 := Lib.hid (own_below HOc.out HB46.out); have HA6 : Hid (InB w6 a n c xs) := Lib.hid (HA.out.later (HBc.out.trans (HB46.out.mono HBc.out.size))))
            | (go_at_call 28; ((with_reducible refine (bytesEqual_any a6 a (gs'.length + rs'.length) n c6 c (gs' ++ rs') xs w6 HLgr.out HA6.out.len H6.out HA6.out.seen HOgr.out HA6.out.ok HN6.out (fun h => (HA6.out.nil h).1)).mono ?_); rw [HS.out]; rintro e1 w' ⟨rfl, rfl⟩))
            | (go_at_call 27; ((with_reducible refine (err_any R rs' e' w6 HR6.out.at).mono ?_); rintro e1 w' ⟨rfl, rfl⟩))
            | (go_at_call 26; ((with_reducible refine (left_any R rs' e' w6 HR6.out.at).mono ?_); rw [HEc.out]; rintro e1 w' ⟨rfl, rfl⟩)))
          go_roundw
          case rel => exact ⟨q + 1, gs', rs', e', by omega, by go_num, HOv6.out, HR6.out, HGc.out, HBc.out.trans (HB46.out.mono HBc.out.size)⟩
          case measure => simp [intOf]; omega
    · go_wp2
      go_ret
      exact ⟨rfl, HB.out⟩

end Go.Proofs.Ytngnhieddblnmaa
