/-
  The walk of 'JobMore' (P25.5).
-/
import Derived.Test.YtdepolfmibhojaaTop
import Derived.Deep.CutRange
import Derived.Deep.CutBlock
import Derived.Deep.DeepCutAuto
namespace Go.Proofs.Ytdepolfmibhojaa
open Go.ChangeShapes Go.WideShapes Go.ChangeAt Go.RowKit
set_option linter.unusedVariables false

/-- What came in, number by number. -/
def Nums (w : World) (a : Option Addr) (m : Nat) (K : Nat → Int) : Prop :=
  0 < m → ∃ b o, a = some ⟨b, o, none⟩ ∧ b < w.heap.size ∧ ∀ i, i < m → w.cell? ⟨b, o + i, none⟩ = some (.int .i64 (K i))
theorem block_setCell {w : World} {b : Nat} {cs : Array Value} {t : TypeId} (h : w.heap[b]? = some (.cells cs t (0, 0))) (o : Nat) (u : Value) : (w.setCell ⟨b, o, none⟩ u).heap[b]? = some (.cells (cs.setIfInBounds o u) t (0, 0)) := by
  have hlt := lt_of_block h
  have h' : w.heap[b] = .cells cs t (0, 0) := by simpa [Array.getElem?_eq_getElem hlt] using h
  show (w.heap.modify b _)[b]? = _
  rw [Array.getElem?_eq_getElem (by simpa using hlt), Array.getElem_modify_self, h']
  rfl

def num (xs : List Int) : Int := xs.foldl (fun x b => x * 256 + b) 0
def J3 (w : World) (b : Nat) (x y z : Int) : Prop := w.heap[b]? = some (.cells #[.int .i64 x, .int .i64 y, .int .i64 z] 23 (0, 0))
theorem J3.cells {w : World} {b : Nat} {x y z : Int} (h : J3 w b x y z) : (w.cell? ⟨b, 0, none⟩ = some (.int .i64 x) ∧ w.cell? ⟨b, 1, none⟩ = some (.int .i64 y) ∧ w.cell? ⟨b, 2, none⟩ = some (.int .i64 z)) ∧ (w.frozen? ⟨b, 0, none⟩ = false ∧ w.frozen? ⟨b, 1, none⟩ = false ∧ w.frozen? ⟨b, 2, none⟩ = false) := by
  unfold J3 at h
  simp [World.cell?, World.frozen?, h]
theorem J3.alloc {w : World} {b : Nat} {x y z : Int} (h : J3 w b x y z) (o : Obj) : J3 (w.alloc o) b x y z := ((Below.refl w.heap.size w).alloc (Nat.le_refl _) o).block b (lt_of_block h) |>.trans h
theorem J3.lt {w : World} {b : Nat} {x y z : Int} (h : J3 w b x y z) : b < w.heap.size := lt_of_block h
theorem J3.later {w w1 : World} {b : Nat} {x y z : Int} (h : J3 w b x y z) (hb : Below w.heap.size w w1) : J3 w1 b x y z := (hb.block b h.lt).trans h
theorem J3.new (w : World) (x y z : Int) : J3 (w.alloc (.cells #[.int .i64 x, .int .i64 y, .int .i64 z] 23)) w.heap.size x y z := heap_alloc_new _ _
theorem J3.set {w : World} {b : Nat} {x y z x' y' z' : Int} (h : J3 w b x y z) : J3 (((w.setCell ⟨b, 0, none⟩ (.int .i64 x')).setCell ⟨b, 1, none⟩ (.int .i64 y')).setCell ⟨b, 2, none⟩ (.int .i64 z')) b x' y' z' := by
  unfold J3 at h ⊢
  rw [block_setCell (block_setCell (block_setCell h 0 _) 1 _)]
  simp
theorem J3.other {w : World} {b k o : Nat} {x y z : Int} {v : Value} (h : J3 w b x y z) (hk : k ≠ b) : J3 (w.setCell ⟨k, o, none⟩ v) b x y z := by
  unfold J3 at h ⊢
  rw [Below.heap_setCell _ _ _ _ (by simpa using hk.symm)]; exact h

theorem cells3a {v0 v1 v2 : Value} {b : Nat} {o : Obj} {w w1 : World} (hb : Below (w.alloc o).heap.size (w.alloc o) w1) (h : (w.cell? ⟨b, 0, none⟩ = some v0 ∧ w.cell? ⟨b, 1, none⟩ = some v1 ∧ w.cell? ⟨b, 2, none⟩ = some v2) ∧ (w.frozen? ⟨b, 0, none⟩ = false ∧ w.frozen? ⟨b, 1, none⟩ = false ∧ w.frozen? ⟨b, 2, none⟩ = false)) :
    (w1.cell? ⟨b, 0, none⟩ = some v0 ∧ w1.cell? ⟨b, 1, none⟩ = some v1 ∧ w1.cell? ⟨b, 2, none⟩ = some v2) ∧ (w1.frozen? ⟨b, 0, none⟩ = false ∧ w1.frozen? ⟨b, 1, none⟩ = false ∧ w1.frozen? ⟨b, 2, none⟩ = false) :=
  cells3 hb (cells3 ((Below.refl _ _).alloc (Nat.le_refl _) _) h)
theorem right_step {s f m h : Int} (hr : rightB s f m = true) (he : doE s f m h = 0) : rightB (stepS f m h) (stepF f m h) m = true := by
  obtain ⟨p0, p1, p2, p3, p4, p5, p6⟩ := right_true hr
  have hh : 1 ≤ h ∧ h ≤ 9 := by
    simp only [doE, hr, if_true] at he
    split at he
    · assumption
    · cases he
  have ha : 1 ≤ stepS f m h ∧ stepS f m h ≤ 7 := by unfold stepS st0; repeat (first | omega | split)
  have hb : 0 ≤ stepF f m h ∧ stepF f m h ≤ m := by unfold stepF; split <;> omega
  unfold rightB
  rw [decide_eq_true_iff]
  refine ⟨by omega, by omega, p2, p3, by omega, by omega, by omega⟩
theorem step_same {f m h : Int} (h0 : ¬ (h = 3 ∧ f = m)) (hf : f ≤ m) : stepS f (m + 1) h = stepS f m h ∧ stepF f (m + 1) h = stepF f m h := by
  unfold stepS stepF
  by_cases h3 : h = 3
  · subst h3
    have : ¬ f = m := fun hh => h0 ⟨rfl, hh⟩
    have h2 : ¬ f = m + 1 := by omega
    simp [this, h2]
  · simp [h3]
theorem doE_more {s f m h : Int} (h1 : rightB s f m = true) (h2 : rightB s f (m + 1) = true) : doE s f (m + 1) h = doE s f m h := by simp only [doE, h1, h2]

theorem Do_err (s f m h e : Int) (he : doE s f m h = e) (h0 : ¬ e = 0) (w : World) :
    Calls Try.prog 9 #[.agg #[.int .i64 s, .int .i64 f, .int .i64 m], .int .i64 h] w fun e' w' => e' = .returned (.tuple #[.agg #[.int .i64 0, .int .i64 0, .int .i64 0], .int .i64 e]) ∧ Below w.heap.size w w' := by
  have := Do_any s f m h w
  rwa [res_err he h0] at this
theorem Do_ok (s f m h a b : Int) (he : doE s f m h = 0) (ha : stepS f m h = a) (hb : stepF f m h = b) (w : World) :
    Calls Try.prog 9 #[.agg #[.int .i64 s, .int .i64 f, .int .i64 m], .int .i64 h] w fun e' w' => e' = .returned (.tuple #[.agg #[.int .i64 a, .int .i64 b, .int .i64 m], .int .i64 0]) ∧ Below w.heap.size w w' := by
  have := Do_any s f m h w
  rwa [res_ok he, ha, hb] at this

set_option maxHeartbeats 4000000 in
set_option maxRecDepth 100000 in
theorem more_main (n : Int) (a : Option Addr) (m lc : Nat) (K : Nat → Int) (w : World) (hl : Nums w a m K) (hm : m ≤ 9223372036854775807) :
    Calls Try.prog 7 #[.int .i64 n, .slice a m lc] w fun e w' => e = .returned (.bool true) ∧ Below w.heap.size w w' := by
  have HL := Lib.hid hl; clear hl
  go_enter Try.func7, Try.ntmps7
  go_upto_region 3 with (go_at_call 8; refine (wakes_any _).mono ?_; rintro e w1 ⟨rfl, hb1⟩)
  go_cut [0] (fun v wc => ∃ mo : Int, 0 ≤ mo ∧ mo ≤ 7 ∧ v = .int .i64 mo ∧ wc = w1)
  case first =>
    by_cases hn : n < 0
    · go_wp2
      go_meet
      case rel => exact ⟨_, by omega, by omega, rfl, rfl⟩
    · go_wp2
      go_meet
      case rel => exact ⟨_, by omega, by omega, rfl, rfl⟩
  case rest =>
    obtain ⟨mo, hm0, hm1, rfl, rfl⟩ := hcut
    have R1 : Hid (rightB 0 0 mo = true) := Lib.hid (by unfold rightB; rw [decide_eq_true_iff]; omega)
    have R2 : Hid (rightB 0 0 (mo + 1) = true) := Lib.hid (by unfold rightB; rw [decide_eq_true_iff]; omega)
    go_wp2_with (first
      | (go_at_call 17; ((with_reducible refine (new_ok mo _ R1.out).mono ?_); rintro e2 w2 ⟨rfl, hb2⟩))
      | (go_at_call 17; ((with_reducible refine (new_ok (mo + 1) _ R2.out).mono ?_); rintro e3 w3 ⟨rfl, hb3⟩)))
    have HJA : Hid (J3 w3 w2.heap.size 0 0 mo) := Lib.hid ((J3.new w2 0 0 mo).later hb3)
    have y3 : Below w.heap.size w w3 := alloc_trans (hb1.trans (hb2.mono hb1.size)) hb3
    have HLT : Hid (w2.heap.size < w3.heap.size) := Lib.hid HJA.out.lt
    have HLW : Hid (w.heap.size ≤ w2.heap.size) := Lib.hid (Nat.le_trans hb1.size hb2.size)
    have HJA' : Hid (J3 (w3.alloc (.cells #[.int .i64 0, .int .i64 0, .int .i64 (mo + 1)] 23)) w2.heap.size 0 0 mo) := Lib.hid (HJA.out.later ((Below.refl _ _).alloc (Nat.le_refl _) _))
    have HJB' : Hid (J3 (w3.alloc (.cells #[.int .i64 0, .int .i64 0, .int .i64 (mo + 1)] 23)) w3.heap.size 0 0 (mo + 1)) := Lib.hid (J3.new w3 0 0 (mo + 1))
    have HW3 : Hid (Below w.heap.size w (w3.alloc (.cells #[.int .i64 0, .int .i64 0, .int .i64 (mo + 1)] 23))) := Lib.hid (y3.alloc y3.size _)
    clear hb1 hb2 hb3 y3
    generalize w3.alloc (.cells #[.int .i64 0, .int .i64 0, .int .i64 (mo + 1)] 23) = W at HJA' HJB' HW3 ⊢
    clear HJA
    have HLB : Hid (w.heap.size ≤ w3.heap.size) := Lib.hid (by have := HLW.out; have := HLT.out; omega)
    generalize w2.heap.size = A at HLT HLW HJA' ⊢
    generalize w3.heap.size = B at HLT HLB HJB' ⊢
    go_loopw [39] (fun i wr => ∃ (k : Nat) (s f : Int), k ≤ m ∧ i = .int .i64 k ∧ J3 wr A s f mo ∧ J3 wr B s f (mo + 1) ∧ rightB s f mo = true ∧ rightB s f (mo + 1) = true ∧ Below w.heap.size w wr) (fun i _ => m - (intOf i).toNat)
    case atStart => exact ⟨0, 0, 0, Nat.zero_le _, rfl, HJA'.out, HJB'.out, R1.out, R2.out, HW3.out⟩
    case round =>
      obtain ⟨k, s, f, hk, rfl, ha, hb, hr1, hr2, hbw⟩ := hrel
      have HA := Lib.hid ha
      have HB := Lib.hid hb
      have HR1 := Lib.hid hr1
      have HR2 := Lib.hid hr2
      have HW := Lib.hid hbw
      have hlt0 := HLT.out
      have hBl := HB.out.lt
      have hne1 : A ≠ B := by omega
      have hne2 : B ≠ A := by omega
      obtain ⟨⟨a0, a1, a2⟩, af0, af1, af2⟩ := ha.cells
      obtain ⟨⟨b0, b1, b2⟩, bf0, bf1, bf2⟩ := hb.cells
      clear ha hb hr1 hr2 hbw
      by_cases hlt : k < m
      · obtain ⟨b', o', rfl, l1, g1⟩ := HL.out (by omega)
        have hck := (HW.out.cell (p := ⟨b', o' + k, none⟩) l1).trans (g1 k hlt)
        clear g1
        obtain ⟨h, hh⟩ : ∃ h, K k = h := ⟨_, rfl⟩
        rw [hh] at hck
        clear hh
        by_cases h60 : k = 60
        · subst h60
          go_wp2
          go_ret
          exact ⟨by simp, HW.out⟩
        · have h60' : ((k : Int) == 60) = false := by simp; omega
          by_cases he : doE s f mo h = 0
          · by_cases h3 : h = 3 ∧ f = mo
            · obtain ⟨rfl, rfl⟩ := h3
              have D1 := fun w => Lib.hid (Do_ok s f f 3 7 f he (by simp [stepS]) (by simp [stepF]) w)
              have D2 := fun w => Lib.hid (Do_ok s f (f + 1) 3 2 (f + 1) ((doE_more HR1.out HR2.out).trans he) (by simp [stepS] <;> omega) (by simp [stepF] <;> omega) w)
              clear he
              go_wp2_with (first
                | (go_at_call 9; ((with_reducible refine (D1 _).out.mono ?_); rintro e2 w2 ⟨rfl, hb2⟩; obtain ⟨⟨a0, a1, a2⟩, af0, af1, af2⟩ := cells3 hb2 ⟨⟨a0, a1, a2⟩, af0, af1, af2⟩; obtain ⟨⟨b0, b1, b2⟩, bf0, bf1, bf2⟩ := cells3 hb2 ⟨⟨b0, b1, b2⟩, bf0, bf1, bf2⟩; have la2 := World.block_lt_of_cell? _ _ a0; have lb2 := World.block_lt_of_cell? _ _ b0))
                | (go_at_call 9; ((with_reducible refine (D2 _).out.mono ?_); rintro e3 w3 ⟨rfl, hb3⟩; obtain ⟨⟨x0, x1, x2⟩, xf0, xf1, xf2⟩ := cells3 hb3 (J3.cells (J3.new w2 _ _ _)); obtain ⟨⟨a0, a1, a2⟩, af0, af1, af2⟩ := cells3a hb3 ⟨⟨a0, a1, a2⟩, af0, af1, af2⟩; obtain ⟨⟨b0, b1, b2⟩, bf0, bf1, bf2⟩ := cells3a hb3 ⟨⟨b0, b1, b2⟩, bf0, bf1, bf2⟩; have la3 := World.block_lt_of_cell? _ _ a0; have lb3 := World.block_lt_of_cell? _ _ b0; have lx3 := World.block_lt_of_cell? _ _ x0)))
              go_ret
              have y3 := alloc_trans (HW.out.trans (hb2.mono HW.out.size)) hb3
              have q1 := HLW.out
              have q2 := HLB.out
              refine ⟨by simp, ?_⟩
              repeat (first | (with_reducible exact y3) | ((with_reducible refine Below.setCell ?_ ?hs _); case hs => assumption) | ((with_reducible refine Below.alloc ?_ ?hs _); case hs => (simp; exact y3.size)))
            · have p := right_true HR1.out
              have e1 := step_same h3 p.2.2.2.2.2.1
              have HRa := Lib.hid (right_step HR1.out he)
              have HRb := Lib.hid (right_step HR2.out ((doE_more HR1.out HR2.out).trans he))
              rw [e1.1, e1.2] at HRb
              obtain ⟨S, hS⟩ : ∃ S, stepS f mo h = S := ⟨_, rfl⟩
              obtain ⟨F, hF⟩ : ∃ F, stepF f mo h = F := ⟨_, rfl⟩
              rw [hS, hF] at HRa HRb
              have D1 := fun w => Lib.hid (Do_ok s f mo h S F he hS hF w)
              have D2 := fun w => Lib.hid (Do_ok s f (mo + 1) h S F ((doE_more HR1.out HR2.out).trans he) (e1.1.trans hS) (e1.2.trans hF) w)
              clear he p e1 hS hF h3
              go_wp2_with (first
                | (go_at_call 9; ((with_reducible refine (D1 _).out.mono ?_); rintro e2 w2 ⟨rfl, hb2⟩; obtain ⟨⟨a0, a1, a2⟩, af0, af1, af2⟩ := cells3 hb2 ⟨⟨a0, a1, a2⟩, af0, af1, af2⟩; obtain ⟨⟨b0, b1, b2⟩, bf0, bf1, bf2⟩ := cells3 hb2 ⟨⟨b0, b1, b2⟩, bf0, bf1, bf2⟩; have la2 := World.block_lt_of_cell? _ _ a0; have lb2 := World.block_lt_of_cell? _ _ b0))
                | (go_at_call 9; ((with_reducible refine (D2 _).out.mono ?_); rintro e3 w3 ⟨rfl, hb3⟩; obtain ⟨⟨x0, x1, x2⟩, xf0, xf1, xf2⟩ := cells3 hb3 (J3.cells (J3.new w2 _ _ _)); obtain ⟨⟨a0, a1, a2⟩, af0, af1, af2⟩ := cells3a hb3 ⟨⟨a0, a1, a2⟩, af0, af1, af2⟩; obtain ⟨⟨b0, b1, b2⟩, bf0, bf1, bf2⟩ := cells3a hb3 ⟨⟨b0, b1, b2⟩, bf0, bf1, bf2⟩; have la3 := World.block_lt_of_cell? _ _ a0; have lb3 := World.block_lt_of_cell? _ _ b0; have lx3 := World.block_lt_of_cell? _ _ x0)))
              go_roundw
              case rel =>
                have y3 := alloc_trans (HW.out.trans (hb2.mono HW.out.size)) hb3
                have jA := ((HA.out.later hb2).alloc (.cells #[.int .i64 S, .int .i64 F, .int .i64 mo] 23)).later hb3
                have jB := ((HB.out.later hb2).alloc (.cells #[.int .i64 S, .int .i64 F, .int .i64 mo] 23)).later hb3
                have q1 := HLW.out
                have q2 := HLB.out
                refine ⟨k + 1, S, F, by omega, by go_num, ?_, ?_, HRa.out, HRb.out, ?_⟩
                · repeat (first | (with_reducible exact jA) | (with_reducible exact J3.set jA) | (with_reducible refine J3.alloc ?_ _) | ((with_reducible refine J3.other ?_ ?hs); case hs => assumption) | (with_reducible refine J3.set ?_))
                · repeat (first | (with_reducible exact jB) | (with_reducible exact J3.set (J3.other (J3.other (J3.other jB hne1) hne1) hne1)) | (with_reducible refine J3.alloc ?_ _))
                · repeat (first | (with_reducible exact y3) | ((with_reducible refine Below.setCell ?_ ?hs _); case hs => assumption) | ((with_reducible refine Below.alloc ?_ ?hs _); case hs => (simp; exact y3.size)))
              case measure => simp [intOf]; omega
          · obtain ⟨e, hee⟩ : ∃ e, doE s f mo h = e := ⟨_, rfl⟩
            rw [hee] at he
            have D1 := fun w => Lib.hid (Do_err s f mo h e hee he w)
            have D2 := fun w => Lib.hid (Do_err s f (mo + 1) h e ((doE_more HR1.out HR2.out).trans hee) he w)
            have hE : (e != 0) = true := by simpa using he
            have hE2 : (e == 0) = false := by simpa using he
            clear hee he
            go_wp2_with (first
              | (go_at_call 9; ((with_reducible refine (D1 _).out.mono ?_); rintro e2 w2 ⟨rfl, hb2⟩; obtain ⟨⟨a0, a1, a2⟩, af0, af1, af2⟩ := cells3 hb2 ⟨⟨a0, a1, a2⟩, af0, af1, af2⟩; obtain ⟨⟨b0, b1, b2⟩, bf0, bf1, bf2⟩ := cells3 hb2 ⟨⟨b0, b1, b2⟩, bf0, bf1, bf2⟩; have la2 := World.block_lt_of_cell? _ _ a0; have lb2 := World.block_lt_of_cell? _ _ b0))
              | (go_at_call 9; ((with_reducible refine (D2 _).out.mono ?_); rintro e3 w3 ⟨rfl, hb3⟩; obtain ⟨⟨x0, x1, x2⟩, xf0, xf1, xf2⟩ := cells3 hb3 (J3.cells (J3.new w2 _ _ _)); obtain ⟨⟨a0, a1, a2⟩, af0, af1, af2⟩ := cells3a hb3 ⟨⟨a0, a1, a2⟩, af0, af1, af2⟩; obtain ⟨⟨b0, b1, b2⟩, bf0, bf1, bf2⟩ := cells3a hb3 ⟨⟨b0, b1, b2⟩, bf0, bf1, bf2⟩; have la3 := World.block_lt_of_cell? _ _ a0; have lb3 := World.block_lt_of_cell? _ _ b0; have lx3 := World.block_lt_of_cell? _ _ x0)))
            go_roundw
            case rel =>
              have y3 := alloc_trans (HW.out.trans (hb2.mono HW.out.size)) hb3
              refine ⟨k + 1, s, f, by omega, by go_num, ?_, ?_, HR1.out, HR2.out, y3.alloc y3.size _⟩
              · exact (((HA.out.later hb2).later ((Below.refl _ _).alloc (Nat.le_refl _) _)).later hb3).later ((Below.refl _ _).alloc (Nat.le_refl _) _)
              · exact (((HB.out.later hb2).later ((Below.refl _ _).alloc (Nat.le_refl _) _)).later hb3).later ((Below.refl _ _).alloc (Nat.le_refl _) _)
            case measure => simp [intOf]; omega
      · go_wp2
        go_ret
        exact ⟨by simp, HW.out⟩
end Go.Proofs.Ytdepolfmibhojaa
