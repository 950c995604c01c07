/-
  The walks of bytes.Clone and of append over bytes, at the seat's numbers.
-/
import Derived.Test.YtngnhieddblnmaaLow
import Derived.Lib.LazyBuf
import Derived.Laws.AppendOwnNone
namespace Go.Proofs.Ytngnhieddblnmaa
open Go.ChangeShapes Go.WideShapes Go.ChangeAt Go.RowKit

/-- A SLICE OF THE CALL's OWN THAT HOLDS THESE BYTES: it is nil, or lies at the head of a row. -/
def OwnC (B : Nat) (xs : List Int) (f : Ending) (w' : World) : Prop := ∃ v, f = .returned v ∧ w'.ownsRow B 5 1 v xs.length (By xs)

theorem own_seenC {B n : Nat} {w : World} {v : Value} {xs : List Int} (h : w.ownsRow B 5 1 v n (By xs)) : ∃ a c, v = .slice a n c ∧ Seen w a xs ∧ n ≤ c ∧ (a = none → c = 0) := by
  obtain ⟨hl, h⟩ := h
  rw [By_length, Nat.mul_one] at hl
  rcases h with ⟨rfl, rfl⟩ | ⟨g, cap, cur, rfl, hB, hg, hn, hc, hs, ht⟩
  · exact ⟨none, 0, rfl, fun h => by omega, Nat.le_refl _, fun _ => rfl⟩
  · refine ⟨some ⟨g, 0, none⟩, cap, rfl, fun _ => ⟨_, rfl, fun j v hj => ?_⟩, hn, fun h => by cases h⟩
    have e : (⟨g, 0, none⟩ : Addr).add j = ⟨g, j, none⟩ := by cases j <;> simp [Addr.add]
    rw [e]
    have hcell : w.cell? ⟨g, j, none⟩ = cur[j]? := by simp [World.cell?, hg]
    rw [hcell, ← hj, ← ht, Nat.mul_one]
    have hj' : j < n := by
      rcases Nat.lt_or_ge j (By xs).length with h' | h'
      · rw [By_length] at h'; omega
      · rw [List.getElem?_eq_none h'] at hj; cases hj
    rw [List.getElem?_take_of_lt hj', Array.getElem?_toList]

theorem clone_none (w : World) : Calls Try.prog 29 #[.slice none 0 0] w fun e w' => e = .returned (.slice none 0 0) ∧ w = w' := by
  have hq := fun (w : World) => @Lib.run_eql_slice_nil Try.prog w 22 5 none 0 0 0 0 Try.underlying22
  go_enter Try.func29, Try.ntmps29
  go_wp2
  go_ret
  exact ⟨rfl, rfl⟩

theorem clone_some (ad : Addr) (n c : Nat) (xs : List Int) (w : World) (hn : xs.length = n) (hs : Seen w (some ad) xs) (hm : n ≤ 140737488351232) :
    Calls Try.prog 29 #[.slice (some ad) n c] w fun e w' => OwnC w.heap.size xs e w' ∧ Below w.heap.size w w' := by
  have hq := fun (w : World) => @Lib.run_eql_slice_nil Try.prog w 22 5 (some ad) n c 0 0 Try.underlying22
  have HN := Lib.hid hn; clear hn
  obtain ⟨i0, hi, hz0, hz1, hz2⟩ := info_parts Try.info5
  have HI := Lib.hid hi; clear hi
  have HZ0 := Lib.hid hz0; clear hz0
  have HZ1 := Lib.hid hz1; clear hz1
  have HZ2 := Lib.hid hz2; clear hz2
  have HO := Lib.hid (World.ownsRow_lit (base := w.heap.size) (e := 5) (size := 1) w #[] 0 (Nat.le_refl _) (by decide) rfl)
  have HS := Lib.hid (hs.alloc (.cells #[] 5)); clear hs
  have HL : Hid ((By xs).length = n * 1) := Lib.hid (by rw [By_length, HN.out, Nat.mul_one])
  have HX : Hid (∀ j u, (By xs)[j]? = some u → (w.alloc (.cells #[] 5)).cell? (ad.add j) = some u) := Lib.hid (by
    intro j u hj
    have h0 : 0 < xs.length := by
      rcases Nat.eq_zero_or_pos xs.length with h | h
      · rw [List.eq_nil_of_length_eq_zero h] at hj; simp [By] at hj
      · exact h
    obtain ⟨ad', he, hc⟩ := HS.out h0
    obtain rfl : ad = ad' := by simpa using he
    exact hc j u hj)
  go_enter Try.func29, Try.ntmps29
  go_wp2_with (at_builtin; refine wpList_append_own _ rfl (.tmp 5) (.tmp 6) 22 rfl w.heap.size 5 i0 (.int .u8 0) 1 1 Try.underlying22 HI.out HZ0.out HZ1.out HZ2.out rfl (by decide) _ 0 [] rfl HO.out ad n c (By xs) rfl HL.out HX.out (By_one _) (by unfold maxLen; omega) (by omega) (by simp) ?_; intro v' w1 hown' hgrow _)
  have HO' := Lib.hid hown'; clear hown'
  have HGr := Lib.hid hgrow; clear hgrow
  go_wp2
  go_ret
  refine ⟨⟨v', rfl, by have h := HO'.out; simpa [HN.out] using h⟩, ?_⟩
  exact ((Below.refl _ _).alloc (Nat.le_refl _) _).grown HGr.out (by simp) (fun k hk => Nat.le_of_eq (Option.some.inj hk))

theorem clone_any (a : Option Addr) (n c : Nat) (xs : List Int) (w : World) (h : InB w a n c xs) (hm : n ≤ 140737488351232) :
    Calls Try.prog 29 #[.slice a n c] w fun e w' => OwnC w.heap.size xs e w' ∧ Below w.heap.size w w' := by
  cases a with
  | none =>
    obtain ⟨rfl, rfl⟩ := h.nil rfl
    obtain rfl : xs = [] := List.eq_nil_of_length_eq_zero h.len
    refine (clone_none w).mono ?_
    rintro e w' ⟨rfl, rfl⟩
    exact ⟨⟨_, rfl, World.ownsRow_nil _ _ _ _⟩, Below.refl _ _⟩
  | some ad => exact clone_some ad n c xs w h.len h.seen hm


end Go.Proofs.Ytngnhieddblnmaa
