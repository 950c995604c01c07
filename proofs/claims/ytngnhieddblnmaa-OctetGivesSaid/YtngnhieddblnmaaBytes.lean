/-
  The walk of bytes.Equal, at the seat's numbers: are these the same bytes?
-/
import Derived.Test.YtngnhieddblnmaaTen
import Derived.Lib.BufferRead
import Derived.Laws.IdiomStrings
namespace Go.Proofs.Ytngnhieddblnmaa
open Go.ChangeShapes Go.WideShapes Go.ChangeAt Go.RowKit

def toU (xs : List Int) : List UInt8 := xs.map (fun x => UInt8.ofNat x.toNat)
theorem toU_length (xs : List Int) : (toU xs).length = xs.length := by simp [toU]
theorem toU_get {xs : List Int} (h : bytesOk xs) (j : Nat) (hj : j < (toU xs).length) : ((toU xs)[j].toNat : Int) = xs[j]?.getD 0 := by
  have hj' : j < xs.length := by simpa [toU] using hj
  obtain ⟨h0, h1⟩ := h j hj'
  rw [List.getElem?_eq_getElem hj'] at h0 h1 ⊢
  simp at h0 h1
  simp [toU]
  omega
theorem toU_inj : ∀ {xs ys : List Int}, bytesOk xs → bytesOk ys → toU xs = toU ys → xs = ys := by
  intro xs ys hx hy h
  have hl : xs.length = ys.length := by rw [← toU_length xs, h, toU_length]
  apply List.ext_getElem hl
  intro j h1 h2
  have e1 := toU_get hx j (by rw [toU_length]; exact h1)
  have e2 := toU_get hy j (by rw [toU_length]; exact h2)
  simp only [h] at e1
  rw [e1, List.getElem?_eq_getElem h1, List.getElem?_eq_getElem h2] at e2
  simpa using e2

theorem conv_any (a : Option Addr) (n c : Nat) (xs : List Int) (w : World) (hn : xs.length = n) (hs : Seen w a xs) (hb : bytesOk xs) (h0 : a = none → n = 0) :
    (convert 22 9 (.slice a n c)).run Try.prog w = .ok (.string ⟨(toU xs).toArray⟩) w := by
  subst hn
  cases a with
  | none =>
    have := h0 rfl
    obtain rfl : xs = [] := List.eq_nil_of_length_eq_zero this
    exact Lib.run_convert_nil_bytes w 22 9 5 c Try.underlying22 Try.underlying5 Try.underlying9
  | some ad =>
    have h := run_convert_bytes_back (P := Try.prog) w 22 9 5 ad c (toU xs) Try.underlying22 Try.underlying5 Try.underlying9 (fun j hj => by
      rw [toU_get hb j hj]
      have hj' : j < xs.length := by simpa [toU] using hj
      obtain ⟨ad', he, hc⟩ := hs (by omega)
      obtain rfl : ad = ad' := by simpa using he
      exact hc j _ (by simp [By, List.getElem?_eq_getElem hj']))
    rwa [toU_length] at h

theorem bytesEqual_any (a b : Option Addr) (n m c d : Nat) (xs ys : List Int) (w : World) (hx : xs.length = n) (hy : ys.length = m) (h1 : Seen w a xs) (h2 : Seen w b ys) (bx : bytesOk xs) (by' : bytesOk ys) (n1 : a = none → n = 0) (n2 : b = none → m = 0) :
    Calls Try.prog 28 #[.slice a n c, .slice b m d] w fun e w' => e = .returned (.bool (same xs ys)) ∧ w = w' := by
  have k1 := conv_any a n c xs w hx h1 bx n1
  have k2 := conv_any b m d ys w hy h2 by' n2
  obtain ⟨s, hs⟩ : ∃ s : ByteArray, s = ⟨(toU xs).toArray⟩ := ⟨_, rfl⟩
  obtain ⟨t, ht⟩ : ∃ t : ByteArray, t = ⟨(toU ys).toArray⟩ := ⟨_, rfl⟩
  rw [← hs] at k1
  rw [← ht] at k2
  have he : Hid ((s.toList == t.toList) = same xs ys) := Lib.hid (by
    have e1 : s.toList = toU xs := by rw [hs, ByteArray.toList_eq]
    have e2 : t.toList = toU ys := by rw [ht, ByteArray.toList_eq]
    rw [e1, e2, Bool.eq_iff_iff]
    simp only [beq_iff_eq, same, decide_eq_true_eq]
    exact ⟨fun h => toU_inj bx by' h, fun h => by rw [h]⟩)
  clear hs ht h1 h2 bx by' hx hy n1 n2
  go_enter Try.func28, Try.ntmps28
  go_wp2
  go_ret
  exact ⟨by rw [← he.out]; rfl, rfl⟩

end Go.Proofs.Ytngnhieddblnmaa
