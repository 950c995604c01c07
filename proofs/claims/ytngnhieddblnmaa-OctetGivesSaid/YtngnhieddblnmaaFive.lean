/-
  The walks of layer 1's functions (octet), at the seat's numbers: a reader gives.
-/
import Derived.Test.YtngnhieddblnmaaFour
import Derived.Test.YtngnhieddblnmaaOne
namespace Go.Proofs.Ytngnhieddblnmaa
open Go.ChangeShapes Go.WideShapes Go.ChangeAt Go.RowKit

theorem give_refuses (R : Nat) (n e : Int) (f : Value) (w : World) (c1 : w.cell? ⟨R, 1, none⟩ = some (.int .i64 e)) (he : (e != 0) = true) :
    Calls Try.prog 34 #[.pointer (some ⟨R, 0, none⟩), .int .i64 n, f] w fun g w' => g = .returned (.tuple #[]) ∧ w = w' := by
  go_enter Try.func34, Try.ntmps34
  go_wp2
  go_end0
  exact ⟨rfl, rfl⟩

theorem give_short (R l c : Nat) (n : Int) (a : Option Addr) (f : Value) (w : World) (c0 : w.cell? ⟨R, 0, none⟩ = some (.slice a l c)) (c1 : w.cell? ⟨R, 1, none⟩ = some (.int .i64 0)) (f1 : w.frozen? ⟨R, 1, none⟩ = false) (h0 : 0 ≤ n) (hn : (l : Int) < n) :
    Calls Try.prog 34 #[.pointer (some ⟨R, 0, none⟩), .int .i64 n, f] w fun g w' => g = .returned (.tuple #[]) ∧ w' = w.setCell ⟨R, 1, none⟩ (.int .i64 7) := by
  go_enter Try.func34, Try.ntmps34
  go_wp2
  go_end0
  exact ⟨rfl, rfl⟩

theorem give_arg (R : Nat) (n : Int) (f : Value) (w : World) (c1 : w.cell? ⟨R, 1, none⟩ = some (.int .i64 0)) (f1 : w.frozen? ⟨R, 1, none⟩ = false) (h0 : n < 0) :
    Calls Try.prog 34 #[.pointer (some ⟨R, 0, none⟩), .int .i64 n, f] w fun g w' => g = .returned (.tuple #[]) ∧ w' = w.setCell ⟨R, 1, none⟩ (.int .i64 2) := by
  go_enter Try.func34, Try.ntmps34
  go_wp2
  go_end0
  exact ⟨rfl, rfl⟩

def cut (a : Option Addr) (n c : Nat) : Option Addr := if c = n then a else a.map (fun x => x.add n)
def Gave (P : World → Prop) (R l c n : Nat) (a : Option Addr) (w' : World) : Prop := ∃ w2, P w2 ∧ w' = w2.setCell ⟨R, 0, none⟩ (.slice (cut a n c) (l - n) (c - n))
theorem gave_all {P : World → Prop} {R l c n : Nat} {a : Option Addr} {w2 : World} (h : c = n) (hP : P w2) : Gave P R l c n a (w2.setCell ⟨R, 0, none⟩ (.slice a (l - n) 0)) :=
  ⟨w2, hP, by simp [cut, h]⟩
theorem gave_some {P : World → Prop} {R l c n : Nat} {a : Option Addr} {w2 : World} (h : ¬ c = n) (hP : P w2) : Gave P R l c n a (w2.setCell ⟨R, 0, none⟩ (.slice (a.map (fun x => x.add n)) (l - n) (c - n))) :=
  ⟨w2, hP, by simp [cut, h]⟩

theorem add_add (ad : Addr) (n j : Nat) (v : Value) (w : World) (h : w.cell? (ad.add (n + j)) = some v) : w.cell? ((ad.add n).add j) = some v := by
  have hs := World.cell?_spot h
  obtain ⟨b, o, sp⟩ := ad
  cases n with
  | zero => simpa [Addr.add] using h
  | succ n =>
    cases j with
    | zero => simpa [Addr.add] using h
    | succ j => 
      simp [Addr.add] at h ⊢
      simpa [Nat.add_assoc] using h

theorem Seen.cut {w : World} {a : Option Addr} {xs : List Int} {n c : Nat} (h : Seen w a xs) (hc : xs.length ≤ c) : Seen w (cut a n c) (xs.drop n) := by
  intro h0
  have h0' : n < xs.length := by simp at h0; omega
  obtain ⟨ad, rfl, h1⟩ := h (by omega)
  refine ⟨ad.add n, by simp [Ytngnhieddblnmaa.cut]; omega, fun j v hj => add_add _ _ _ _ _ (h1 _ _ ?_)⟩
  simpa [By, List.getElem?_drop] using hj

theorem give36_ok (R l c n : Nat) (a : Option Addr) (p0 p1 : Value) (w : World) (P : World → Prop) (c0 : w.cell? ⟨R, 0, none⟩ = some (.slice a l c)) (c1 : w.cell? ⟨R, 1, none⟩ = some (.int .i64 0)) (hn : n ≤ l) (hl : l ≤ c)
    (hF : Calls Try.prog 36 #[.slice a n n, p0, p1] w fun g w' => g = .returned (.tuple #[]) ∧ w'.cell? ⟨R, 0, none⟩ = some (.slice a l c) ∧ w'.frozen? ⟨R, 0, none⟩ = false ∧ P w') :
    Calls Try.prog 34 #[.pointer (some ⟨R, 0, none⟩), .int .i64 (n : Int), .func (.func 36) #[] #[p0, p1]] w fun g w' => g = .returned (.tuple #[]) ∧ Gave P R l c n a w' := by
  have HF := Lib.hid hF
  clear hF
  go_enter Try.func34, Try.ntmps34
  go_wp2_with (go_at_call 36; refine HF.out.mono ?_; rintro e1 w1 ⟨rfl, k0, k1, hP⟩)
  all_goals go_end0
  all_goals first | exact ⟨rfl, gave_some ‹_› hP⟩ | exact ⟨rfl, gave_all rfl hP⟩

theorem give35_ok (R l c n : Nat) (a : Option Addr) (p0 : Value) (w : World) (P : World → Prop) (c0 : w.cell? ⟨R, 0, none⟩ = some (.slice a l c)) (c1 : w.cell? ⟨R, 1, none⟩ = some (.int .i64 0)) (hn : n ≤ l) (hl : l ≤ c)
    (hF : Calls Try.prog 35 #[.slice a n n, p0] w fun g w' => g = .returned (.tuple #[]) ∧ w'.cell? ⟨R, 0, none⟩ = some (.slice a l c) ∧ w'.frozen? ⟨R, 0, none⟩ = false ∧ P w') :
    Calls Try.prog 34 #[.pointer (some ⟨R, 0, none⟩), .int .i64 (n : Int), .func (.func 35) #[] #[p0]] w fun g w' => g = .returned (.tuple #[]) ∧ Gave P R l c n a w' := by
  have HF := Lib.hid hF
  clear hF
  go_enter Try.func34, Try.ntmps34
  go_wp2_with (go_at_call 35; refine HF.out.mono ?_; rintro e1 w1 ⟨rfl, k0, k1, hP⟩)
  all_goals go_end0
  all_goals first | exact ⟨rfl, gave_some ‹_› hP⟩ | exact ⟨rfl, gave_all rfl hP⟩

end Go.Proofs.Ytngnhieddblnmaa
