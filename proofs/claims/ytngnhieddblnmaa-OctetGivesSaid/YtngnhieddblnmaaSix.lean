/-
  The walks of layer 1's functions (octet), at the seat's numbers: a reader gives a number.
-/
import Derived.Test.YtngnhieddblnmaaFive
namespace Go.Proofs.Ytngnhieddblnmaa
open Go.ChangeShapes Go.WideShapes Go.ChangeAt Go.RowKit

theorem number_refuses (R : Nat) (n e : Int) (xs : List Int) (w : World) (h : RdAt w R xs e) (he : (e != 0) = true) :
    Calls Try.prog 33 #[.pointer (some ⟨R, 0, none⟩), .int .i64 n] w fun f w' => f = .returned (.int .u64 0) ∧ Below w.heap.size w w' := by
  obtain ⟨a, c, h1, h2, h3⟩ := h
  obtain ⟨c0, c1, f0, f1⟩ := rd_cell h1
  have lt := lt_of_block h1
  clear h1 h2
  go_enter Try.func33, Try.ntmps33
  go_wp2_with (go_at_call 34; refine (give_refuses R _ _ _ _ (by simp [go_sem, *]) he).mono ?_; rintro e1 w1 ⟨rfl, rfl⟩)
  exact bodyPost_ret (v := .int .u64 0) (by simp [results, Try.results33, go_sem]) rfl ⟨rfl, ((Below.refl _ _).alloc (Nat.le_refl _) _).alloc (by simp) _⟩

theorem rd_set1 {w : World} {R n c : Nat} {a : Option Addr} {e : Int} (h : w.heap[R]? = some (.cells #[.slice a n c, .int .i64 e] 63 (0, 0))) (x : Int) : (w.setCell ⟨R, 1, none⟩ (.int .i64 x)).heap[R]? = some (.cells #[.slice a n c, .int .i64 x] 63 (0, 0)) := block_setCell h _ _
theorem rd_set0 {w : World} {R n c : Nat} {a : Option Addr} {e : Int} (h : w.heap[R]? = some (.cells #[.slice a n c, .int .i64 e] 63 (0, 0))) (v : Value) : (w.setCell ⟨R, 0, none⟩ v).heap[R]? = some (.cells #[v, .int .i64 e] 63 (0, 0)) := block_setCell h _ _
theorem alloc_alloc (w : World) (o1 o2 : Obj) : Below w.heap.size w ((w.alloc o1).alloc o2) := ((Below.refl _ _).alloc (Nat.le_refl _) _).alloc (by simp) _
theorem Only.alloc {R : Nat} {w w' : World} (h : Only R w w') (o : Obj) : Only R w (w'.alloc o) :=
  ⟨h.os, h.tape, h.output, by have := h.size; simp; omega, fun k hk hR => (Below.heap_alloc _ _ _ (by have := h.size; omega)).trans (h.block k hk hR)⟩
theorem Only.setNew {R : Nat} {w w' : World} (h : Only R w w') {k : Nat} (hk : w.heap.size ≤ k) (o : Nat) (v : Value) : Only R w (w'.setCell ⟨k, o, none⟩ v) :=
  ⟨h.os, h.tape, h.output, by have := h.size; simp; omega, fun j hj hR => (Below.heap_setCell _ _ _ _ (by simp; omega)).trans (h.block j hj hR)⟩
theorem Only.after {R : Nat} {w w1 w2 : World} (hb : Below w.heap.size w w1) (h : Only R w1 w2) : Only R w w2 :=
  (Only.of_below hb).trans h

theorem Seen.only {w w1 : World} {R : Nat} {a : Option Addr} {xs : List Int} (h : Seen w a xs) (ho : Only R w w1) (hR : ∀ ad, a = some ad → 0 < xs.length → ad.block ≠ R) : Seen w1 a xs := by
  intro h0
  obtain ⟨ad, rfl, h1⟩ := h h0
  refine ⟨ad, rfl, fun j v hj => ?_⟩
  have hc := h1 j v hj
  have hlt := World.block_lt_of_cell? _ _ hc
  have hblk : (ad.add j).block = ad.block := by cases j <;> simp [Addr.add]
  have hne := hR ad rfl h0
  rw [← hc]
  exact World.cell?_of_block (w := w) (ho.block _ hlt (by rw [hblk]; exact hne))
/-- The bytes seen do not lie in the reader's own block. -/
theorem seen_apart {w : World} {R : Nat} {a : Option Addr} {xs : List Int} {v0 v1 : Value} {t : TypeId} (h : Seen w a xs) (hR : w.heap[R]? = some (.cells #[v0, v1] t (0, 0))) (h0 : ∀ n, v0 ≠ .int .u8 n) (h2 : ∀ n, v1 ≠ .int .u8 n) : ∀ ad, a = some ad → 0 < xs.length → ad.block ≠ R := by
  rintro ad rfl hl rfl
  obtain ⟨ad', he, hc⟩ := h hl
  obtain rfl : ad = ad' := by simpa using he
  have h3 := hc 0 (.int .u8 (xs[0])) (by simp [By, List.getElem?_eq_getElem hl])
  have hs := World.cell?_spot h3
  obtain ⟨b, o, sp⟩ := ad
  simp [Addr.add] at hs h3 hR
  subst hs
  simp [World.cell?, hR] at h3
  match o, h3 with
  | 0, h3 => simp at h3; exact h0 _ h3
  | 1, h3 => simp at h3; exact h2 _ h3
  | o + 2, h3 => simp at h3

theorem number_short (R n : Nat) (xs : List Int) (w : World) (h : RdAt w R xs 0) (hn : xs.length < n) :
    Calls Try.prog 33 #[.pointer (some ⟨R, 0, none⟩), .int .i64 (n : Int)] w fun f w' => f = .returned (.int .u64 0) ∧ Only R w w' ∧ RdAt w' R xs 7 := by
  obtain ⟨a, c, h1, h2, h3⟩ := h
  obtain ⟨c0, c1, f0, f1⟩ := rd_cell h1
  have lt := lt_of_block h1
  have hap := seen_apart h2 h1 (by simp) (by simp)
  have H1 := Lib.hid h1
  have H2 := Lib.hid h2
  have HA := Lib.hid hap
  clear h1 h2 hap
  go_enter Try.func33, Try.ntmps33
  go_wp2_with (go_at_call 34; refine (give_short R xs.length c _ a _ _ (by simp [go_sem, *]) (by simp [go_sem, *]) (by simp [go_sem, *]) (by omega) (by omega)).mono ?_; rintro e1 w1 ⟨rfl, rfl⟩)
  refine bodyPost_ret (v := .int .u64 0) (by simp [results, Try.results33, go_sem]) rfl ⟨rfl, ?_, ?_⟩
  · exact (((Only.refl _ _).setCell _ _).alloc _).alloc _
  · refine ⟨a, c, ((alloc_alloc _ _ _).block R (by simp; omega)).trans (rd_set1 H1.out _), ?_, h3⟩
    exact H2.out.only ((((Only.refl _ _).setCell _ _).alloc _).alloc _) HA.out

theorem number_ok (R n : Nat) (xs : List Int) (w : World) (h : RdAt w R xs 0) (h1n : 1 ≤ n) (h8 : n ≤ 8) (hn : n ≤ xs.length) (hb : bytesOk xs) :
    Calls Try.prog 33 #[.pointer (some ⟨R, 0, none⟩), .int .i64 (n : Int)] w fun f w' => f = .returned (.int .u64 (num (xs.take n))) ∧ Only R w w' ∧ RdAt w' R (xs.drop n) 0 := by
  obtain ⟨a, c, h1, h2, h3⟩ := h
  obtain ⟨c0, c1, f0, f1⟩ := rd_cell h1
  have lt := lt_of_block h1
  have hap := seen_apart h2 h1 (by simp) (by simp)
  obtain ⟨ad, rfl, hcs⟩ := h2 (by omega)
  have hne := hap ad rfl (by omega)
  have hc0 := hcs 0 (.int .u8 (xs[0])) (by simp [By, List.getElem?_eq_getElem (show 0 < xs.length by omega)])
  have hs := World.cell?_spot hc0
  have hblt := World.block_lt_of_cell? _ _ hc0
  obtain ⟨b, o, sp⟩ := ad
  simp [Addr.add] at hs hblt hne
  subst hs
  have hcell : ∀ j, j < n → w.cell? ⟨b, o + j, none⟩ = some (.int .u8 ((xs.take n)[j]?.getD 0)) := by
    intro j hj
    have hjx : j < xs.length := by omega
    have := hcs j (.int .u8 (xs[j])) (by simp [By, List.getElem?_eq_getElem hjx])
    rw [List.getElem?_take_of_lt hj, List.getElem?_eq_getElem hjx]
    cases j <;> simpa [Addr.add] using this
  have hbt : bytesOk (xs.take n) := by
    intro j hj
    have hj' : j < n := by simp at hj; omega
    rw [List.getElem?_take_of_lt hj']
    exact hb j (by omega)
  have H1 := Lib.hid h1
  have H2 := Lib.hid h2
  have HA := Lib.hid hap
  have HC := Lib.hid hcell
  have HB := Lib.hid hbt
  clear h1 h2 hap hcs hc0 hcell hbt hb
  have HF : Hid (Calls Try.prog 36 #[.slice (some ⟨b, o, none⟩) n n, .pointer (some ⟨w.heap.size, 0, none⟩), .pointer (some ⟨w.heap.size + 1, 0, none⟩)] ((w.alloc (.cells #[.int .i64 (n : Int)] 3)).alloc (.cells #[.int .u64 0] 23)) fun g w' => g = .returned (.tuple #[]) ∧ w'.cell? ⟨R, 0, none⟩ = some (.slice (some ⟨b, o, none⟩) xs.length c) ∧ w'.frozen? ⟨R, 0, none⟩ = false ∧
      (Only (w.heap.size + 1) ((w.alloc (.cells #[.int .i64 (n : Int)] 3)).alloc (.cells #[.int .u64 0] 23)) w' ∧ w'.heap[w.heap.size + 1]? = some (.cells #[.int .u64 (num (xs.take n))] 23 (0, 0)))) := by
    refine Lib.hid ((number1_any b o n w.heap.size (w.heap.size + 1) n (xs.take n) _ (by simp; omega) h8 (fun j hj => cell_later (alloc_alloc _ _ _) (HC.out j hj)) HB.out (by simp [go_sem]) ?_ (by omega) (by simp; omega)).mono ?_)
    · have := heap_alloc_new (w.alloc (.cells #[.int .i64 (n : Int)] 3)) (.cells #[.int .u64 0] 23)
      rwa [show (w.alloc (.cells #[.int .i64 (n : Int)] 3)).heap.size = w.heap.size + 1 from by simp] at this
    · rintro e1 w1 ⟨rfl, ho, hx⟩
      have hk : w1.heap[R]? = some (.cells #[.slice (some ⟨b, o, none⟩) xs.length c, .int .i64 0] 63 (0, 0)) := (ho.block R (by simp; omega) (by omega)).trans (((alloc_alloc w _ _).block R lt).trans H1.out)
      obtain ⟨d0, d1, g0, g1⟩ := rd_cell hk
      exact ⟨rfl, d0, g0, ho, hx⟩
  go_enter Try.func33, Try.ntmps33
  go_wp2_with (go_at_call 34; refine (give36_ok R xs.length c n (some ⟨b, o, none⟩) _ _ _ _ (by simp [go_sem, *]) (by simp [go_sem, *]) hn h3 HF.out).mono ?_; rintro e1 w1 ⟨rfl, hg⟩; obtain ⟨w2, ⟨ho, hx⟩, rfl⟩ := hg; have hx0 := cell_of_one hx; have hxf := free_of_one hx; have HX := Lib.hid hx; have HO := Lib.hid ho; clear hx ho)
  have HOw : Hid (Only R w w2) := Lib.hid (Only.of_below ((alloc_alloc w _ _).trans (HO.out.below (by omega) (by simp; omega))))
  have HRd := (HO.out.block R (by simp; omega) (by omega)).trans (((alloc_alloc w _ _).block R lt).trans H1.out)
  refine bodyPost_ret (v := .int .u64 (num (xs.take n))) (by simp [results, Try.results33, go_sem, hx0]) rfl ⟨rfl, ?_, ?_⟩
  · exact (HOw.out.setCell _ _).setNew (by omega) _ _
  · refine ⟨_, _, (Below.heap_setCell _ _ _ _ (by simp; omega)).trans (by simpa using rd_set0 HRd _), ?_, by simp; omega⟩
    refine (H2.out.cut h3).only ((HOw.out.setCell _ _).setNew (by omega) _ _) (fun ad' he _ => ?_)
    have hcut : cut (some ⟨b, o, none⟩) n c = some ad' := he
    unfold cut at hcut
    split at hcut
    · simp at hcut; subst hcut; exact hne
    · simp [Addr.add] at hcut
      subst hcut
      split <;> exact hne

end Go.Proofs.Ytngnhieddblnmaa
