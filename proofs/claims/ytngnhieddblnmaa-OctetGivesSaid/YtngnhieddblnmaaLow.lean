/-
  The walks of layer 1's functions (octet), once more, with what a reader holds below it: Read, U8 to U64, Raw; bytes.Clone.
-/
import Derived.Test.YtngnhieddblnmaaCame
import Derived.Lib.LazyBuf
import Derived.Laws.AppendOwnNone
namespace Go.Proofs.Ytngnhieddblnmaa
open Go.ChangeShapes Go.WideShapes Go.ChangeAt Go.RowKit
set_option linter.unusedVariables false

/-- A reader at R whose bytes lie below it. -/
def RdL (w : World) (R : Nat) (xs : List Int) (e : Int) : Prop :=
  ∃ a c, w.heap[R]? = some (.cells #[.slice a xs.length c, .int .i64 e] 63 (0, 0)) ∧ Seen w a xs ∧ xs.length ≤ c ∧ (∀ ad, a = some ad → ad.block < R)
theorem RdL.at {w : World} {R : Nat} {xs : List Int} {e : Int} (h : RdL w R xs e) : RdAt w R xs e := by
  obtain ⟨a, c, h1, h2, h3, _⟩ := h
  exact ⟨a, c, h1, h2, h3⟩
theorem RdL.lt {w : World} {R : Nat} {xs : List Int} {e : Int} (h : RdL w R xs e) : R < w.heap.size := by
  obtain ⟨a, c, h1, _⟩ := h
  exact lt_of_block h1
/-- What is done above a reader leaves it as it is. -/
theorem RdL.above {w w1 : World} {R : Nat} {xs : List Int} {e : Int} (h : RdL w R xs e) (hb : Below (R + 1) w w1) : RdL w1 R xs e := by
  obtain ⟨a, c, h1, h2, h3, h4⟩ := h
  refine ⟨a, c, (hb.block R (Nat.lt_succ_self _)).trans h1, ?_, h3, h4⟩
  intro h0
  obtain ⟨b1, o1, rfl, hl, _⟩ := h2.place h0
  obtain ⟨ad, he, hc⟩ := h2 h0
  obtain rfl : ad = ⟨b1, o1, none⟩ := by simpa using he.symm
  refine ⟨_, rfl, fun j v hj => ?_⟩
  have hk := hc j v hj
  have e : (⟨b1, o1, none⟩ : Addr).add j = ⟨b1, o1 + j, none⟩ := by cases j <;> simp [Addr.add]
  rw [e] at hk ⊢
  have hbl := h4 _ rfl
  exact (hb.cell (by simp at hbl ⊢; omega)).trans hk
theorem cut_low {b o n c R : Nat} {ad : Addr} (hb : b < R) (h : cut (some ⟨b, o, none⟩) n c = some ad) : ad.block < R := by
  unfold cut at h
  split at h
  · simp at h; subst h; exact hb
  · simp [Addr.add] at h
    subst h
    split <;> exact hb
def IsRdL (B : Nat) (xs : List Int) (e : Int) (f : Ending) (w' : World) : Prop := ∃ R, f = .returned (.pointer (some ⟨R, 0, none⟩)) ∧ B ≤ R ∧ RdL w' R xs e

theorem readL (a : Option Addr) (n c : Nat) (xs : List Int) (w : World) (hn : xs.length = n) (hs : Seen w a xs) (hreach : n ≤ 140737488351232) :
    Calls Try.prog 17 #[.slice a n c] w fun e w' => IsRdL w.heap.size xs 0 e w' ∧ Below w.heap.size w w' := by
  have HN := Lib.hid hn; clear hn
  have HS := Lib.hid hs; clear hs
  go_enter Try.func17, Try.ntmps17
  go_wp2_with (go_at_call 32; refine (copied_any _ _ _ xs _ HN.out HS.out hreach).mono ?_; rintro e w1 ⟨rfl, hg, hb⟩; have HG := Lib.hid hg; clear hg)
  go_ret
  have h1 := lt_of_block HG.out
  refine ⟨⟨w1.heap.size, rfl, by omega, some ⟨w.heap.size, 0, none⟩, n, ?_, (Seen.row HG.out).later ((Below.refl _ _).alloc (Nat.le_refl _) _), by rw [HN.out]; exact Nat.le_refl _, fun ad he => by cases he; exact h1⟩, hb.alloc (by omega) _⟩
  rw [HN.out]
  exact heap_alloc_new _ _


theorem number_shortL (R n : Nat) (xs : List Int) (w : World) (h : RdL w R xs 0) (hn : xs.length < n) :
    Calls Try.prog 33 #[.pointer (some ⟨R, 0, none⟩), .int .i64 (n : Int)] w fun f w' => f = .returned (.int .u64 0) ∧ Only R w w' ∧ RdL w' R xs 7 := by
  obtain ⟨a, c, h1, h2, h3, hlow⟩ := h
  obtain ⟨c0, c1, f0, f1⟩ := rd_cell h1
  have lt := lt_of_block h1
  have hap := seen_apart h2 h1 (by simp) (by simp)
  have H1 := Lib.hid h1
  have H2 := Lib.hid h2
  have HA := Lib.hid hap
  clear h1 h2 hap
  go_enter Try.func33, Try.ntmps33
  go_wp2_with (go_at_call 34; refine (give_short R xs.length c _ a _ _ (by simp [go_sem, *]) (by simp [go_sem, *]) (by simp [go_sem, *]) (by omega) (by omega)).mono ?_; rintro e1 w1 ⟨rfl, rfl⟩)
  refine bodyPost_ret (v := .int .u64 0) (by simp [results, Try.results33, go_sem]) rfl ⟨rfl, ?_, ?_⟩
  · exact (((Only.refl _ _).setCell _ _).alloc _).alloc _
  · refine ⟨a, c, ((alloc_alloc _ _ _).block R (by simp; omega)).trans (rd_set1 H1.out _), ?_, h3, hlow⟩
    exact H2.out.only ((((Only.refl _ _).setCell _ _).alloc _).alloc _) HA.out


theorem number_okL (R n : Nat) (xs : List Int) (w : World) (h : RdL w R xs 0) (h1n : 1 ≤ n) (h8 : n ≤ 8) (hn : n ≤ xs.length) (hb : bytesOk xs) :
    Calls Try.prog 33 #[.pointer (some ⟨R, 0, none⟩), .int .i64 (n : Int)] w fun f w' => f = .returned (.int .u64 (num (xs.take n))) ∧ Only R w w' ∧ RdL w' R (xs.drop n) 0 := by
  obtain ⟨a, c, h1, h2, h3, hlow⟩ := h
  obtain ⟨c0, c1, f0, f1⟩ := rd_cell h1
  have lt := lt_of_block h1
  have hap := seen_apart h2 h1 (by simp) (by simp)
  obtain ⟨ad, rfl, hcs⟩ := h2 (by omega)
  have hne := hap ad rfl (by omega)
  have hbR := hlow ad rfl
  clear hlow
  have hc0 := hcs 0 (.int .u8 (xs[0])) (by simp [By, List.getElem?_eq_getElem (show 0 < xs.length by omega)])
  have hs := World.cell?_spot hc0
  have hblt := World.block_lt_of_cell? _ _ hc0
  obtain ⟨b, o, sp⟩ := ad
  simp [Addr.add] at hs hblt hne hbR
  subst hs
  have hcell : ∀ j, j < n → w.cell? ⟨b, o + j, none⟩ = some (.int .u8 ((xs.take n)[j]?.getD 0)) := by
    intro j hj
    have hjx : j < xs.length := by omega
    have := hcs j (.int .u8 (xs[j])) (by simp [By, List.getElem?_eq_getElem hjx])
    rw [List.getElem?_take_of_lt hj, List.getElem?_eq_getElem hjx]
    cases j <;> simpa [Addr.add] using this
  have hbt : bytesOk (xs.take n) := by
    intro j hj
    have hj' : j < n := by simp at hj; omega
    rw [List.getElem?_take_of_lt hj']
    exact hb j (by omega)
  have H1 := Lib.hid h1
  have H2 := Lib.hid h2
  have HA := Lib.hid hap
  have HC := Lib.hid hcell
  have HB := Lib.hid hbt
  clear h1 h2 hap hcs hc0 hcell hbt hb
  have HF : Hid (Calls Try.prog 36 #[.slice (some ⟨b, o, none⟩) n n, .pointer (some ⟨w.heap.size, 0, none⟩), .pointer (some ⟨w.heap.size + 1, 0, none⟩)] ((w.alloc (.cells #[.int .i64 (n : Int)] 3)).alloc (.cells #[.int .u64 0] 23)) fun g w' => g = .returned (.tuple #[]) ∧ w'.cell? ⟨R, 0, none⟩ = some (.slice (some ⟨b, o, none⟩) xs.length c) ∧ w'.frozen? ⟨R, 0, none⟩ = false ∧
      (Only (w.heap.size + 1) ((w.alloc (.cells #[.int .i64 (n : Int)] 3)).alloc (.cells #[.int .u64 0] 23)) w' ∧ w'.heap[w.heap.size + 1]? = some (.cells #[.int .u64 (num (xs.take n))] 23 (0, 0)))) := by
    refine Lib.hid ((number1_any b o n w.heap.size (w.heap.size + 1) n (xs.take n) _ (by simp; omega) h8 (fun j hj => cell_later (alloc_alloc _ _ _) (HC.out j hj)) HB.out (by simp [go_sem]) ?_ (by omega) (by simp; omega)).mono ?_)
    · have := heap_alloc_new (w.alloc (.cells #[.int .i64 (n : Int)] 3)) (.cells #[.int .u64 0] 23)
      rwa [show (w.alloc (.cells #[.int .i64 (n : Int)] 3)).heap.size = w.heap.size + 1 from by simp] at this
    · rintro e1 w1 ⟨rfl, ho, hx⟩
      have hk : w1.heap[R]? = some (.cells #[.slice (some ⟨b, o, none⟩) xs.length c, .int .i64 0] 63 (0, 0)) := (ho.block R (by simp; omega) (by omega)).trans (((alloc_alloc w _ _).block R lt).trans H1.out)
      obtain ⟨d0, d1, g0, g1⟩ := rd_cell hk
      exact ⟨rfl, d0, g0, ho, hx⟩
  go_enter Try.func33, Try.ntmps33
  go_wp2_with (go_at_call 34; refine (give36_ok R xs.length c n (some ⟨b, o, none⟩) _ _ _ _ (by simp [go_sem, *]) (by simp [go_sem, *]) hn h3 HF.out).mono ?_; rintro e1 w1 ⟨rfl, hg⟩; obtain ⟨w2, ⟨ho, hx⟩, rfl⟩ := hg; have hx0 := cell_of_one hx; have hxf := free_of_one hx; have HX := Lib.hid hx; have HO := Lib.hid ho; clear hx ho)
  have HOw : Hid (Only R w w2) := Lib.hid (Only.of_below ((alloc_alloc w _ _).trans (HO.out.below (by omega) (by simp; omega))))
  have HRd := (HO.out.block R (by simp; omega) (by omega)).trans (((alloc_alloc w _ _).block R lt).trans H1.out)
  refine bodyPost_ret (v := .int .u64 (num (xs.take n))) (by simp [results, Try.results33, go_sem, hx0]) rfl ⟨rfl, ?_, ?_⟩
  · exact (HOw.out.setCell _ _).setNew (by omega) _ _
  · refine ⟨_, _, (Below.heap_setCell _ _ _ _ (by simp; omega)).trans (by simpa using rd_set0 HRd _), ?_, by simp; omega, fun ad' he => cut_low hbR he⟩
    refine (H2.out.cut h3).only ((HOw.out.setCell _ _).setNew (by omega) _ _) (fun ad' he _ => ?_)
    have hcut : cut (some ⟨b, o, none⟩) n c = some ad' := he
    unfold cut at hcut
    split at hcut
    · simp at hcut; subst hcut; exact hne
    · simp [Addr.add] at hcut
      subst hcut
      split <;> exact hne


theorem u8_shortL (R : Nat) (xs : List Int) (w : World) (h : RdL w R xs 0) (hn : xs.length < 1) :
    Calls Try.prog 19 #[.pointer (some ⟨R, 0, none⟩)] w fun f w' => f = .returned (.int .u8 0) ∧ Only R w w' ∧ RdL w' R xs 7 := by
  have H := Lib.hid h; clear h
  go_enter Try.func19, Try.ntmps19
  go_wp2_with (go_at_call 33; refine (number_shortL _ 1 xs _ H.out hn).mono ?_; rintro e1 w1 ⟨rfl, hb, hr⟩; have HR := Lib.hid hr; clear hr)
  go_ret
  exact ⟨rfl, hb, HR.out⟩

theorem u8_okL (R : Nat) (xs : List Int) (w : World) (h : RdL w R xs 0) (hn : 1 ≤ xs.length) (hb : bytesOk xs) :
    Calls Try.prog 19 #[.pointer (some ⟨R, 0, none⟩)] w fun f w' => f = .returned (.int .u8 (num (xs.take 1))) ∧ Only R w w' ∧ RdL w' R (xs.drop 1) 0 := by
  have H := Lib.hid h; clear h
  obtain ⟨y0, y1⟩ := num_bound xs hb 1 hn
  have y2 : num (xs.take 1) < 256 := by simpa using y1
  clear y1
  obtain ⟨y, hy⟩ : ∃ y, y = num (xs.take 1) := ⟨_, rfl⟩
  rw [← hy] at y0 y2
  rw [← hy]
  have HY := Lib.hid hy; clear hy
  have HBy := Lib.hid hb; clear hb
  go_enter Try.func19, Try.ntmps19
  go_wp2_with (go_at_call 33; refine (number_okL _ 1 xs _ H.out (by decide) (by decide) hn HBy.out).mono ?_; rw [← HY.out]; rintro e1 w1 ⟨rfl, hb, hr⟩; have HR := Lib.hid hr; clear hr)
  go_ret
  exact ⟨rfl, hb, HR.out⟩


theorem u16_shortL (R : Nat) (xs : List Int) (w : World) (h : RdL w R xs 0) (hn : xs.length < 2) :
    Calls Try.prog 21 #[.pointer (some ⟨R, 0, none⟩)] w fun f w' => f = .returned (.int .u16 0) ∧ Only R w w' ∧ RdL w' R xs 7 := by
  have H := Lib.hid h; clear h
  go_enter Try.func21, Try.ntmps21
  go_wp2_with (go_at_call 33; refine (number_shortL _ 2 xs _ H.out hn).mono ?_; rintro e1 w1 ⟨rfl, hb, hr⟩; have HR := Lib.hid hr; clear hr)
  go_ret
  exact ⟨rfl, hb, HR.out⟩

theorem u16_okL (R : Nat) (xs : List Int) (w : World) (h : RdL w R xs 0) (hn : 2 ≤ xs.length) (hb : bytesOk xs) :
    Calls Try.prog 21 #[.pointer (some ⟨R, 0, none⟩)] w fun f w' => f = .returned (.int .u16 (num (xs.take 2))) ∧ Only R w w' ∧ RdL w' R (xs.drop 2) 0 := by
  have H := Lib.hid h; clear h
  obtain ⟨y0, y1⟩ := num_bound xs hb 2 hn
  have y2 : num (xs.take 2) < 65536 := by simpa using y1
  clear y1
  obtain ⟨y, hy⟩ : ∃ y, y = num (xs.take 2) := ⟨_, rfl⟩
  rw [← hy] at y0 y2
  rw [← hy]
  have HY := Lib.hid hy; clear hy
  have HBy := Lib.hid hb; clear hb
  go_enter Try.func21, Try.ntmps21
  go_wp2_with (go_at_call 33; refine (number_okL _ 2 xs _ H.out (by decide) (by decide) hn HBy.out).mono ?_; rw [← HY.out]; rintro e1 w1 ⟨rfl, hb, hr⟩; have HR := Lib.hid hr; clear hr)
  go_ret
  exact ⟨rfl, hb, HR.out⟩


theorem u32_shortL (R : Nat) (xs : List Int) (w : World) (h : RdL w R xs 0) (hn : xs.length < 4) :
    Calls Try.prog 22 #[.pointer (some ⟨R, 0, none⟩)] w fun f w' => f = .returned (.int .u32 0) ∧ Only R w w' ∧ RdL w' R xs 7 := by
  have H := Lib.hid h; clear h
  go_enter Try.func22, Try.ntmps22
  go_wp2_with (go_at_call 33; refine (number_shortL _ 4 xs _ H.out hn).mono ?_; rintro e1 w1 ⟨rfl, hb, hr⟩; have HR := Lib.hid hr; clear hr)
  go_ret
  exact ⟨rfl, hb, HR.out⟩

theorem u32_okL (R : Nat) (xs : List Int) (w : World) (h : RdL w R xs 0) (hn : 4 ≤ xs.length) (hb : bytesOk xs) :
    Calls Try.prog 22 #[.pointer (some ⟨R, 0, none⟩)] w fun f w' => f = .returned (.int .u32 (num (xs.take 4))) ∧ Only R w w' ∧ RdL w' R (xs.drop 4) 0 := by
  have H := Lib.hid h; clear h
  obtain ⟨y0, y1⟩ := num_bound xs hb 4 hn
  have y2 : num (xs.take 4) < 4294967296 := by simpa using y1
  clear y1
  obtain ⟨y, hy⟩ : ∃ y, y = num (xs.take 4) := ⟨_, rfl⟩
  rw [← hy] at y0 y2
  rw [← hy]
  have HY := Lib.hid hy; clear hy
  have HBy := Lib.hid hb; clear hb
  go_enter Try.func22, Try.ntmps22
  go_wp2_with (go_at_call 33; refine (number_okL _ 4 xs _ H.out (by decide) (by decide) hn HBy.out).mono ?_; rw [← HY.out]; rintro e1 w1 ⟨rfl, hb, hr⟩; have HR := Lib.hid hr; clear hr)
  go_ret
  exact ⟨rfl, hb, HR.out⟩


theorem u64_shortL (R : Nat) (xs : List Int) (w : World) (h : RdL w R xs 0) (hn : xs.length < 8) :
    Calls Try.prog 23 #[.pointer (some ⟨R, 0, none⟩)] w fun f w' => f = .returned (.int .u64 0) ∧ Only R w w' ∧ RdL w' R xs 7 := by
  have H := Lib.hid h; clear h
  go_enter Try.func23, Try.ntmps23
  go_wp2_with (go_at_call 33; refine (number_shortL _ 8 xs _ H.out hn).mono ?_; rintro e1 w1 ⟨rfl, hb, hr⟩; have HR := Lib.hid hr; clear hr)
  go_ret
  exact ⟨rfl, hb, HR.out⟩

theorem u64_okL (R : Nat) (xs : List Int) (w : World) (h : RdL w R xs 0) (hn : 8 ≤ xs.length) (hb : bytesOk xs) :
    Calls Try.prog 23 #[.pointer (some ⟨R, 0, none⟩)] w fun f w' => f = .returned (.int .u64 (num (xs.take 8))) ∧ Only R w w' ∧ RdL w' R (xs.drop 8) 0 := by
  have H := Lib.hid h; clear h
  obtain ⟨y0, y1⟩ := num_bound xs hb 8 hn
  have y2 : num (xs.take 8) < 18446744073709551616 := by simpa using y1
  clear y1
  obtain ⟨y, hy⟩ : ∃ y, y = num (xs.take 8) := ⟨_, rfl⟩
  rw [← hy] at y0 y2
  rw [← hy]
  have HY := Lib.hid hy; clear hy
  have HBy := Lib.hid hb; clear hb
  go_enter Try.func23, Try.ntmps23
  go_wp2_with (go_at_call 33; refine (number_okL _ 8 xs _ H.out (by decide) (by decide) hn HBy.out).mono ?_; rw [← HY.out]; rintro e1 w1 ⟨rfl, hb, hr⟩; have HR := Lib.hid hr; clear hr)
  go_ret
  exact ⟨rfl, hb, HR.out⟩


theorem raw_refuses (R : Nat) (n e : Int) (xs : List Int) (w : World) (h : RdL w R xs e) (he : (e != 0) = true) :
    Calls Try.prog 24 #[.pointer (some ⟨R, 0, none⟩), .int .i64 n] w fun f w' => f = .returned (.slice none 0 0) ∧ Below w.heap.size w w' := by
  obtain ⟨a, c, h1, h2, h3, hlow⟩ := h
  obtain ⟨c0, c1, f0, f1⟩ := rd_cell h1
  have lt := lt_of_block h1
  clear h1 h2 hlow
  go_enter Try.func24, Try.ntmps24
  go_wp2_with (go_at_call 34; refine (give_refuses R _ _ _ _ (by simp [go_sem, *]) he).mono ?_; rintro e1 w1 ⟨rfl, rfl⟩)
  exact bodyPost_ret (v := .slice none 0 0) (by simp [results, Try.results24, go_sem]) rfl ⟨rfl, ((Below.refl _ _).alloc (Nat.le_refl _) _)⟩
theorem raw_arg (R : Nat) (n : Int) (xs : List Int) (w : World) (h : RdL w R xs 0) (hn : n < 0) :
    Calls Try.prog 24 #[.pointer (some ⟨R, 0, none⟩), .int .i64 n] w fun f w' => f = .returned (.slice none 0 0) ∧ Only R w w' ∧ RdL w' R xs 2 := by
  obtain ⟨a, c, h1, h2, h3, hlow⟩ := h
  obtain ⟨c0, c1, f0, f1⟩ := rd_cell h1
  have lt := lt_of_block h1
  have hap := seen_apart h2 h1 (by simp) (by simp)
  have H1 := Lib.hid h1
  have H2 := Lib.hid h2
  have HA := Lib.hid hap
  clear h1 h2 hap
  go_enter Try.func24, Try.ntmps24
  go_wp2_with (go_at_call 34; refine (give_arg R _ _ _ (by simp [go_sem, *]) (by simp [go_sem, *]) hn).mono ?_; rintro e1 w1 ⟨rfl, rfl⟩)
  refine bodyPost_ret (v := .slice none 0 0) (by simp [results, Try.results24, go_sem]) rfl ⟨rfl, ?_, ?_⟩
  · exact (((Only.refl _ _).setCell _ _).alloc _)
  · refine ⟨a, c, (((Below.refl _ _).alloc (Nat.le_refl _) _).block R (by simp; omega)).trans (rd_set1 H1.out _), ?_, h3, hlow⟩
    exact H2.out.only ((((Only.refl _ _).setCell _ _).alloc _)) HA.out
theorem raw_short (R : Nat) (n : Int) (xs : List Int) (w : World) (h : RdL w R xs 0) (h0 : 0 ≤ n) (hn : (xs.length : Int) < n) :
    Calls Try.prog 24 #[.pointer (some ⟨R, 0, none⟩), .int .i64 n] w fun f w' => f = .returned (.slice none 0 0) ∧ Only R w w' ∧ RdL w' R xs 7 := by
  obtain ⟨a, c, h1, h2, h3, hlow⟩ := h
  obtain ⟨c0, c1, f0, f1⟩ := rd_cell h1
  have lt := lt_of_block h1
  have hap := seen_apart h2 h1 (by simp) (by simp)
  have H1 := Lib.hid h1
  have H2 := Lib.hid h2
  have HA := Lib.hid hap
  clear h1 h2 hap
  go_enter Try.func24, Try.ntmps24
  go_wp2_with (go_at_call 34; refine (give_short R xs.length c _ a _ _ (by simp [go_sem, *]) (by simp [go_sem, *]) (by simp [go_sem, *]) h0 hn).mono ?_; rintro e1 w1 ⟨rfl, rfl⟩)
  refine bodyPost_ret (v := .slice none 0 0) (by simp [results, Try.results24, go_sem]) rfl ⟨rfl, ?_, ?_⟩
  · exact (((Only.refl _ _).setCell _ _).alloc _)
  · refine ⟨a, c, (((Below.refl _ _).alloc (Nat.le_refl _) _).block R (by simp; omega)).trans (rd_set1 H1.out _), ?_, h3, hlow⟩
    exact H2.out.only ((((Only.refl _ _).setCell _ _).alloc _)) HA.out

theorem Seen.take {w : World} {a : Option Addr} {xs : List Int} (h : Seen w a xs) (m : Nat) : Seen w a (xs.take m) := by
  intro h0
  have h1 : 0 < xs.length := by simp at h0; omega
  obtain ⟨ad, rfl, hc⟩ := h h1
  refine ⟨ad, rfl, fun j v hj => hc j v ?_⟩
  have hjm : j < m := by
    rcases Nat.lt_or_ge j (By (xs.take m)).length with h' | h'
    · rw [By_length] at h'; simp at h'; omega
    · rw [List.getElem?_eq_none h'] at hj; cases hj
  simpa [By, List.getElem?_take_of_lt hjm, List.map_take] using hj
theorem cut_lowO {a : Option Addr} {n c R : Nat} {ad : Addr} (hb : ∀ ad, a = some ad → ad.block < R) (h : cut a n c = some ad) : ad.block < R := by
  unfold cut at h
  split at h
  · exact hb _ h
  · cases a with
    | none => cases h
    | some x =>
      have := hb x rfl
      simp [Addr.add] at h
      subst h
      split <;> exact this
theorem copy35 (a : Option Addr) (n bo : Nat) (xs : List Int) (v0 : Value) (w : World) (hn : xs.length = n) (hs : Seen w a xs) (hm : n ≤ 140737488351232) (hb : w.heap[bo]? = some (.cells #[v0] 22 (0, 0))) :
    Calls Try.prog 35 #[.slice a n n, .pointer (some ⟨bo, 0, none⟩)] w fun g w' => g = .returned (.tuple #[]) ∧ Only bo w w' ∧ w'.heap[bo]? = some (.cells #[.slice (some ⟨w.heap.size, 0, none⟩) n n] 22 (0, 0)) ∧ w'.heap[w.heap.size]? = some (.cells (By xs).toArray 5 (0, 0)) := by
  have HN := Lib.hid hn; clear hn
  have HS := Lib.hid hs; clear hs
  have HB := Lib.hid hb; clear hb
  have lt := lt_of_block HB.out
  go_enter Try.func35, Try.ntmps35
  go_wp2_with (go_at_call 32; refine (copied_any a n n xs w HN.out HS.out hm).mono ?_; rintro e w1 ⟨rfl, hg, hb1⟩; have HG := Lib.hid hg; clear hg; have HB1 := Lib.hid ((hb1.block bo lt).trans HB.out); have hc0 := cell_of_one HB1.out; have hf0 := free_of_one HB1.out)
  go_end0
  exact ⟨rfl, (Only.of_below hb1).setCell _ _, one_setCell HB1.out, (Below.heap_setCell _ _ _ _ (by simp; omega)).trans HG.out⟩

set_option maxHeartbeats 400000 in
theorem raw_ok (R n : Nat) (xs : List Int) (w : World) (h : RdL w R xs 0) (hn : n ≤ xs.length) (hm : n ≤ 140737488351232) :
    Calls Try.prog 24 #[.pointer (some ⟨R, 0, none⟩), .int .i64 (n : Int)] w fun f w' => f = .returned (.slice (some ⟨w.heap.size + 1, 0, none⟩) n n) ∧ w'.heap[w.heap.size + 1]? = some (.cells (By (xs.take n)).toArray 5 (0, 0)) ∧ Only R w w' ∧ RdL w' R (xs.drop n) 0 := by
  obtain ⟨a, c, h1, h2, h3, hlow⟩ := h
  obtain ⟨c0, c1, f0, f1⟩ := rd_cell h1
  have lt := lt_of_block h1
  have H1 := Lib.hid h1
  have H2 := Lib.hid h2
  have HLw := Lib.hid hlow
  clear h1 h2 hlow
  have ez : (w.alloc (.cells #[.slice none 0 0] 22)).heap.size = w.heap.size + 1 := by simp
  have HL : Hid ((xs.take n).length = n) := Lib.hid (by rw [List.length_take]; omega)
  have HF : Hid (Calls Try.prog 35 #[.slice a n n, .pointer (some ⟨w.heap.size, 0, none⟩)] (w.alloc (.cells #[.slice none 0 0] 22)) fun g w' => g = .returned (.tuple #[]) ∧ w'.cell? ⟨R, 0, none⟩ = some (.slice a xs.length c) ∧ w'.frozen? ⟨R, 0, none⟩ = false ∧
      (Only w.heap.size (w.alloc (.cells #[.slice none 0 0] 22)) w' ∧ w'.heap[w.heap.size]? = some (.cells #[.slice (some ⟨w.heap.size + 1, 0, none⟩) n n] 22 (0, 0)) ∧ w'.heap[w.heap.size + 1]? = some (.cells (By (xs.take n)).toArray 5 (0, 0)))) := by
    refine Lib.hid ((copy35 a n w.heap.size (xs.take n) _ _ HL.out ((H2.out.take n).alloc _) hm (heap_alloc_new _ _)).mono ?_)
    rintro e1 w1 ⟨rfl, ho, hx, hy⟩
    have hk : w1.heap[R]? = some (.cells #[.slice a xs.length c, .int .i64 0] 63 (0, 0)) := (ho.block R (by simp; omega) (by omega)).trans ((((Below.refl _ _).alloc (Nat.le_refl _) _).block R lt).trans H1.out)
    obtain ⟨d0, d1, g0, g1⟩ := rd_cell hk
    rw [ez] at hx hy
    exact ⟨rfl, d0, g0, ho, hx, hy⟩
  go_enter Try.func24, Try.ntmps24
  go_wp2_with (go_at_call 34; refine (give35_ok R xs.length c n a _ _ _ (by simp [go_sem, *]) (by simp [go_sem, *]) hn h3 HF.out).mono ?_; rintro e1 w1 ⟨rfl, hg⟩; obtain ⟨w2, ⟨ho, hx, hy⟩, rfl⟩ := hg; have hx0 := cell_of_one hx; have hxf := free_of_one hx; have HX := Lib.hid hx; have HY := Lib.hid hy; have HO := Lib.hid ho; clear hx ho hy)
  have HOw : Hid (Only R w w2) := Lib.hid (Only.of_below (((Below.refl _ _).alloc (Nat.le_refl _) _).trans (HO.out.below (by omega) (by simp))))
  have HRd := (HO.out.block R (by simp; omega) (by omega)).trans ((((Below.refl _ _).alloc (Nat.le_refl _) (.cells #[.slice none 0 0] 22)).block R lt).trans H1.out)
  refine bodyPost_ret (v := .slice (some ⟨w.heap.size + 1, 0, none⟩) n n) (by simp [results, Try.results24, go_sem, hx0]) rfl ⟨rfl, ?_, ?_, ?_⟩
  · exact (Below.heap_setCell _ _ _ _ (by simp)).trans ((Below.heap_setCell _ _ _ _ (by simp; omega)).trans HY.out)
  · exact (HOw.out.setCell _ _).setNew (by omega) _ _
  · refine ⟨_, _, (Below.heap_setCell _ _ _ _ (by simp; omega)).trans (by simpa using rd_set0 HRd _), ?_, by simp; omega, fun ad' he => cut_lowO HLw.out he⟩
    exact (H2.out.cut h3).only ((HOw.out.setCell _ _).setNew (by omega) _ _) (fun ad' he _ => Nat.ne_of_lt (cut_lowO HLw.out he))

end Go.Proofs.Ytngnhieddblnmaa
