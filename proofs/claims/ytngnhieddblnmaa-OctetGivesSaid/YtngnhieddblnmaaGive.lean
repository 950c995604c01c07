/-
  The walks of layer 1's document's answers (headraceref01), at the seat's numbers: Number, Give; Same, said of draws alone; Read, with its places.
-/
import Derived.Test.YtngnhieddblnmaaAll
import Derived.Deep.RegionHeld3
namespace Go.Proofs.Ytngnhieddblnmaa
open Go.ChangeShapes Go.WideShapes Go.ChangeAt Go.RowKit
open Go.Proofs.Ytngnhieddblnmaa.octetCasts (nil_seen)
set_option linter.unusedVariables false

theorem rnum_any (a : Option Addr) (n c : Nat) (xs : List Int) (w : World) (hn : xs.length = n) (hs : Seen w a xs) (h8 : n ≤ 8) (hb : bytesOk xs) :
    Calls Try.prog 20 #[.slice a n c] w fun e w' => e = .returned (.int .u64 (num xs)) ∧ w = w' := by
  have HN := Lib.hid hn; clear hn
  have HS := Lib.hid hs; clear hs
  have HW := Lib.hid hb; clear hb
  go_enter Try.func20, Try.ntmps20
  go_wp2
  go_loopw [3, 4] (fun v i wr => ∃ k : Nat, k ≤ n ∧ i = .int .i64 k ∧ v = .int .u64 (num (xs.take k)) ∧ w = wr) (fun _ i _ => n - (intOf i).toNat)
  case atStart => exact ⟨0, Nat.zero_le _, rfl, rfl, rfl⟩
  case round =>
    obtain ⟨k, hk, rfl, rfl, rfl⟩ := hrel
    by_cases hlt : k < n
    · obtain ⟨b1, o1, rfl, l1, g1⟩ := HS.out.place (by rw [HN.out]; omega)
      have hc := g1 k (by rw [HN.out]; exact hlt)
      clear g1 l1
      obtain ⟨w1, w2⟩ := HW.out k (by rw [HN.out]; exact hlt)
      obtain ⟨w3, w4⟩ := num_bound xs HW.out k (by rw [HN.out]; exact hk)
      have w5 := pow_le7 k (by omega)
      have HJ := Lib.hid (join_byte (num (xs.take k)) (xs[k]?.getD 0) w3 (by omega) w1 w2)
      have HT := Lib.hid (take_snoc xs k (by rw [HN.out]; exact hlt))
      clear w4 w5
      go_wp2
      go_roundw
      case rel =>
        refine ⟨k + 1, by omega, by go_num, ?_, trivial⟩
        rw [HT.out, num_snoc, ← HJ.out]
      case measure => simp [intOf]; omega
    · go_wp2
      go_ret
      have ek : xs.take k = xs := by rw [show k = n by omega, ← HN.out, List.take_length]
      exact ⟨by rw [ek]; rfl, rfl⟩

theorem drewN_drewN (w : World) (i j : Nat) : (w.drewN i).drewN j = w.drewN (i + j) := by
  induction j with
  | zero => rfl
  | succ j ih => exact congrArg World.drew ih
theorem rsameQ_len (a b : Option Addr) (n m c d : Nat) (w : World) (h : ((n : Int) != (m : Int)) = true) :
    Calls Try.prog 11 #[.slice a n c, .slice b m d] w fun e w' => e = .returned (.bool false) ∧ ∃ q, w' = w.drewN q := by
  go_enter Try.func11, Try.ntmps11
  go_wp2
  go_ret
  exact ⟨rfl, 0, rfl⟩
theorem rsameQ_some (a b : Option Addr) (n c d : Nat) (xs ys : List Int) (w : World) (hm : n ≤ 140737488351232) (hx : xs.length = n) (hy : ys.length = n) (h1 : Seen w a xs) (h2 : Seen w b ys) :
    Calls Try.prog 11 #[.slice a n c, .slice b n d] w fun e w' => e = .returned (.bool (same xs ys)) ∧ ∃ q, w' = w.drewN q := by
  have H1 := Lib.hid h1; have H2 := Lib.hid h2; have HX := Lib.hid hx; have HY := Lib.hid hy
  clear h1 h2 hx hy
  go_enter Try.func11, Try.ntmps11
  go_wp2
  go_loopw [5] (fun i wr => ∃ k : Nat, k ≤ n ∧ i = .int .i64 k ∧ xs.take k = ys.take k ∧ ∃ q, wr = w.drewN q) (fun i _ => n - (intOf i).toNat)
  case atStart => exact ⟨0, Nat.zero_le _, rfl, rfl, 0, rfl⟩
  case round =>
    obtain ⟨k, hk, rfl, he, q, hb⟩ := hrel
    have HE := Lib.hid he; clear he
    have HB : Hid (Below w.heap.size w wr) := Lib.hid (by rw [hb]; exact drewN_below _ _ _)
    have HQ := Lib.hid hb; clear hb
    by_cases hlt : k < n
    · obtain ⟨b1, o1, rfl, l1, g1⟩ := H1.out.place (by rw [HX.out]; omega)
      obtain ⟨b2, o2, rfl, l2, g2⟩ := H2.out.place (by rw [HY.out]; omega)
      have k1 := (HB.out.cell (p := ⟨b1, o1 + k, none⟩) l1).trans (g1 k (by rw [HX.out]; exact hlt))
      have k2 := (HB.out.cell (p := ⟨b2, o2 + k, none⟩) l2).trans (g2 k (by rw [HY.out]; exact hlt))
      clear g1 g2
      go_wp2
      go_quiet (fail)
      go_wp2
      · have hne : (xs[k]?.getD 0 != ys[k]?.getD 0) = true := by assumption
        go_ret
        refine ⟨?_, q + nq, by rw [HQ.out, drewN_drewN]⟩
        rw [same_not hne]; rfl
      · have heq : (xs[k]?.getD 0 != ys[k]?.getD 0) = false := by assumption
        go_roundw
        case rel => exact ⟨k + 1, by omega, by go_num, by rw [take_snoc xs k (by rw [HX.out]; exact hlt), take_snoc ys k (by rw [HY.out]; exact hlt), HE.out]; simp at heq; rw [heq], q + nq, by rw [HQ.out, drewN_drewN]⟩
        case measure => simp [intOf]; omega
    · go_wp2
      go_ret
      refine ⟨?_, q, HQ.out⟩
      have h := HE.out
      rw [show k = n by omega, List.take_of_length_le (by rw [HX.out]; exact Nat.le_refl _), List.take_of_length_le (by rw [HY.out]; exact Nat.le_refl _)] at h
      simp [same, h]
theorem rsameQ_any (a b : Option Addr) (n m c d : Nat) (xs ys : List Int) (w : World) (hx : xs.length = n) (hy : ys.length = m) (hm : n ≤ 140737488351232) (h1 : Seen w a xs) (h2 : Seen w b ys) :
    Calls Try.prog 11 #[.slice a n c, .slice b m d] w fun e w' => e = .returned (.bool (same xs ys)) ∧ ∃ q, w' = w.drewN q := by
  by_cases hnm : n = m
  · subst hnm
    exact rsameQ_some a b n c d xs ys w hm hx hy h1 h2
  · have hs : same xs ys = false := by
      simp only [same, decide_eq_false_iff_not]
      rintro rfl
      omega
    rw [hs]
    exact rsameQ_len a b n m c d w (by simp; omega)

theorem readX (a : Option Addr) (n c : Nat) (xs : List Int) (w : World) (hn : xs.length = n) (hs : Seen w a xs) (hreach : n ≤ 140737488351232) :
    Calls Try.prog 17 #[.slice a n c] w fun e w' => (∃ R, e = .returned (.pointer (some ⟨R, 0, none⟩)) ∧ w.heap.size < R ∧ w'.heap[w.heap.size]? = some (.cells (By xs).toArray 5 (0, 0)) ∧ w'.heap[R]? = some (.cells #[.slice (some ⟨w.heap.size, 0, none⟩) n n, .int .i64 0] 63 (0, 0))) ∧ Below w.heap.size w w' := by
  have HN := Lib.hid hn; clear hn
  have HS := Lib.hid hs; clear hs
  go_enter Try.func17, Try.ntmps17
  go_wp2_with (go_at_call 32; refine (copied_any _ _ _ xs _ HN.out HS.out hreach).mono ?_; rintro e w1 ⟨rfl, hg, hb⟩; have HG := Lib.hid hg; clear hg)
  go_ret
  have h1 := lt_of_block HG.out
  exact ⟨⟨w1.heap.size, rfl, h1, ((Below.refl _ _).alloc (Nat.le_refl _) _).block _ h1 |>.trans HG.out, heap_alloc_new _ _⟩, hb.alloc (by omega) _⟩
theorem rdl_of {w : World} {R g n : Nat} {xs : List Int} (hn : xs.length = n) (hg : g < R) (h1 : w.heap[g]? = some (.cells (By xs).toArray 5 (0, 0))) (h2 : w.heap[R]? = some (.cells #[.slice (some ⟨g, 0, none⟩) n n, .int .i64 0] 63 (0, 0))) : RdL w R xs 0 := by
  subst hn
  exact ⟨_, _, h2, Seen.row h1, Nat.le_refl _, fun ad he => by cases he; exact hg⟩

theorem rgive_ref (a : Option Addr) (l c : Nat) (e n : Int) (w : World) (he : (e != 0) = true) :
    Calls Try.prog 18 #[.agg #[.slice a l c, .int .i64 e], .int .i64 n] w fun f w' => f = .returned (.tuple #[.agg #[.slice a l c, .int .i64 e], .slice none 0 0]) ∧ Below w.heap.size w w' := by
  go_enter Try.func18, Try.ntmps18
  go_wp2
  refine bodyPost_ret (v := .tuple #[.agg #[.slice a l c, .int .i64 e], .slice none 0 0]) (by simp [results, Try.results18, go_sem]) rfl ⟨rfl, ?_⟩
  exact (((Below.refl _ _).alloc (Nat.le_refl _) _).alloc (by simp) _)
theorem rgive_arg (a : Option Addr) (l c : Nat) (n : Int) (w : World) (hn : n < 0) :
    Calls Try.prog 18 #[.agg #[.slice a l c, .int .i64 0], .int .i64 n] w fun f w' => f = .returned (.tuple #[.agg #[.slice a l c, .int .i64 2], .slice none 0 0]) ∧ Below w.heap.size w w' := by
  go_enter Try.func18, Try.ntmps18
  go_wp2
  refine bodyPost_ret (v := .tuple #[.agg #[.slice a l c, .int .i64 2], .slice none 0 0]) (by simp [results, Try.results18, go_sem]) rfl ⟨rfl, ?_⟩
  exact (((Below.refl _ _).alloc (Nat.le_refl _) _).alloc (by simp) _)
theorem rgive_short (a : Option Addr) (l c : Nat) (n : Int) (w : World) (h0 : 0 ≤ n) (hn : (l : Int) < n) :
    Calls Try.prog 18 #[.agg #[.slice a l c, .int .i64 0], .int .i64 n] w fun f w' => f = .returned (.tuple #[.agg #[.slice a l c, .int .i64 7], .slice none 0 0]) ∧ Below w.heap.size w w' := by
  go_enter Try.func18, Try.ntmps18
  go_wp2
  refine bodyPost_ret (v := .tuple #[.agg #[.slice a l c, .int .i64 7], .slice none 0 0]) (by simp [results, Try.results18, go_sem]) rfl ⟨rfl, ?_⟩
  exact (((Below.refl _ _).alloc (Nat.le_refl _) _).alloc (by simp) _)

/-- What Give gives where there is enough. -/
def IsGave (n l c : Nat) (a : Option Addr) (ys : List Int) (f : Ending) (w' : World) : Prop :=
  ∃ a5 c5, f = .returned (.tuple #[.agg #[.slice (cut a n c) (l - n) (c - n), .int .i64 0], .slice a5 n c5]) ∧ Seen w' a5 ys
theorem gseen {w : World} {b : Nat} {a : Option Addr} {xs : List Int} {v0 v1 : Value} (h : Seen w a xs) (hb : ∀ ad, a = some ad → b < ad.block) : Seen ((w.setCell ⟨b, 0, none⟩ v0).setCell ⟨b, 1, none⟩ v1) a xs := by
  intro h0
  obtain ⟨b1, o1, rfl, _, _⟩ := h.place h0
  obtain ⟨ad, he, hc⟩ := h h0
  obtain rfl : ad = ⟨b1, o1, none⟩ := by simpa using he.symm
  have hlt := hb _ rfl
  refine ⟨_, rfl, fun j v hj => ?_⟩
  have hk := hc j v hj
  have e : (⟨b1, o1, none⟩ : Addr).add j = ⟨b1, o1 + j, none⟩ := by cases j <;> simp [Addr.add]
  rw [e] at hk ⊢
  simp only at hlt
  refine (World.cell?_of_block (w := w) (a := ⟨b1, o1 + j, none⟩) ?_).trans hk
  exact (Below.heap_setCell _ _ _ _ (by simp; omega)).trans (Below.heap_setCell _ _ _ _ (by simp; omega))
theorem gcells (w : World) (v0 v1 u0 u1 : Value) : let W := (w.alloc (.cells #[v0, v1] 40)).alloc (.cells #[u0, u1] 40); W.cell? ⟨w.heap.size, 0, none⟩ = some v0 ∧ W.cell? ⟨w.heap.size + 1, 0, none⟩ = some u0 ∧ W.cell? ⟨w.heap.size + 1, 1, none⟩ = some u1 ∧ W.frozen? ⟨w.heap.size + 1, 0, none⟩ = false ∧ W.frozen? ⟨w.heap.size + 1, 1, none⟩ = false := by
  refine ⟨?_, ?_, ?_, ?_, ?_⟩ <;> simp [go_sem]
theorem gkeep {W w1 : World} {b0 b1 : Nat} {v0 u0 u1 : Value} (hb : Below W.heap.size W w1) (h : W.cell? ⟨b0, 0, none⟩ = some v0 ∧ W.cell? ⟨b1, 0, none⟩ = some u0 ∧ W.cell? ⟨b1, 1, none⟩ = some u1 ∧ W.frozen? ⟨b1, 0, none⟩ = false ∧ W.frozen? ⟨b1, 1, none⟩ = false) :
    w1.cell? ⟨b0, 0, none⟩ = some v0 ∧ w1.cell? ⟨b1, 0, none⟩ = some u0 ∧ w1.cell? ⟨b1, 1, none⟩ = some u1 ∧ w1.frozen? ⟨b1, 0, none⟩ = false ∧ w1.frozen? ⟨b1, 1, none⟩ = false := by
  obtain ⟨h0, h1, h2, h3, h4⟩ := h
  have lt := World.block_lt_of_cell? _ _ h1
  exact ⟨cell_later hb h0, cell_later hb h1, cell_later hb h2, (hb.frozen (p := ⟨b1, 0, none⟩) lt).trans h3, (hb.frozen (p := ⟨b1, 1, none⟩) lt).trans h4⟩
set_option maxHeartbeats 800000 in
theorem rgive_cut (a : Option Addr) (l c n : Nat) (xs : List Int) (w : World) (hx : xs.length = l) (hs : Seen w a xs) (hn : n ≤ l) (hl : l ≤ c) (hm : n ≤ 140737488351232) (hcn : ¬ c = n) :
    Calls Try.prog 18 #[.agg #[.slice a l c, .int .i64 0], .int .i64 (n : Int)] w fun f w' => IsGave n l c a (xs.take n) f w' ∧ Below w.heap.size w w' := by
  have HX := Lib.hid hx; clear hx
  have HT : Hid ((xs.take n).length = n) := Lib.hid (by rw [List.length_take, HX.out]; omega)
  have HM0 : Hid (n + 0 ≤ 140737488351232) := Lib.hid (by omega)
  have hnc : (n : Int) ≤ (c : Int) := by omega
  have hnl : (n : Int) ≤ (l : Int) := by omega
  have HS := Lib.hid (hs.take n); clear hs
  have HCU : Hid (a.map (fun x => x.add n) = cut a n c) := Lib.hid (by rw [cut, if_neg hcn])
  go_enter Try.func18, Try.ntmps18
  go_upto_region 7 with fail
  have hS := gcells w (.slice a l c) (.int .i64 0) (.slice none 0 0) (.int .i64 0)
  have HBW : Hid (Below w.heap.size w ((w.alloc (.cells #[.slice a l c, .int .i64 0] 40)).alloc (.cells #[.slice none 0 0, .int .i64 0] 40))) := Lib.hid (((Below.refl _ _).alloc (Nat.le_refl _) _).alloc (by simp) _)
  have HWS : Hid (w.heap.size ≤ ((w.alloc (.cells #[.slice a l c, .int .i64 0] 40)).alloc (.cells #[.slice none 0 0, .int .i64 0] 40)).heap.size) := Lib.hid HBW.out.size
  have HSW := Lib.hid (HS.out.later HBW.out)
  generalize (w.alloc (.cells #[.slice a l c, .int .i64 0] 40)).alloc (.cells #[.slice none 0 0, .int .i64 0] 40) = W at hS HBW HWS HSW ⊢
  have hf := hS.2
  have s8 := hS.1
  clear hS
  go_region_held3 (fun w' => w'.cell? ⟨w.heap.size, 0, none⟩ = some (.slice a l c)) (first | assumption | go_keep) (first
    | (go_at_call 12; ((with_reducible refine (both_any a none n 0 c 0 (xs.take n) [] W.drew HT.out rfl HM0.out (HSW.out.later (drewN_below _ _ 1)) (nil_seen _)).mono ?_); rintro e w8 ⟨⟨v8, rfl, ho8⟩, hb8⟩; have s9 := (gkeep hb8 ⟨s8, hf⟩).1; obtain ⟨f0, f1, f2, f3⟩ := (gkeep hb8 ⟨s8, hf⟩).2; obtain ⟨a8, c8, rfl, hs8, hl8, _, hb0, _⟩ := own_view ho8; clear ho8; have HS8 := Lib.hid hs8; clear hs8)))
  go_wp2
  refine bodyPost_ret (v := .tuple #[.agg #[.slice (a.map (fun x => x.add n)) (l - n) (c - n), .int .i64 0], .slice a8 n c8]) (by simp [results, Try.results18, go_sem, *]) rfl ⟨⟨a8, c8, by rw [HCU.out], ?_⟩, ?_⟩
  · have h := HS8.out
    rw [List.append_nil] at h
    exact gseen h (fun ad he => Nat.lt_of_lt_of_le (World.block_lt_of_cell? _ _ hf.1) (hb0 ad he))
  · exact (((HBW.out.drew.trans (hb8.mono HWS.out)).setCell (by simp) _).setCell (by simp) _)
set_option maxHeartbeats 800000 in
theorem rgive_all (a : Option Addr) (n : Nat) (xs : List Int) (w : World) (hx : xs.length = n) (hs : Seen w a xs) (hm : n ≤ 140737488351232) :
    Calls Try.prog 18 #[.agg #[.slice a n n, .int .i64 0], .int .i64 (n : Int)] w fun f w' => IsGave n n n a (xs.take n) f w' ∧ Below w.heap.size w w' := by
  have HX := Lib.hid hx; clear hx
  have HT : Hid ((xs.take n).length = n) := Lib.hid (by rw [List.length_take, HX.out]; omega)
  have HM0 : Hid (n + 0 ≤ 140737488351232) := Lib.hid (by omega)
  have HS := Lib.hid (hs.take n); clear hs
  have HCU : Hid (a = cut a n n) := Lib.hid (by rw [cut, if_pos rfl])
  go_enter Try.func18, Try.ntmps18
  go_upto_region 7 with fail
  have hS := gcells w (.slice a n n) (.int .i64 0) (.slice none 0 0) (.int .i64 0)
  have HBW : Hid (Below w.heap.size w ((w.alloc (.cells #[.slice a n n, .int .i64 0] 40)).alloc (.cells #[.slice none 0 0, .int .i64 0] 40))) := Lib.hid (((Below.refl _ _).alloc (Nat.le_refl _) _).alloc (by simp) _)
  have HWS : Hid (w.heap.size ≤ ((w.alloc (.cells #[.slice a n n, .int .i64 0] 40)).alloc (.cells #[.slice none 0 0, .int .i64 0] 40)).heap.size) := Lib.hid HBW.out.size
  have HSW := Lib.hid (HS.out.later HBW.out)
  generalize (w.alloc (.cells #[.slice a n n, .int .i64 0] 40)).alloc (.cells #[.slice none 0 0, .int .i64 0] 40) = W at hS HBW HWS HSW ⊢
  have hf := hS.2
  have s8 := hS.1
  clear hS
  go_region_held3 (fun w' => w'.cell? ⟨w.heap.size, 0, none⟩ = some (.slice a n n)) (first | assumption | go_keep) (first
    | (go_at_call 12; ((with_reducible refine (both_any a none n 0 n 0 (xs.take n) [] W.drew HT.out rfl HM0.out (HSW.out.later (drewN_below _ _ 1)) (nil_seen _)).mono ?_); rintro e w8 ⟨⟨v8, rfl, ho8⟩, hb8⟩; have s9 := (gkeep hb8 ⟨s8, hf⟩).1; obtain ⟨f0, f1, f2, f3⟩ := (gkeep hb8 ⟨s8, hf⟩).2; obtain ⟨a8, c8, rfl, hs8, hl8, _, hb0, _⟩ := own_view ho8; clear ho8; have HS8 := Lib.hid hs8; clear hs8)))
  go_wp2
  refine bodyPost_ret (v := .tuple #[.agg #[.slice a 0 0, .int .i64 0], .slice a8 n c8]) (by simp [results, Try.results18, go_sem, *]) rfl ⟨⟨a8, c8, by rw [← HCU.out, Nat.sub_self], ?_⟩, ?_⟩
  · have h := HS8.out
    rw [List.append_nil] at h
    exact gseen h (fun ad he => Nat.lt_of_lt_of_le (World.block_lt_of_cell? _ _ hf.1) (hb0 ad he))
  · exact (((HBW.out.drew.trans (hb8.mono HWS.out)).setCell (by simp) _).setCell (by simp) _)

theorem rgive_ok (a : Option Addr) (l c n : Nat) (xs : List Int) (w : World) (hx : xs.length = l) (hs : Seen w a xs) (hn : n ≤ l) (hl : l ≤ c) (hm : n ≤ 140737488351232) :
    Calls Try.prog 18 #[.agg #[.slice a l c, .int .i64 0], .int .i64 (n : Int)] w fun f w' => IsGave n l c a (xs.take n) f w' ∧ Below w.heap.size w w' := by
  by_cases hcn : c = n
  · subst hcn
    obtain rfl : l = c := by omega
    exact rgive_all a l xs w hx hs hm
  · exact rgive_cut a l c n xs w hx hs hn hl hm hcn
end Go.Proofs.Ytngnhieddblnmaa
