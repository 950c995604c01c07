/-
  The walk of 'OctetGives' (P1.2, P1.3).
-/
import Derived.Test.YtngnhieddblnmaaSteps
import Derived.Deep.CutRange
import Derived.Deep.CutBlock
import Derived.Deep.DeepCutAuto
import Derived.Deep.QuietTactic
import Derived.BigQuiet
namespace Go.Proofs.Ytngnhieddblnmaa
open Go.ChangeShapes Go.WideShapes Go.ChangeAt Go.RowKit
open Go.Proofs.Ytngnhieddblnmaa.octetCasts (nil_seen)
set_option linter.unusedVariables false

/-- A row that begins with bytes. -/
def RowC (w : World) (g n : Nat) : Prop := ∃ cur : Array Value, w.heap[g]? = some (.cells cur 5 (0, 0)) ∧ ∀ j, j < n → ∃ x, cur[j]? = some (.int .u8 x)
theorem RowC.cell {w : World} {g n : Nat} (h : RowC w g n) (j : Nat) (hj : j < n) : ∃ x, w.cell? ⟨g, j, none⟩ = some (.int .u8 x) := by
  obtain ⟨cur, hg, hc⟩ := h
  obtain ⟨x, hx⟩ := hc j hj
  exact ⟨x, by simp [World.cell?, hg, hx]⟩
theorem RowC.free {w : World} {g n : Nat} (h : RowC w g n) (j : Nat) : w.frozen? ⟨g, j, none⟩ = false := by
  obtain ⟨cur, hg, hc⟩ := h
  simp [World.frozen?, hg]
theorem RowC.set {w : World} {g n : Nat} (h : RowC w g n) (o : Nat) (x : Int) : RowC (w.setCell ⟨g, o, none⟩ (.int .u8 x)) g n := by
  obtain ⟨cur, hg, hc⟩ := h
  refine ⟨cur.setIfInBounds o (.int .u8 x), block_setCell hg o _, fun j hj => ?_⟩
  obtain ⟨y, hy⟩ := hc j hj
  by_cases he : o = j
  · subst he
    have : o < cur.size := by
      rcases Nat.lt_or_ge o cur.size with h | h
      · exact h
      · rw [Array.getElem?_eq_none h] at hy; cases hy
    exact ⟨x, by simp [this]⟩
  · exact ⟨y, by simp [he, hy]⟩
/-- What 'in' is: nil, or a row of the call's own. -/
def OwnRow (B : Nat) (w : World) (a : Option Addr) (n : Nat) : Prop := 0 < n → ∃ g, a = some ⟨g, 0, none⟩ ∧ B ≤ g ∧ g < w.heap.size ∧ RowC w g n
theorem own_in {B n c : Nat} {w : World} {a : Option Addr} {xs : List Int} (h : w.ownsRow B 5 1 (.slice a n c) n (By xs)) : OwnRow B w a n := by
  intro h0
  obtain ⟨hl, h⟩ := h
  rw [By_length, Nat.mul_one] at hl
  rcases h with ⟨hv, rfl⟩ | ⟨g, cap, cur, hv, hB, hg, hn, hc, hs, ht⟩
  · exact absurd h0 (by omega)
  · simp at hv
    obtain ⟨rfl, rfl⟩ := hv
    refine ⟨g, rfl, hB, lt_of_block hg, cur, hg, fun j hj => ?_⟩
    have : (By xs)[j]? = cur[j]? := by rw [← ht, Nat.mul_one, List.getElem?_take_of_lt hj, Array.getElem?_toList]
    rw [← this]
    exact ⟨xs[j]?.getD 0, by simp [By, List.getElem?_eq_getElem (show j < xs.length by omega)]⟩
theorem m_cell {w : World} {M n c t : Nat} {a : Option Addr} {e : Int} (h : w.heap[M]? = some (.cells #[.slice a n c, .int .i64 e] t (0, 0))) :
    w.cell? ⟨M, 0, none⟩ = some (.slice a n c) ∧ w.cell? ⟨M, 1, none⟩ = some (.int .i64 e) ∧ w.frozen? ⟨M, 0, none⟩ = false ∧ w.frozen? ⟨M, 1, none⟩ = false := by
  simp [World.cell?, World.frozen?, h]
theorem m_set {w : World} {M t : Nat} {u0 u1 v0 v1 : Value} (h : w.heap[M]? = some (.cells #[u0, u1] t (0, 0))) : ((w.setCell ⟨M, 0, none⟩ v0).setCell ⟨M, 1, none⟩ v1).heap[M]? = some (.cells #[v0, v1] t (0, 0)) := by
  rw [block_setCell (block_setCell h 0 v0)]
  simp
theorem keepN {b B : Nat} {w w1 : World} {o : Obj} (hb : Below B w w1) (hB : b < B) (h : w.heap[b]? = some o) : w1.heap[b]? = some o := (hb.block b hB).trans h
theorem apart_rdl {w : World} {R : Nat} {rs xs : List Int} {e : Int} {a : Option Addr} (h : Seen w a xs) (hr : RdL w R rs e) : ∀ ad, a = some ad → 0 < xs.length → ad.block ≠ R := by
  obtain ⟨_, _, h1, _⟩ := hr
  exact seen_apart h h1 (by simp) (by simp)
theorem sameQ_at (a b : Option Addr) (n c d : Nat) (xs : List Int) (w : World) (j : Nat) (hx : xs.length = n) (hm : n ≤ 140737488351232) (h1 : Seen w a xs) (h2 : Seen w b xs) :
    Calls Try.prog 11 #[.slice a n c, .slice b n d] (w.drewN j) fun e w'' => e = .returned (.bool true) ∧ ∃ m, w'' = w.drewN m := by
  refine quiet_more ((rsameQ_any a b n n c d xs xs (w.drewN j) hx hx hm (h1.later (drewN_below _ _ _)) (h2.later (drewN_below _ _ _))).mono ?_)
  rintro e w' ⟨rfl, hq⟩
  exact ⟨by simp [same], hq⟩
theorem rsameT (a b : Option Addr) (n c d : Nat) (xs : List Int) (w : World) (hx : xs.length = n) (hm : n ≤ 140737488351232) (h1 : Seen w a xs) (h2 : Seen w b xs) :
    Calls Try.prog 11 #[.slice a n c, .slice b n d] w fun e w' => e = .returned (.bool true) ∧ Below w.heap.size w w' := by
  refine (rsame_any a b n n c d xs xs w hx hx hm h1 h2).mono ?_
  rintro e w' ⟨rfl, hq⟩
  exact ⟨by simp [same], hq⟩
theorem restN (R : Nat) (xs : List Int) (e : Int) (n : Nat) (w : World) (h : RdAt w R xs e) (hreach : xs.length ≤ 140737488351232) (hn : xs.length = n) :
    Calls Try.prog 25 #[.pointer (some ⟨R, 0, none⟩)] w fun f w' => (∃ g, f = .returned (.slice (some ⟨g, 0, none⟩) n n) ∧ w.heap.size ≤ g ∧ w'.heap[g]? = some (.cells (By xs).toArray 5 (0, 0))) ∧ Below w.heap.size w w' := by
  subst hn
  exact rest_any R xs e w h hreach
theorem leftQ_at (R : Nat) (xs : List Int) (e : Int) (n : Nat) (w : World) (j : Nat) (h : RdAt w R xs e) (hn : xs.length = n) :
    Calls Try.prog 26 #[.pointer (some ⟨R, 0, none⟩)] (w.drewN j) fun f w'' => f = .returned (.int .i64 (n : Int)) ∧ ∃ m, w'' = w.drewN m := by
  subst hn
  refine (left_any R xs e (w.drewN j) (h.later (drewN_below _ _ _))).mono ?_
  rintro f w' ⟨rfl, rfl⟩
  exact ⟨rfl, j, rfl⟩
theorem errQ_at (R : Nat) (xs : List Int) (e : Int) (w : World) (j : Nat) (h : RdAt w R xs e) :
    Calls Try.prog 27 #[.pointer (some ⟨R, 0, none⟩)] (w.drewN j) fun f w'' => f = .returned (.int .i64 e) ∧ ∃ m, w'' = w.drewN m := by
  refine (err_any R xs e (w.drewN j) (h.later (drewN_below _ _ _))).mono ?_
  rintro f w' ⟨rfl, rfl⟩
  exact ⟨rfl, j, rfl⟩

set_option maxHeartbeats 4000000 in
set_option maxRecDepth 100000 in
theorem gives_main (a la : Option Addr) (n c m lc : Nat) (xs : List Int) (K N : Nat → Int) (w : World) (h : InB w a n c xs) (hl : Wants w la m K N) (hn : n ≤ 3000) (hm : m ≤ 200) :
    Calls Try.prog 4 #[.slice a n c, .slice la m lc] w fun e w' => e = .returned (.bool true) ∧ Below w.heap.size w w' := by
  have HA := Lib.hid h; clear h
  have HL := Lib.hid hl; clear hl
  have HM : Hid (n ≤ 140737488351232) := Lib.hid (by omega)
  have HMz : Hid (n + 0 ≤ 140737488351232) := Lib.hid (by omega)
  have HXL : Hid ((xs ++ []).length = n) := Lib.hid (by rw [List.append_nil]; exact HA.out.len)
  go_enter Try.func4, Try.ntmps4
  go_wp2_with (first
    | (go_at_call 9; refine (wakes_any _).mono ?_; rintro e w1 ⟨rfl, hb1⟩; have A1 := Lib.hid (HA.out.later hb1))
    | (go_at_call 12; ((with_reducible refine (both_any a none n 0 c 0 xs [] w1 A1.out.len rfl HMz.out A1.out.seen (nil_seen _)).mono ?_); rintro e w2 ⟨⟨v2, rfl, ho2⟩, hb2⟩; obtain ⟨a2, c2, rfl, hs2, hl2, _, _, _⟩ := own_view ho2; have SO2 := Lib.hid hs2; clear hs2; have SL2 := Lib.hid hl2; clear hl2; have OI2 : Hid (OwnRow w1.heap.size w2 a2 n) := Lib.hid (own_in ho2); clear ho2))
    | (go_at_call 17; ((with_reducible refine (readX a2 n c2 (xs ++ []) w2 HXL.out SO2.out HM.out).mono ?_); rintro e w3 ⟨⟨R, rfl, hR, hg3, hR3⟩, hb3⟩; have HG3 := Lib.hid hg3; clear hg3; have HR3 := Lib.hid hR3; clear hR3)))
  have z1 := hb1.size
  have z2 := hb2.size
  have HRw : Hid (w.heap.size ≤ R) := Lib.hid (by omega)
  have HRg : Hid (w2.heap.size < R) := Lib.hid hR
  have HW2 : Hid (w1.heap.size ≤ w2.heap.size) := Lib.hid z2
  have HW1 : Hid (w.heap.size ≤ w1.heap.size) := Lib.hid z1
  have HR3l : Hid (R < w3.heap.size) := Lib.hid (lt_of_block HR3.out)
  have HB3 : Hid (Below w.heap.size w w3) := Lib.hid ((hb1.trans (hb2.mono z1)).trans (hb3.mono (by omega)))
  have OI3 : Hid (OwnRow w1.heap.size w3 a2 n) := Lib.hid (fun h0 => by
    obtain ⟨g, h1, h2, h3, cur, h4, h5⟩ := OI2.out h0
    exact ⟨g, h1, h2, Nat.lt_of_lt_of_le h3 hb3.size, cur, keepN hb3 h3 h4, h5⟩)
  have HgL : Hid (∀ g, a2 = some ⟨g, 0, none⟩ → 0 < n → g < w2.heap.size) := Lib.hid (fun g hg h0 => by
    obtain ⟨g', h1, h2, h3, _⟩ := OI2.out h0
    rw [hg] at h1
    simp at h1
    omega)
  clear z1 z2 hb1 hb2 hb3 hR OI2 SO2 SL2 A1
  go_loopw [37] (fun i wr => ∃ k : Nat, k ≤ n ∧ i = .int .i64 k ∧ OwnRow w1.heap.size wr a2 n ∧ wr.heap[w2.heap.size]? = some (.cells (By (xs ++ [])).toArray 5 (0, 0)) ∧ wr.heap[R]? = some (.cells #[.slice (some ⟨w2.heap.size, 0, none⟩) n n, .int .i64 0] 63 (0, 0)) ∧ wr.heap[w3.heap.size]? = some (.cells #[.slice a n c, .int .i64 0] 40 (0, 0)) ∧ Below w.heap.size w wr) (fun i _ => n - (intOf i).toNat)
  case atStart =>
    have q1 := HR3l.out
    have q2 := HRg.out
    refine ⟨0, Nat.zero_le _, rfl, fun h0 => ?_, ?_, ?_, ?_, HB3.out.alloc (by have := HB3.out.size; omega) _⟩
    · obtain ⟨g, h1, h2, h3, cur, h4, h5⟩ := OI3.out h0
      exact ⟨g, h1, h2, by simp; omega, cur, keepN ((Below.refl w3.heap.size w3).alloc (Nat.le_refl _) _) h3 h4, h5⟩
    · exact keepN ((Below.refl w3.heap.size w3).alloc (Nat.le_refl _) _) (by omega) HG3.out
    · exact keepN ((Below.refl w3.heap.size w3).alloc (Nat.le_refl _) _) (by omega) HR3.out
    · exact heap_alloc_new _ _
  case round =>
    obtain ⟨k, hk, rfl, ho, hg, hR, hM, hb⟩ := hrel
    have HGk := Lib.hid hg; clear hg
    have HRk := Lib.hid hR; clear hR
    have HMk := Lib.hid hM; clear hM
    have HBk := Lib.hid hb; clear hb
    have HOk := Lib.hid ho; clear ho
    by_cases hlt : k < n
    · obtain ⟨g, rfl, h2, h3, h4⟩ := HOk.out (by omega)
      have hgl := HgL.out g rfl (by omega)
      obtain ⟨x, hc⟩ := h4.cell k hlt
      have hf := h4.free k
      have H4 := Lib.hid h4; clear h4
      go_wp2
      go_roundw
      case rel =>
        have q1 := HR3l.out
        have q2 := HRg.out
        have q3 := HW1.out
        refine ⟨k + 1, by omega, by go_num, fun _ => ⟨g, rfl, h2, by simpa using h3, H4.out.set _ _⟩, ?_, ?_, ?_, HBk.out.setCell (by simp; omega) _⟩
        · rw [Below.heap_setCell _ _ _ _ (by simp; omega)]; exact HGk.out
        · rw [Below.heap_setCell _ _ _ _ (by simp; omega)]; exact HRk.out
        · rw [Below.heap_setCell _ _ _ _ (by simp; omega)]; exact HMk.out
      case measure => simp [intOf]; omega
    · clear HOk
      have HRD : Hid (RdL wr R xs 0) := Lib.hid (by
        have := rdl_of HXL.out HRg.out HGk.out HRk.out
        rwa [List.append_nil] at this)
      clear HGk HRk
      have HMw : Hid (w3.heap.size < wr.heap.size) := Lib.hid (lt_of_block HMk.out)
      obtain ⟨M, hMe⟩ : ∃ M, w3.heap.size = M := ⟨_, rfl⟩
      rw [hMe] at HMk HR3l HMw
      go_wp2
      rw [hMe]
      go_loopw [51] (fun i wr => ∃ (q : Nat) (rs : List Int) (e : Int) (aM : Option Addr) (ml cM : Nat), q ≤ m ∧ i = .int .i64 q ∧ wr.heap[M]? = some (.cells #[.slice aM ml cM, .int .i64 e] 40 (0, 0)) ∧ Seen w aM rs ∧ rs.length = ml ∧ ml ≤ cM ∧ ml ≤ 3000 ∧ bytesOk rs ∧ RdL wr R rs e ∧ Below w.heap.size w wr) (fun i _ => m - (intOf i).toNat)
      case atStart => exact ⟨0, xs, 0, a, n, c, Nat.zero_le _, rfl, HMk.out, HA.out.seen, HA.out.len, HA.out.cap, hn, HA.out.ok, HRD.out, HBk.out⟩
      case round =>
        clear HMk HRD HBk HMw HB3 HR3 HG3 OI3 HgL hMe
        obtain ⟨q, rs, e, aM, ml, cM, hq, rfl, hM, hsM, hlM, hcM, h3M, hok, hrd, hbw⟩ := hrel
        have HSM := Lib.hid hsM; clear hsM
        have HLM := Lib.hid hlM; clear hlM
        have HCM := Lib.hid hcM; clear hcM
        have H3M := Lib.hid h3M; clear h3M
        have HOK := Lib.hid hok; clear hok
        have HRd := Lib.hid hrd; clear hrd
        have HB := Lib.hid hbw; clear hbw
        have HMo := Lib.hid hM
        obtain ⟨m0, m1, mf0, mf1⟩ := m_cell hM
        clear hM
        by_cases hlt : q < m
        · obtain ⟨b1, o1, rfl, l1, g1⟩ := HL.out (by omega)
          obtain ⟨g1k, g1n⟩ := g1 q hlt
          have hck := (HB.out.cell (p := ⟨b1, o1 + q * 2, none⟩) l1).trans g1k
          have hcn := (HB.out.cell (p := ⟨b1, o1 + q * 2 + 1, none⟩) l1).trans g1n
          clear g1k g1n g1
          obtain ⟨kq, hkq⟩ : ∃ k, K q = k := ⟨_, rfl⟩
          obtain ⟨vq, hvq⟩ : ∃ k, N q = k := ⟨_, rfl⟩
          rw [hkq] at hck
          rw [hvq] at hcn
          clear hkq hvq
          have HMl : Hid (M < wr.heap.size) := Lib.hid (lt_of_block HMo.out)
          have HBk : Hid (Below w.heap.size w (wr.alloc (.cells #[.int .i64 kq, .int .i64 vq] 42))) := Lib.hid (HB.out.alloc (by have := HB.out.size; omega) _)
          have HRk : Hid (RdL (wr.alloc (.cells #[.int .i64 kq, .int .i64 vq] 42)) R rs e) := Lib.hid (HRd.out.above ((Below.refl _ _).alloc (by have := HRd.out.lt; omega) _))
          have HMk : Hid ((wr.alloc (.cells #[.int .i64 kq, .int .i64 vq] 42)).heap[M]? = some (.cells #[.slice aM ml cM, .int .i64 e] 40 (0, 0))) := Lib.hid (keepN ((Below.refl wr.heap.size wr).alloc (Nat.le_refl _) _) HMl.out HMo.out)
          clear mf0 mf1 m0 m1
          obtain ⟨m0, m1, mf0, mf1⟩ := m_cell HMk.out
          have HRl : Hid (R + 1 ≤ (wr.alloc (.cells #[.int .i64 kq, .int .i64 vq] 42)).heap.size) := Lib.hid HRk.out.lt
          have HMl2 : Hid (M + 1 ≤ (wr.alloc (.cells #[.int .i64 kq, .int .i64 vq] 42)).heap.size) := Lib.hid (lt_of_block HMk.out)
          have HWl : Hid (w.heap.size ≤ (wr.alloc (.cells #[.int .i64 kq, .int .i64 vq] 42)).heap.size) := Lib.hid HBk.out.size
          have HRM : Hid (R < M) := Lib.hid HR3l.out
          have HM8 : Hid (ml ≤ 140737488351232) := Lib.hid (by have := H3M.out; omega)
          have HM8r : Hid (rs.length ≤ 140737488351232) := Lib.hid (by rw [HLM.out]; exact HM8.out)
          obtain ⟨nn, bk, hnn⟩ : ∃ (nn : Int) (bk : Bool), (kq = 0 ∧ nn = 1 ∧ bk = true) ∨ (kq = 1 ∧ nn = 2 ∧ bk = true) ∨ (kq = 2 ∧ nn = 4 ∧ bk = true) ∨ (kq = 3 ∧ nn = 8 ∧ bk = true) ∨ (kq < 0 ∧ nn = vq ∧ bk = false) ∨ (3 < kq ∧ nn = vq ∧ bk = false) := by
            by_cases h0 : kq = 0
            · exact ⟨1, true, by simp [h0]⟩
            by_cases h1 : kq = 1
            · exact ⟨2, true, by simp [h1]⟩
            by_cases h2 : kq = 2
            · exact ⟨4, true, by simp [h2]⟩
            by_cases h3 : kq = 3
            · exact ⟨8, true, by simp [h3]⟩
            rcases (show kq < 0 ∨ 3 < kq by omega) with h | h
            · exact ⟨vq, false, .inr (.inr (.inr (.inr (.inl ⟨h, rfl, rfl⟩))))⟩
            · exact ⟨vq, false, .inr (.inr (.inr (.inr (.inr ⟨h, rfl, rfl⟩))))⟩
          have HNN := Lib.hid hnn; clear hnn
          obtain ⟨ws, hws⟩ : ∃ x, gvW rs e nn = x := ⟨_, rfl⟩
          obtain ⟨rs', hrs'⟩ : ∃ x, gvR rs e nn = x := ⟨_, rfl⟩
          obtain ⟨e', he'⟩ : ∃ x, gvE rs e nn = x := ⟨_, rfl⟩
          obtain ⟨kk, hkk⟩ : ∃ x, ws.length = x := ⟨_, rfl⟩
          obtain ⟨ll, hll⟩ : ∃ x, rs'.length = x := ⟨_, rfl⟩
          have HKr : Hid (kk ≤ 3000) := Lib.hid (by rw [← hkk, ← hws]; have := gvW_len rs e nn; have := HLM.out; have := H3M.out; omega)
          have HLr : Hid (ll ≤ 3000) := Lib.hid (by rw [← hll, ← hrs']; have := gvR_len rs e nn; have := HLM.out; have := H3M.out; omega)
          have HOW : Hid (bytesOk ws) := Lib.hid (by rw [← hws]; exact gvW_ok HOK.out e nn)
          have HOR : Hid (bytesOk rs') := Lib.hid (by rw [← hrs']; exact gvR_ok HOK.out e nn)
          have GW := Lib.hid hws; clear hws
          have GR := Lib.hid hrs'; clear hrs'
          have GE := Lib.hid he'; clear he'
          have GK := Lib.hid hkk; clear hkk
          have GL := Lib.hid hll; clear hll
          have HK8 : Hid (kk ≤ 140737488351232) := Lib.hid (by have := HKr.out; omega)
          have HL8 : Hid (ll ≤ 140737488351232) := Lib.hid (by have := HLr.out; omega)
          go_upto_region 16 with (fail)
          go_cut [64] (fun v wc => v = .bool bk ∧ wc = (wr.alloc (.cells #[.int .i64 kq, .int .i64 vq] 42)))
          case first =>
            rcases HNN.out with ⟨rfl, rfl, rfl⟩ | ⟨rfl, rfl, rfl⟩ | ⟨rfl, rfl, rfl⟩ | ⟨rfl, rfl, rfl⟩ | ⟨hk, rfl, rfl⟩ | ⟨hk, rfl, rfl⟩
            all_goals (go_wp2; go_meet)
            all_goals exact ⟨by first | rfl | (simp; omega), rfl⟩
          case rest =>
            obtain ⟨rfl, rfl⟩ := hcut
            go_upto_if 64 with (fail)
            go_cut [11] (fun v wc => v = .int .i64 nn ∧ wc = (wr.alloc (.cells #[.int .i64 kq, .int .i64 vq] 42)))
            case first =>
              rcases HNN.out with ⟨rfl, rfl, rfl⟩ | ⟨rfl, rfl, rfl⟩ | ⟨rfl, rfl, rfl⟩ | ⟨rfl, rfl, rfl⟩ | ⟨hk, rfl, rfl⟩ | ⟨hk, rfl, rfl⟩
              all_goals (go_wp2; go_meet)
              all_goals exact ⟨rfl, rfl⟩
            case rest =>
              obtain ⟨rfl, rfl⟩ := hcut
              go_upto_region 19 with (go_at_call 18; ((with_reducible refine (rgive_step aM ml cM nn e rs ws rs' e' kk ll w (wr.alloc (.cells #[.int .i64 kq, .int .i64 vq] 42)) HBk.out HLM.out HSM.out HCM.out HM8.out GW.out GR.out GE.out GK.out GL.out).mono ?_); rintro e1 w3' ⟨⟨a4, c4, a5, c5, rfl, hs4, hl4, hs5⟩, hb3⟩; have S4 := Lib.hid hs4; clear hs4; have L4 := Lib.hid hl4; clear hl4; have S5 := Lib.hid (hs5.alloc (.cells #[.slice a4 ll c4, .int .i64 e'] 40)); clear hs5; have HB3 := Lib.hid hb3; clear hb3))
              have z3 := HB3.out.size
              have R3 : Hid (RdL (w3'.alloc (.cells #[.slice a4 ll c4, .int .i64 e'] 40)) R rs e) := Lib.hid (HRk.out.above ((HB3.out.mono HRl.out).alloc (Nat.le_trans HRl.out z3) _))
              have M3 : Hid ((w3'.alloc (.cells #[.slice a4 ll c4, .int .i64 e'] 40)).heap[M]? = some (.cells #[.slice aM ml cM, .int .i64 e] 40 (0, 0))) := Lib.hid (keepN ((HB3.out.mono HMl2.out).alloc (Nat.le_trans HMl2.out z3) _) (Nat.lt_succ_self _) HMk.out)
              have B3 : Hid (Below w.heap.size w (w3'.alloc (.cells #[.slice a4 ll c4, .int .i64 e'] 40))) := Lib.hid ((HBk.out.trans (HB3.out.mono HWl.out)).alloc (Nat.le_trans HWl.out z3) _)
              have X3 : Hid ((w3'.alloc (.cells #[.slice a4 ll c4, .int .i64 e'] 40)).heap[w3'.heap.size]? = some (.cells #[.slice a4 ll c4, .int .i64 e'] 40 (0, 0))) := Lib.hid (heap_alloc_new _ _)
              have MX : Hid (M < w3'.heap.size) := Lib.hid (Nat.lt_of_lt_of_le HMl2.out z3)
              have Z3 : Hid (w3'.heap.size < (w3'.alloc (.cells #[.slice a4 ll c4, .int .i64 e'] 40)).heap.size) := Lib.hid (lt_of_block X3.out)
              have RX : Hid (R < w3'.heap.size) := Lib.hid (Nat.lt_trans HRM.out MX.out)
              have LW : Hid (w.heap.size ≤ (w3'.alloc (.cells #[.slice a4 ll c4, .int .i64 e'] 40)).heap.size) := Lib.hid B3.out.size
              have hk3 : (w3'.alloc (.cells #[.slice a4 ll c4, .int .i64 e'] 40)).cell? ⟨wr.heap.size, 0, none⟩ = some (.int .i64 kq) := cell_later ((Below.refl _ _).alloc (Nat.le_refl _) _) (cell_later HB3.out (by simp [go_sem]))
              have hkl : wr.heap.size < w3'.heap.size := by simp at z3; omega
              have hk4 : w3'.cell? ⟨wr.heap.size, 0, none⟩ = some (.int .i64 kq) := cell_later HB3.out (by simp [go_sem])
              obtain ⟨X, hX⟩ : ∃ X, w3'.heap.size = X := ⟨_, rfl⟩
              obtain ⟨U, hU⟩ : ∃ U, (w3'.alloc (.cells #[.slice a4 ll c4, .int .i64 e'] 40)) = U := ⟨_, rfl⟩
              rw [hU] at R3 M3 B3 X3 Z3 LW hk3 S5 ⊢
              rw [hX] at X3 Z3 MX RX ⊢
              have AP : Hid (∀ ad, a5 = some ad → 0 < ws.length → ad.block ≠ R) := Lib.hid (apart_rdl S5.out R3.out)
              have UR : Hid (R + 1 ≤ U.heap.size) := Lib.hid R3.out.lt
              clear z3 HB3 hX hU hkl hk4 m0 m1 mf0 mf1 hck hcn
              go_upto_block 4 with (fail)
              clear hk3
              go_cut [14] (fun v wc => v = .bool true ∧ wc.heap[X]? = some (.cells #[.slice a4 ll c4, .int .i64 e'] 40 (0, 0)) ∧ RdL wc R rs' e' ∧ wc.heap[M]? = some (.cells #[.slice aM ml cM, .int .i64 e] 40 (0, 0)) ∧ Below w.heap.size w wc)
              case first =>
                rcases HNN.out with ⟨rfl, rfl, rfl⟩ | ⟨rfl, rfl, rfl⟩ | ⟨rfl, rfl, rfl⟩ | ⟨rfl, rfl, rfl⟩ | ⟨hk, rfl, rfl⟩ | ⟨hk, rfl, rfl⟩
                · have HLE : Hid (kk ≤ 1) := Lib.hid (by rw [← GK.out, ← GW.out]; exact gvW_len' rs e 1)
                  have HY : Hid (0 ≤ num ws ∧ num ws < 256) := Lib.hid (num_lt_k (k := 1) HOW.out (by rw [GK.out]; exact HLE.out))
                  have hy0 := HY.out.1
                  have hy1 := HY.out.2
                  have HK8' : Hid (kk ≤ 8) := Lib.hid (by have := HLE.out; omega)
                  go_wp2_with (first
                    | (go_at_call 19; ((with_reducible refine (u8_step R e rs ws rs' e' U R3.out HOK.out GW.out GR.out GE.out).mono ?_); rintro e1 w4 ⟨rfl, hb4, hr4⟩; have R4 := Lib.hid hr4; clear hr4; have O4 := Lib.hid hb4; clear hb4; have S54 := Lib.hid (S5.out.only O4.out AP.out)))
                    | (go_at_call 20; ((with_reducible refine (rnum_any a5 kk c5 ws w4 GK.out S54.out HK8'.out HOW.out).mono ?_); rintro e1 w' ⟨rfl, rfl⟩)))
                  go_meet
                  case rel => exact ⟨by first | rfl | simp, (O4.out.block _ Z3.out (Nat.ne_of_gt RX.out)).trans X3.out, R4.out, (O4.out.block _ (Nat.lt_trans MX.out Z3.out) (Nat.ne_of_gt HRM.out)).trans M3.out, B3.out.trans (O4.out.below HRw.out LW.out)⟩
                · have HLE : Hid (kk ≤ 2) := Lib.hid (by rw [← GK.out, ← GW.out]; exact gvW_len' rs e 2)
                  have HY : Hid (0 ≤ num ws ∧ num ws < 65536) := Lib.hid (num_lt_k (k := 2) HOW.out (by rw [GK.out]; exact HLE.out))
                  have hy0 := HY.out.1
                  have hy1 := HY.out.2
                  have HK8' : Hid (kk ≤ 8) := Lib.hid (by have := HLE.out; omega)
                  go_wp2_with (first
                    | (go_at_call 21; ((with_reducible refine (u16_step R e rs ws rs' e' U R3.out HOK.out GW.out GR.out GE.out).mono ?_); rintro e1 w4 ⟨rfl, hb4, hr4⟩; have R4 := Lib.hid hr4; clear hr4; have O4 := Lib.hid hb4; clear hb4; have S54 := Lib.hid (S5.out.only O4.out AP.out)))
                    | (go_at_call 20; ((with_reducible refine (rnum_any a5 kk c5 ws w4 GK.out S54.out HK8'.out HOW.out).mono ?_); rintro e1 w' ⟨rfl, rfl⟩)))
                  go_meet
                  case rel => exact ⟨by first | rfl | simp, (O4.out.block _ Z3.out (Nat.ne_of_gt RX.out)).trans X3.out, R4.out, (O4.out.block _ (Nat.lt_trans MX.out Z3.out) (Nat.ne_of_gt HRM.out)).trans M3.out, B3.out.trans (O4.out.below HRw.out LW.out)⟩
                · have HLE : Hid (kk ≤ 4) := Lib.hid (by rw [← GK.out, ← GW.out]; exact gvW_len' rs e 4)
                  have HY : Hid (0 ≤ num ws ∧ num ws < 4294967296) := Lib.hid (num_lt_k (k := 4) HOW.out (by rw [GK.out]; exact HLE.out))
                  have hy0 := HY.out.1
                  have hy1 := HY.out.2
                  have HK8' : Hid (kk ≤ 8) := Lib.hid (by have := HLE.out; omega)
                  go_wp2_with (first
                    | (go_at_call 22; ((with_reducible refine (u32_step R e rs ws rs' e' U R3.out HOK.out GW.out GR.out GE.out).mono ?_); rintro e1 w4 ⟨rfl, hb4, hr4⟩; have R4 := Lib.hid hr4; clear hr4; have O4 := Lib.hid hb4; clear hb4; have S54 := Lib.hid (S5.out.only O4.out AP.out)))
                    | (go_at_call 20; ((with_reducible refine (rnum_any a5 kk c5 ws w4 GK.out S54.out HK8'.out HOW.out).mono ?_); rintro e1 w' ⟨rfl, rfl⟩)))
                  go_meet
                  case rel => exact ⟨by first | rfl | simp, (O4.out.block _ Z3.out (Nat.ne_of_gt RX.out)).trans X3.out, R4.out, (O4.out.block _ (Nat.lt_trans MX.out Z3.out) (Nat.ne_of_gt HRM.out)).trans M3.out, B3.out.trans (O4.out.below HRw.out LW.out)⟩
                · have HLE : Hid (kk ≤ 8) := Lib.hid (by rw [← GK.out, ← GW.out]; exact gvW_len' rs e 8)
                  have HY : Hid (0 ≤ num ws ∧ num ws < 18446744073709551616) := Lib.hid (num_lt_k (k := 8) HOW.out (by rw [GK.out]; exact HLE.out))
                  have hy0 := HY.out.1
                  have hy1 := HY.out.2
                  have HK8' : Hid (kk ≤ 8) := Lib.hid (by have := HLE.out; omega)
                  go_wp2_with (first
                    | (go_at_call 23; ((with_reducible refine (u64_step R e rs ws rs' e' U R3.out HOK.out GW.out GR.out GE.out).mono ?_); rintro e1 w4 ⟨rfl, hb4, hr4⟩; have R4 := Lib.hid hr4; clear hr4; have O4 := Lib.hid hb4; clear hb4; have S54 := Lib.hid (S5.out.only O4.out AP.out)))
                    | (go_at_call 20; ((with_reducible refine (rnum_any a5 kk c5 ws w4 GK.out S54.out HK8'.out HOW.out).mono ?_); rintro e1 w' ⟨rfl, rfl⟩)))
                  go_meet
                  case rel => exact ⟨by first | rfl | simp, (O4.out.block _ Z3.out (Nat.ne_of_gt RX.out)).trans X3.out, R4.out, (O4.out.block _ (Nat.lt_trans MX.out Z3.out) (Nat.ne_of_gt HRM.out)).trans M3.out, B3.out.trans (O4.out.below HRw.out LW.out)⟩
                · go_wp2_with (first
                    | (go_at_call 24; ((with_reducible refine (raw_step R nn e rs ws rs' e' kk U R3.out HM8r.out GW.out GR.out GE.out GK.out).mono ?_); rintro e1 w4 ⟨⟨aG, cG, rfl, hs4, hg4⟩, hb4, hr4⟩; have R4 := Lib.hid hr4; clear hr4; have O4 := Lib.hid hb4; clear hb4; have S54 := Lib.hid (S5.out.only O4.out AP.out); have SG4 := Lib.hid hs4; clear hs4; have G4 := Lib.hid hg4; clear hg4))
                    | (go_at_call 11; ((with_reducible refine (rsameT aG a5 kk cG c5 ws w4 GK.out HK8.out SG4.out S54.out).mono ?_); rintro e1 w5 ⟨rfl, hb5'⟩; have hb5 := Lib.hid hb5'; clear hb5')))
                  have B5 : Hid (Below U.heap.size w4 w5) := Lib.hid (hb5.out.mono O4.out.size)
                  have G5 : Hid (0 < kk → ∃ g, aG = some ⟨g, 0, none⟩ ∧ U.heap.size ≤ g ∧ Row w5 g kk) := Lib.hid (fun h0 => by
                    obtain ⟨g, h1, h2, h3⟩ := G4.out h0
                    exact ⟨g, h1, h2, ws, GK.out, keepN hb5.out (lt_of_block h3) h3⟩)
                  go_loopw [84] (fun i wx => ∃ k : Nat, k ≤ kk ∧ i = .int .i64 k ∧ (0 < kk → ∃ g, aG = some ⟨g, 0, none⟩ ∧ U.heap.size ≤ g ∧ Row wx g kk) ∧ Below U.heap.size w4 wx) (fun i _ => kk - (intOf i).toNat)
                  case atStart => exact ⟨0, Nat.zero_le _, rfl, G5.out, B5.out⟩
                  case round =>
                    obtain ⟨k, hk2, rfl, hg, hb⟩ := hrel
                    have BX := Lib.hid hb; clear hb
                    have GX := Lib.hid hg; clear hg
                    by_cases hlt2 : k < kk
                    · obtain ⟨g, rfl, hg1, hg2⟩ := GX.out (by omega)
                      have HG2 := Lib.hid hg2
                      obtain ⟨us, hul, hug⟩ := hg2
                      have hc := row_cell hug k (by rw [hul]; exact hlt2)
                      have hf := row_free hug k
                      clear hug hul
                      obtain ⟨uj, huj⟩ : ∃ u, us[k]?.getD 0 = u := ⟨_, rfl⟩
                      rw [huj] at hc
                      clear huj
                      have hk3000 := HKr.out
                      go_wp2
                      go_roundw
                      case rel => exact ⟨k + 1, by omega, by go_num, fun _ => ⟨g, rfl, hg1, HG2.out.set _ _⟩, BX.out.setCell (by simpa using hg1) _⟩
                      case measure => simp [intOf]; omega
                    · go_wp2
                      go_meet
                      case rel => exact ⟨by first | rfl | simp, (BX.out.block _ Z3.out).trans ((O4.out.block _ Z3.out (Nat.ne_of_gt RX.out)).trans X3.out), R4.out.above (BX.out.mono UR.out), (BX.out.block _ (Nat.lt_trans MX.out Z3.out)).trans ((O4.out.block _ (Nat.lt_trans MX.out Z3.out) (Nat.ne_of_gt HRM.out)).trans M3.out), (B3.out.trans (O4.out.below HRw.out LW.out)).trans (BX.out.mono LW.out)⟩
                · go_wp2_with (first
                    | (go_at_call 24; ((with_reducible refine (raw_step R nn e rs ws rs' e' kk U R3.out HM8r.out GW.out GR.out GE.out GK.out).mono ?_); rintro e1 w4 ⟨⟨aG, cG, rfl, hs4, hg4⟩, hb4, hr4⟩; have R4 := Lib.hid hr4; clear hr4; have O4 := Lib.hid hb4; clear hb4; have S54 := Lib.hid (S5.out.only O4.out AP.out); have SG4 := Lib.hid hs4; clear hs4; have G4 := Lib.hid hg4; clear hg4))
                    | (go_at_call 11; ((with_reducible refine (rsameT aG a5 kk cG c5 ws w4 GK.out HK8.out SG4.out S54.out).mono ?_); rintro e1 w5 ⟨rfl, hb5'⟩; have hb5 := Lib.hid hb5'; clear hb5')))
                  have B5 : Hid (Below U.heap.size w4 w5) := Lib.hid (hb5.out.mono O4.out.size)
                  have G5 : Hid (0 < kk → ∃ g, aG = some ⟨g, 0, none⟩ ∧ U.heap.size ≤ g ∧ Row w5 g kk) := Lib.hid (fun h0 => by
                    obtain ⟨g, h1, h2, h3⟩ := G4.out h0
                    exact ⟨g, h1, h2, ws, GK.out, keepN hb5.out (lt_of_block h3) h3⟩)
                  go_loopw [84] (fun i wx => ∃ k : Nat, k ≤ kk ∧ i = .int .i64 k ∧ (0 < kk → ∃ g, aG = some ⟨g, 0, none⟩ ∧ U.heap.size ≤ g ∧ Row wx g kk) ∧ Below U.heap.size w4 wx) (fun i _ => kk - (intOf i).toNat)
                  case atStart => exact ⟨0, Nat.zero_le _, rfl, G5.out, B5.out⟩
                  case round =>
                    obtain ⟨k, hk2, rfl, hg, hb⟩ := hrel
                    have BX := Lib.hid hb; clear hb
                    have GX := Lib.hid hg; clear hg
                    by_cases hlt2 : k < kk
                    · obtain ⟨g, rfl, hg1, hg2⟩ := GX.out (by omega)
                      have HG2 := Lib.hid hg2
                      obtain ⟨us, hul, hug⟩ := hg2
                      have hc := row_cell hug k (by rw [hul]; exact hlt2)
                      have hf := row_free hug k
                      clear hug hul
                      obtain ⟨uj, huj⟩ : ∃ u, us[k]?.getD 0 = u := ⟨_, rfl⟩
                      rw [huj] at hc
                      clear huj
                      have hk3000 := HKr.out
                      go_wp2
                      go_roundw
                      case rel => exact ⟨k + 1, by omega, by go_num, fun _ => ⟨g, rfl, hg1, HG2.out.set _ _⟩, BX.out.setCell (by simpa using hg1) _⟩
                      case measure => simp [intOf]; omega
                    · go_wp2
                      go_meet
                      case rel => exact ⟨by first | rfl | simp, (BX.out.block _ Z3.out).trans ((O4.out.block _ Z3.out (Nat.ne_of_gt RX.out)).trans X3.out), R4.out.above (BX.out.mono UR.out), (BX.out.block _ (Nat.lt_trans MX.out Z3.out)).trans ((O4.out.block _ (Nat.lt_trans MX.out Z3.out) (Nat.ne_of_gt HRM.out)).trans M3.out), (B3.out.trans (O4.out.below HRw.out LW.out)).trans (BX.out.mono LW.out)⟩
              case rest =>
                obtain ⟨rfl, hx, hr, hM, hb⟩ := hcut
                have RC := Lib.hid hr; clear hr
                have XC := Lib.hid hx; clear hx
                have MC := Lib.hid hM; clear hM
                have BC := Lib.hid hb; clear hb
                have HRlen : Hid (rs'.length ≤ 140737488351232) := Lib.hid (by rw [GL.out]; exact HL8.out)
                have LC : Hid (w.heap.size ≤ wc.heap.size) := Lib.hid BC.out.size
                have RCl : Hid (R + 1 ≤ wc.heap.size) := Lib.hid RC.out.lt
                have XCl : Hid (X < wc.heap.size) := Lib.hid (lt_of_block XC.out)
                have MCl : Hid (M < wc.heap.size) := Lib.hid (lt_of_block MC.out)
                clear R3 M3 B3 X3 S5 AP UR Z3 LW HBk HRk HMk HRl HMl2 HWl HMl HB HRd HMo
                go_wp2_with (go_at_call 25; ((with_reducible refine (restN R rs' e' ll wc RC.out.at HRlen.out GL.out).mono ?_); rintro e1 w5 ⟨⟨g5, rfl, hg5, hr5⟩, hb5⟩; have G5 := Lib.hid hr5; clear hr5; have B5 := Lib.hid hb5; clear hb5; have R5 : Hid (RdAt w5 R rs' e') := Lib.hid (RdL.at (RC.out.above (B5.out.mono RCl.out))); have X5 : Hid (w5.heap[X]? = some (.cells #[.slice a4 ll c4, .int .i64 e'] 40 (0, 0))) := Lib.hid (keepN B5.out XCl.out XC.out); have S45 := Lib.hid (S4.out.later (BC.out.trans (B5.out.mono LC.out))); obtain ⟨x0, x1, xf0, xf1⟩ := m_cell X5.out; have SR5 := Lib.hid (Seen.row G5.out)))
                go_quiet (first
                  | (go_at_call 11; exact sameQ_at (some ⟨g5, 0, none⟩) a4 ll ll c4 rs' w5 _ GL.out HL8.out SR5.out S45.out)
                  | (go_at_call 26; exact leftQ_at R rs' e' ll w5 _ R5.out GL.out)
                  | (go_at_call 27; exact errQ_at R rs' e' w5 _ R5.out))
                go_wp2
                have Q5 : Hid (Row (w5.drewN nq) g5 ll) := Lib.hid ⟨rs', GL.out, G5.out⟩
                have B5q : Hid (Below wc.heap.size wc (w5.drewN nq)) := Lib.hid (B5.out.trans (drewN_below _ _ _))
                have LG : Hid (wc.heap.size ≤ g5) := Lib.hid hg5
                clear x0 x1 xf0 xf1 X5 S45 SR5 R5 hg5
                go_loopw [153] (fun i wx => ∃ k : Nat, k ≤ ll ∧ i = .int .i64 k ∧ Row wx g5 ll ∧ Below wc.heap.size wc wx) (fun i _ => ll - (intOf i).toNat)
                case atStart => exact ⟨0, Nat.zero_le _, rfl, Q5.out, B5q.out⟩
                case round =>
                  obtain ⟨k, hk2, rfl, hg, hb⟩ := hrel
                  have BX := Lib.hid hb; clear hb
                  have HG2 := Lib.hid hg
                  by_cases hlt2 : k < ll
                  · obtain ⟨us, hul, hug⟩ := hg
                    have hc := row_cell hug k (by rw [hul]; exact hlt2)
                    have hf := row_free hug k
                    clear hug hul
                    obtain ⟨uj, huj⟩ : ∃ u, us[k]?.getD 0 = u := ⟨_, rfl⟩
                    rw [huj] at hc
                    clear huj
                    have hk3000 := HLr.out
                    go_wp2
                    go_roundw
                    case rel => exact ⟨k + 1, by omega, by go_num, HG2.out.set _ _, BX.out.setCell (by simpa using LG.out) _⟩
                    case measure => simp [intOf]; omega
                  · have XX := Lib.hid (keepN BX.out XCl.out XC.out)
                    have MX2 := Lib.hid (keepN BX.out MCl.out MC.out)
                    obtain ⟨x0, x1, xf0, xf1⟩ := m_cell XX.out
                    obtain ⟨y0, y1, yf0, yf1⟩ := m_cell MX2.out
                    go_wp2
                    go_roundw
                    case rel =>
                      refine ⟨q + 1, rs', e', a4, ll, c4, by omega, by go_num, m_set MX2.out, S4.out, GL.out, L4.out, HLr.out, HOR.out, ?_, ?_⟩
                      · exact (RC.out.above (BX.out.mono RCl.out)).above (((Below.refl _ _).setCell (Nat.succ_le_of_lt HRM.out) _).setCell (Nat.succ_le_of_lt HRM.out) _)
                      · have q1 := HRw.out
                        have q2 := HRM.out
                        exact ((BC.out.trans (BX.out.mono LC.out)).setCell (by simp; omega) _).setCell (by simp; omega) _
                    case measure => simp [intOf]; omega
        · go_wp2
          go_ret
          exact ⟨rfl, HB.out⟩
end Go.Proofs.Ytngnhieddblnmaa
