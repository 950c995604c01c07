/-
  Proved: 'SumSeals' (P3.2) returns true for all bytes, and leaves them as they were. Conditions: none but those of the given row.
-/
import Derived.Test.YtfidmbccboggoaaSeals
import Derived.Test.YtfidmbccboggoaaJoins
import Derived.WalkKit
import Derived.ProofKit
import Derived.OpenShut
import Derived.ShutString
import Derived.ChangeOld
import Derived.Below
namespace Go.Proofs.Ytfidmbccboggoaa.sumSeals
open Go.ChangeShapes Go.WideShapes Go.ChangeAt Go.RowKit
open Go.ChangeMaps (open_string shut_string)
open Go.Proofs.Ytfidmbccboggoaa.sumJoins (InB Came came_in)
set_option linter.unusedVariables false

theorem own : ownKnob Try.prog.godebug = none := by kernel_rfl
theorem laidOut : laidOutB Try.prog = true := by kernel_rfl

theorem keepB {b : Nat} {w w1 : World} {o : Obj} (hb : Below w.heap.size w w1) (h : w.heap[b]? = some o) : w1.heap[b]? = some o := (hb.block b (lt_of_block h)).trans h
theorem seen_nil {w : World} {a : Option Addr} {xs : List Int} (h : Seen w a (xs ++ [])) : Seen w a xs := by rwa [List.append_nil] at h
theorem len_nil {xs : List Int} {n : Nat} (h : (xs ++ []).length = n + 0) : xs.length = n := by simpa using h
theorem index2 (a b : Value) (w : World) : (Instr.index 35 (.agg #[a, b]) (.int .i64 0)).run Try.prog w = .ok a w ∧ (Instr.index 35 (.agg #[a, b]) (.int .i64 1)).run Try.prog w = .ok b w := by
  refine ⟨?_, ?_⟩ <;> simp [Instr.index, run_underlying Try.underlying35, asIntOf, go_sem]
/-- What lay below stays so. -/
theorem seen_low {w6 w18 u : World} {a : Option Addr} {xs : List Int} (h6 : Seen w6 a xs) (h : Seen w18 a xs) (hu : Below w6.heap.size w18 u) : Seen u a xs := by
  intro h0
  obtain ⟨ad, rfl, hc⟩ := h h0
  obtain ⟨b1, o1, he, hl, _⟩ := h6.place h0
  obtain rfl : ad = ⟨b1, o1, none⟩ := by simpa using he
  refine ⟨_, rfl, fun j v hj => ?_⟩
  have hk := hc j v hj
  have e : (⟨b1, o1, none⟩ : Addr).add j = ⟨b1, o1 + j, none⟩ := by cases j <;> simp [Addr.add]
  rw [e] at hk ⊢
  exact (hu.cell hl).trans hk
theorem seal_row (a : Option Addr) (n c : Nat) (xs zz : List Int) (w : World) (hn : xs.length = n) (hs : Seen w a xs) (hm : n ≤ 140737488351232) (hb : bytesOk xs) (hz : xs ++ be 4 (adl xs) = zz) :
    Calls Try.prog 14 #[.slice a n c] w fun e w' => (∃ g, e = .returned (.slice (some ⟨g, 0, none⟩) (n + 4) (n + 4)) ∧ w.heap.size ≤ g ∧ w'.heap[g]? = some (.cells (By zz).toArray 5 (0, 0))) ∧ Below w.heap.size w w' := by
  subst hz
  refine (seal_any a n c xs w hn hs hm hb).mono ?_
  rintro e w' ⟨⟨g, rfl, hg, hr⟩, hb'⟩
  exact ⟨⟨g, by rw [List.length_append, be_length, hn], hg, hr⟩, hb'⟩
theorem rseal_row (a : Option Addr) (n c : Nat) (xs zz : List Int) (w : World) (hn : xs.length = n) (hs : Seen w a xs) (hm : n ≤ 5000) (hc : n ≤ c) (hb : bytesOk xs) (hz : xs ++ be 4 (adl xs) = zz) :
    Calls Try.prog 17 #[.slice a n c] w fun e w' => OwnN w.heap.size (n + 4) zz e w' ∧ Below w.heap.size w w' := by
  subst hz
  exact rseal_any a n c xs w hn hs hm hc hb

theorem long_any (a : Option Addr) (n c : Nat) (w : World) (hl : 600 < n) :
    Calls Try.prog 4 #[.slice a n c] w fun e w' => e = .returned (.bool true) ∧ Below w.heap.size w w' := by
  go_enter Try.func4, Try.ntmps4
  go_wp2_with (go_at_call 8; refine (wakes_any _).mono ?_; rintro e w1 ⟨rfl, hb1⟩)
  go_ret
  exact ⟨rfl, hb1⟩

set_option maxHeartbeats 4000000 in
set_option maxRecDepth 100000 in
theorem main (a : Option Addr) (n c : Nat) (xs : List Int) (w : World) (h : InB w a n c xs) (hn : n ≤ 600) :
    Calls Try.prog 4 #[.slice a n c] w fun e w' => e = .returned (.bool true) ∧ Below w.heap.size w w' := by
  have HA := Lib.hid h
  have HM : Hid (n ≤ 140737488351232) := Lib.hid (by omega)
  have HM5 : Hid (n ≤ 5000) := Lib.hid (by omega)
  have HMz : Hid (n + 0 ≤ 140737488351232) := Lib.hid (by omega)
  have HM4 : Hid (n + 4 ≤ 140737488351232) := Lib.hid (by omega)
  have hkn : (opn xs).length ≤ n := by
    have := h.len
    unfold opn
    split
    · simp
    · split <;> simp <;> omega
  clear h
  have HS : Hid (same xs xs = true) := Lib.hid (by simp [same])
  obtain ⟨zz, hzz⟩ : ∃ zz, xs ++ be 4 (adl xs) = zz := ⟨_, rfl⟩
  have HZL : Hid (zz.length = n + 4) := Lib.hid (by rw [← hzz, List.length_append, be_length, HA.out.len])
  have HZZ := Lib.hid hzz; clear hzz
  have HSz : Hid (same zz zz = true) := Lib.hid (by simp [same])
  obtain ⟨zs, hzs⟩ : ∃ zs, opn xs = zs := ⟨_, rfl⟩
  obtain ⟨ev, hev⟩ : ∃ ev, ope xs = ev := ⟨_, rfl⟩
  obtain ⟨k, hk⟩ : ∃ k, zs.length = k := ⟨_, rfl⟩
  have HMk : Hid (k ≤ 140737488351232) := Lib.hid (by rw [← hk, ← hzs]; omega)
  have HZ := Lib.hid hzs; have HV := Lib.hid hev; have HK := Lib.hid hk
  clear hzs hev hk hkn
  have HSx : Hid (same zs zs = true) := Lib.hid (by simp [same])
  go_enter Try.func4, Try.ntmps4
  go_wp2_with (first
    | (go_at_call 8; refine (wakes_any _).mono ?_; rintro e w1 ⟨rfl, hb1⟩; have A1 := Lib.hid (HA.out.later hb1))
    | (go_at_call 9; ((with_reducible refine (both_any a none n 0 c 0 xs [] w1 A1.out.len rfl HMz.out A1.out.seen (nil_seen _)).mono ?_); rintro e w2 ⟨⟨v2, rfl, ho2⟩, hb2⟩; obtain ⟨a2, c2, rfl, hs2, hl2, _, _, hc2⟩ := own_view ho2; clear ho2; have S2 := Lib.hid (seen_nil hs2); clear hs2; have L2 := Lib.hid (len_nil hl2); clear hl2; have C2 : Hid (n ≤ c2) := Lib.hid hc2; clear hc2; have A2 := Lib.hid (A1.out.later hb2)))
    | (go_at_call 14; ((with_reducible refine (seal_row a n c xs zz w2 A2.out.len A2.out.seen HM.out A2.out.ok HZZ.out).mono ?_); rintro e w3 ⟨⟨gS, rfl, hg3, hr3⟩, hb3⟩; have R3 := Lib.hid hr3; clear hr3; have A3 := Lib.hid (A2.out.later hb3); have S3 := Lib.hid (S2.out.later hb3); have lS := Lib.hid (lt_of_block R3.out)))
    | (go_at_call 15; ((with_reducible refine (open_any a n c k xs zs ev w3 A3.out.len A3.out.seen HM5.out A3.out.cap A3.out.ok HZ.out HK.out HV.out).mono ?_); rintro e w4 ⟨⟨ax, cx, rfl, hsx, hrx⟩, hb4⟩; have X4 := Lib.hid hsx; clear hsx; have Y4 := Lib.hid hrx; clear hrx; have A4 := Lib.hid (A3.out.later hb4); have S4 := Lib.hid (S3.out.later hb4); have R4 := Lib.hid (keepB hb4 R3.out)))
    | (go_at_call 16; ((with_reducible refine (ropen_any a2 n c2 k xs zs ev w4 L2.out S4.out HM5.out C2.out A4.out.ok HZ.out HK.out HV.out).mono ?_); rintro e w5 ⟨⟨ay, cy, rfl, hsy⟩, hb5⟩; have P5 := Lib.hid hsy; clear hsy; have A5 := Lib.hid (A4.out.later hb5); have S5 := Lib.hid (S4.out.later hb5); have R5 := Lib.hid (keepB hb5 R4.out); have X5 := Lib.hid (X4.out.later hb5)))
    | (go_at_call 17; ((with_reducible refine (rseal_row a2 n c2 xs zz w5 L2.out S5.out HM5.out C2.out A5.out.ok HZZ.out).mono ?_); rintro e w6 ⟨⟨v6, rfl, ho6⟩, hb6⟩; obtain ⟨a6, c6, rfl, hs6, hl6, _, _, _⟩ := own_view ho6; clear ho6; have S6 := Lib.hid hs6; clear hs6; have L6 := Lib.hid hl6; clear hl6))
    | (go_at_call 13; ((with_reducible refine (rsame_any (some ⟨gS, 0, none⟩) a6 (n + 4) (n + 4) (n + 4) c6 zz zz w6 L6.out L6.out HM4.out (Seen.row (keepB hb6 R5.out)) S6.out).mono ?_); rw [HSz.out]; rintro e w7 ⟨rfl, hb7⟩; have X7 := Lib.hid ((X5.out.later hb6).later hb7); have P7 := Lib.hid ((P5.out.later hb6).later hb7)))
    | (go_at_call 13; ((with_reducible refine (rsame_any ax ay k k cx cy zs zs w7 HK.out HK.out HMk.out X7.out P7.out).mono ?_); rw [HSx.out]; rintro e w8 ⟨rfl, hb8⟩)))
  have z1 := hb1.size
  have z2 := hb2.size
  have z3 := hb3.size
  have z4 := hb4.size
  have z5 := hb5.size
  have z6 := hb6.size
  have z7 := hb7.size
  have z8 := hb8.size
  have hlS := lS.out
  have HW : Hid (Below w.heap.size w w8) := Lib.hid (by
    have y4 : Below w.heap.size w w4 := ((hb1.trans (hb2.mono z1)).trans (hb3.mono (by omega))).trans (hb4.mono (by omega))
    exact (((y4.trans (hb5.mono (by omega))).trans (hb6.mono (by omega))).trans (hb7.mono (by omega))).trans (hb8.mono (by omega)))
  have HLO : Hid (w.heap.size ≤ w2.heap.size) := Lib.hid (by omega)
  have HL8 : Hid (w2.heap.size ≤ w8.heap.size) := Lib.hid (by omega)
  have HG : Hid (w2.heap.size ≤ gS) := Lib.hid hg3
  have XS : Hid (Row w8 gS (n + 4)) := Lib.hid ⟨_, HZL.out, keepB hb8 (keepB hb7 (keepB hb6 R5.out))⟩
  have XX : Hid (0 < k → ∃ g, ax = some ⟨g, 0, none⟩ ∧ w2.heap.size ≤ g ∧ g ≠ gS ∧ Row w8 g k) := Lib.hid (fun h0 => by
    obtain ⟨g, e1, e2, e3⟩ := Y4.out h0
    exact ⟨g, e1, by omega, by omega, (((e3.later hb5).later hb6).later hb7).later hb8⟩)
  have SO : Hid (∀ u, Below w2.heap.size w8 u → Seen u a2 xs) := Lib.hid (fun u hu => seen_low S2.out (((S5.out.later hb6).later hb7).later hb8) hu)
  have SA : Hid (∀ u, Below w2.heap.size w8 u → Seen u a xs) := Lib.hid (fun u hu => seen_low A2.out.seen (((A5.out.seen.later hb6).later hb7).later hb8) hu)
  clear z1 z2 z3 z4 z5 z6 z7 z8 hlS hb1 hb2 hb3 hb4 hb5 hb6 hb7 hb8 A1 A2 A3 A4 A5 S2 S3 S4 S5 S6 L6 R3 R4 R5 X4 X5 X7 Y4 P5 P7 hg3 lS
  go_loopw [50] (fun i wr => ∃ q : Nat, q ≤ 2 ∧ i = .int .i64 q ∧ Row wr gS (n + 4) ∧ (0 < k → ∃ g, ax = some ⟨g, 0, none⟩ ∧ w2.heap.size ≤ g ∧ g ≠ gS ∧ Row wr g k) ∧ Below w2.heap.size w8 wr) (fun i _ => 2 - (intOf i).toNat)
  case atStart => exact ⟨0, by decide, rfl, XS.out, XX.out, Below.refl _ _⟩
  case round =>
    obtain ⟨q, hq, rfl, hp, hx, hbw⟩ := hrel
    have HPk := Lib.hid hp; clear hp
    have HXk := Lib.hid hx; clear hx
    have HBk := Lib.hid hbw; clear hbw
    rcases (show q = 0 ∨ q = 1 ∨ q = 2 by omega) with rfl | rfl | rfl
    · have hix := index2 (.slice (some ⟨gS, 0, none⟩) (n + 4) (n + 4)) (.slice ax k cx) wr
      have hi := hix.1
      clear hix
      go_wp2
      go_loopw [55] (fun i wr => ∃ j : Nat, j ≤ n + 4 ∧ i = .int .i64 j ∧ Row wr gS (n + 4) ∧ (0 < k → ∃ g, ax = some ⟨g, 0, none⟩ ∧ w2.heap.size ≤ g ∧ g ≠ gS ∧ Row wr g k) ∧ Below w2.heap.size w8 wr) (fun i _ => n + 4 - (intOf i).toNat)
      case atStart => exact ⟨0, Nat.zero_le _, rfl, HPk.out, HXk.out, HBk.out⟩
      case round =>
        obtain ⟨j, hj, rfl, hp, hx, hbw⟩ := hrel
        have HPj := Lib.hid hp
        have HXj := Lib.hid hx; clear hx
        have HBj := Lib.hid hbw; clear hbw
        by_cases hlt : j < n + 4
        · obtain ⟨us, hul, hug⟩ := hp
          have hc := row_cell hug j (by rw [hul]; exact hlt)
          have hf := row_free hug j
          clear hug hul
          obtain ⟨uj, huj⟩ : ∃ u, us[j]?.getD 0 = u := ⟨_, rfl⟩
          rw [huj] at hc
          clear huj
          go_wp2
          go_roundw
          case rel =>
            refine ⟨j + 1, by omega, by go_num, HPj.out.set _ _, fun h0 => ?_, HBj.out.setCell HG.out _⟩
            obtain ⟨g, e1, e2, e3, e4⟩ := HXj.out h0
            exact ⟨g, e1, e2, e3, e4.other (fun e => e3 e.symm) _ _⟩
          case measure => simp [intOf]; omega
        · go_wp2
          go_roundw
          case rel => exact ⟨0 + 1, by decide, rfl, HPj.out, HXj.out, HBj.out⟩
          case measure => simp [intOf]
    · have hix := index2 (.slice (some ⟨gS, 0, none⟩) (n + 4) (n + 4)) (.slice ax k cx) wr
      have hi := hix.2
      clear hix
      go_wp2
      go_loopw [55] (fun i wr => ∃ j : Nat, j ≤ k ∧ i = .int .i64 j ∧ Row wr gS (n + 4) ∧ (0 < k → ∃ g, ax = some ⟨g, 0, none⟩ ∧ w2.heap.size ≤ g ∧ g ≠ gS ∧ Row wr g k) ∧ Below w2.heap.size w8 wr) (fun i _ => k - (intOf i).toNat)
      case atStart => exact ⟨0, Nat.zero_le _, rfl, HPk.out, HXk.out, HBk.out⟩
      case round =>
        obtain ⟨j, hj, rfl, hp, hx, hbw⟩ := hrel
        have HPj := Lib.hid hp; clear hp
        have HXj := Lib.hid hx
        have HBj := Lib.hid hbw; clear hbw
        by_cases hlt : j < k
        · have hkk := HMk.out
          obtain ⟨g, rfl, e2, e3, hrow⟩ := hx (by omega)
          have HE2 := Lib.hid e2; have HE3 := Lib.hid e3; have HRg := Lib.hid hrow
          clear e2 e3
          obtain ⟨us, hul, hug⟩ := hrow
          have hc := row_cell hug j (by rw [hul]; exact hlt)
          have hf := row_free hug j
          clear hug hul
          obtain ⟨uj, huj⟩ : ∃ u, us[j]?.getD 0 = u := ⟨_, rfl⟩
          rw [huj] at hc
          clear huj
          go_wp2
          go_roundw
          case rel =>
            refine ⟨j + 1, by omega, by go_num, HPj.out.other HE3.out _ _, fun h0 => ⟨g, rfl, HE2.out, HE3.out, HRg.out.set _ _⟩, HBj.out.setCell HE2.out _⟩
          case measure => simp [intOf]; omega
        · go_wp2
          go_roundw
          case rel => exact ⟨1 + 1, by decide, rfl, HPj.out, HXj.out, HBj.out⟩
          case measure => simp [intOf]
    · have HSz : Hid (w8.heap.size ≤ wr.heap.size) := Lib.hid HBk.out.size
      go_wp2_with (go_at_call 13; ((with_reducible refine (rsame_any a a2 n n c c2 xs xs wr HA.out.len L2.out HM.out (SA.out wr HBk.out) (SO.out wr HBk.out)).mono ?_); rw [HS.out]; rintro e w9 ⟨rfl, hb9⟩))
      go_ret
      have q0 := HLO.out
      have q1 := HL8.out
      have q2 := HSz.out
      exact ⟨rfl, (HW.out.trans (HBk.out.mono q0)).trans (hb9.mono (by omega))⟩

theorem walk (a0 : Option Addr) (len0 cap0 : Nat) (z0 : List Int) (w : World) (w0 : Came .u8 w a0 len0 cap0 z0) :
    Calls Try.prog 4 #[.slice a0 len0 cap0] w fun e w' => e = .returned (.bool true) ∧ Below w.heap.size w w' := by
  have h0 := came_in w0
  by_cases hn : len0 ≤ 600
  · exact main a0 len0 cap0 _ w h0 hn
  · exact long_any a0 len0 cap0 w (by omega)

set_option maxRecDepth 100000 in
theorem lifted (os : Os) (started : os.Started) (H : Type) (enc : TypeId × Value → H) :
    ReturnsInHanded {} Try.checked os 4 .any (Rows.sumSealsSpec.pre6 enc Try.prog Try.f4 Rows.sumSealsRow.domain false) (Rows.sumSealsSpec.post enc Try.prog Try.f4 false true false false) := by
  refine returnsInHanded_of_change (C := Try.checked) own started (by kernel_rfl) Try.func4
    (ChangeSpec.witness6 (enc := enc) (C := Try.checked) false ⟨#[], #[.slice none 0 0], []⟩ 8 (by kernel_rfl) (by kernel_rfl) (by kernel_rfl) (by kernel_rfl)) ?_
  intro W base args ds gs before hval0 hW hcnd _
  have hval : ∀ (j : Nat) t v, Try.f4.params[j]? = some t → args[j]? = some v → Value.okWide Try.prog W .any base t v := hval0
  have hW' := hW
  obtain ⟨p, q, hA0, hV, rfl, hfz, hnd⟩ := hW
  have hA : DataW.TrodAll enc Try.prog W 0 (fun _ => true) true Try.f4.params.toList args.toList ds p := hA0
  rw [Try.params4] at hA hval
  obtain ⟨v0, vs0, d0, ds0, p0, q0, hargs, rfl, rfl, h0, r0⟩ := trodAll_cons hA
  obtain ⟨rfl, rfl, rfl⟩ := trodAll_nil r0
  obtain rfl : args = #[v0] := by cases args; simp_all
  obtain ⟨rfl, rfl⟩ := trodVars_none hV
  obtain ⟨a0, len0, cap0, rfl⟩ := okWide_slice Try.underlying22 (hval 0 22 v0 rfl rfl)
  have k0 := h0
  have lt0 : ∀ x ∈ p0, x.block < W.heap.size := by obtain ⟨m, hm⟩ := k0; exact DataW.trod_lt m _ _ _ hm
  obtain ⟨z0, w0⟩ : ∃ zs, Came .u8 W a0 len0 cap0 zs := by
    obtain ⟨fuel, hf⟩ := h0
    rcases open_ints Try.underlying22 Try.underlying5 (by kernel_rfl) hf with ⟨hcs, _⟩ | ⟨x, l, c, zs, hcs, _, hl, hm, hz, _, hcell, hwz⟩
    · simp [Value.cells] at hcs
      obtain ⟨rfl, rfl, rfl⟩ := hcs
      exact ⟨[], .inl ⟨rfl, rfl, rfl, rfl⟩⟩
    · simp [Value.cells] at hcs
      obtain ⟨rfl, rfl, rfl⟩ := hcs
      exact ⟨zs, .inr ⟨_, rfl, hl, hm, by simpa using hz, hcell, hwz⟩⟩
  clear hA0 hval0
  refine (walk a0 len0 cap0 z0 W w0).mono fun e W' ⟨he, bel⟩ => ?_
  subst he
  exact ⟨_, rfl, _, _, _, [], _, [], hW', trodAll_mk1 (shut_bool Try.underlying4 _), (trodAll_cons_mk (Below.trod laidOut (by kernel_rfl) (of_decide_eq_true (by kernel_rfl)) k0 bel lt0) trodAll_mk0), rfl, bel.frame _, fun h => by cases h⟩

theorem over : Rows.sumSealsRow.holds Try.pinned (OpenSpec.ofChange Rows.sumSealsSpec) :=
  OpenClaim.holds_of_wide 4 Try.f4 rfl rfl rfl rfl rfl rfl rfl ⟨rfl, rfl, rfl, rfl, rfl⟩ rfl rfl rfl rfl rfl (by kernel_rfl) Try.func4 (by kernel_rfl)
    (of_decide_eq_true (by kernel_rfl)) (by unfold Func.isWrapper; first | (rw [if_pos (by decide +kernel)]; kernel_rfl) | (rw [if_neg (by decide +kernel)]; exact ⟨rfl, rfl⟩))
    (fun os started H enc _ => lifted os started H enc)

end Go.Proofs.Ytfidmbccboggoaa.sumSeals
namespace Go.Proofs.Ytfidmbccboggoaa
theorem sumSeals_holds : Rows.SumSealsSaid := sumSeals.over
#print axioms sumSeals_holds
end Go.Proofs.Ytfidmbccboggoaa
