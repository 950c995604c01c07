/-
  Proved: 'SumIs' (P3.1) returns true for all bytes and every number of 32 bits, and leaves them as they were. Conditions: none but those of the given row.
-/
import Derived.Test.YtfidmbccboggoaaRefSum
import Derived.Test.YtfidmbccboggoaaJoins
import Derived.WalkKit
import Derived.ProofKit
import Derived.OpenShut
import Derived.ShutString
import Derived.ChangeOld
import Derived.Below
namespace Go.Proofs.Ytfidmbccboggoaa.sumIs
open Go.ChangeShapes Go.WideShapes Go.ChangeAt Go.RowKit
open Go.ChangeMaps (open_string shut_string)
open Go.Proofs.Ytfidmbccboggoaa.sumJoins (InB Came came_in)
set_option linter.unusedVariables false

theorem own : ownKnob Try.prog.godebug = none := by kernel_rfl
theorem laidOut : laidOutB Try.prog = true := by kernel_rfl

theorem nil_seen (w : World) : Seen w none [] := fun h => absurd h (by decide)
theorem long_any (a : Option Addr) (n c : Nat) (x : Int) (w : World) (hl : 600 < n) :
    Calls Try.prog 3 #[.slice a n c, .int .u32 x] w fun e w' => e = .returned (.bool true) ∧ Below w.heap.size w w' := by
  go_enter Try.func3, Try.ntmps3
  go_wp2_with (go_at_call 8; refine (wakes_any _).mono ?_; rintro e w1 ⟨rfl, hb1⟩)
  go_ret
  exact ⟨rfl, hb1⟩

set_option maxHeartbeats 800000 in
theorem main (a : Option Addr) (n c : Nat) (xs : List Int) (x : Int) (w : World) (h : InB w a n c xs) (hn : n ≤ 600) (h0 : 0 ≤ x) (h1 : x < 4294967296) :
    Calls Try.prog 3 #[.slice a n c, .int .u32 x] w fun e w' => e = .returned (.bool true) ∧ Below w.heap.size w w' := by
  have HA := Lib.hid h; clear h
  have HM : Hid (n ≤ 140737488351232) := Lib.hid (by omega)
  have HM5 : Hid (n ≤ 5000) := Lib.hid (by omega)
  have HMz : Hid (n + 0 ≤ 140737488351232) := Lib.hid (by omega)
  have HE : Hid (adl (xs ++ []) = adl xs) := Lib.hid (by rw [List.append_nil])
  have HS : Hid (same xs (xs ++ []) = true) := Lib.hid (by simp [same])
  have HOn : Hid (bytesOk (xs ++ [])) := Lib.hid (by rw [List.append_nil]; exact HA.out.ok)
  obtain ⟨y, hy⟩ : ∃ y, adl xs = y := ⟨_, rfl⟩
  have HY := Lib.hid hy; clear hy
  go_enter Try.func3, Try.ntmps3
  go_wp2_with (first
    | (go_at_call 8; refine (wakes_any _).mono ?_; rintro e w1 ⟨rfl, hb1⟩; have A1 := Lib.hid (HA.out.later hb1))
    | (go_at_call 9; ((with_reducible refine (both_any a none n 0 c 0 xs [] w1 A1.out.len rfl HMz.out A1.out.seen (nil_seen _)).mono ?_); rintro e w2 ⟨⟨v2, rfl, ho2⟩, hb2⟩; obtain ⟨a2, c2, rfl, hs2, hl2, _, _, hc2⟩ := own_view ho2; clear ho2; have S2 := Lib.hid hs2; clear hs2; have L2 := Lib.hid hl2; clear hl2; have A2 := Lib.hid (A1.out.later hb2)))
    | (go_at_call 10; ((with_reducible refine (parts_num x w2 h0 h1).mono ?_); rintro e w' ⟨rfl, rfl⟩))
    | (go_at_call 11; ((with_reducible refine (sum32_any a n c xs w2 A2.out.len A2.out.seen HM.out A2.out.ok).mono ?_); rw [HY.out]; rintro e w3 ⟨rfl, hb3⟩; have A3 := Lib.hid (A2.out.later hb3); have S3 := Lib.hid (S2.out.later hb3)))
    | (go_at_call 12; ((refine (rsum_any a2 n c2 (xs ++ []) w3 L2.out S3.out HM5.out hc2 HOn.out).mono ?_); rw [HE.out, HY.out]; rintro e w' ⟨rfl, rfl⟩))
    | (go_at_call 13; ((with_reducible refine (rsame_any a a2 n n c c2 xs (xs ++ []) w3 A3.out.len L2.out HM.out A3.out.seen S3.out).mono ?_); rw [HS.out]; rintro e w4 ⟨rfl, hb4⟩)))
  go_ret
  have z1 := hb1.size
  have z2 := hb2.size
  have z3 := hb3.size
  exact ⟨rfl, ((hb1.trans (hb2.mono z1)).trans (hb3.mono (by omega))).trans (hb4.mono (by omega))⟩

theorem walk (a0 : Option Addr) (len0 cap0 : Nat) (z0 : List Int) (a1 : Int) (w : World) (w0 : Came .u8 w a0 len0 cap0 z0) (w1 : (Lit.int .u32 a1).wf = true) :
    Calls Try.prog 3 #[.slice a0 len0 cap0, .int .u32 a1] w fun e w' => e = .returned (.bool true) ∧ Below w.heap.size w w' := by
  have h0 := came_in w0
  obtain ⟨x0, x1⟩ := bounds_u32 w1
  by_cases hn : len0 ≤ 600
  · exact main a0 len0 cap0 _ a1 w h0 hn x0 (by omega)
  · exact long_any a0 len0 cap0 a1 w (by omega)

set_option maxRecDepth 100000 in
theorem lifted (os : Os) (started : os.Started) (H : Type) (enc : TypeId × Value → H) :
    ReturnsInHanded {} Try.checked os 3 .any (Rows.sumIsSpec.pre6 enc Try.prog Try.f3 Rows.sumIsRow.domain false) (Rows.sumIsSpec.post enc Try.prog Try.f3 false true false false) := by
  refine returnsInHanded_of_change (C := Try.checked) own started (by kernel_rfl) Try.func3
    (ChangeSpec.witness6 (enc := enc) (C := Try.checked) false ⟨#[], #[.slice none 0 0, .int .u32 0], []⟩ 8 (by kernel_rfl) (by kernel_rfl) (by kernel_rfl) (by kernel_rfl)) ?_
  intro W base args ds gs before hval0 hW hcnd _
  have hval : ∀ (j : Nat) t v, Try.f3.params[j]? = some t → args[j]? = some v → Value.okWide Try.prog W .any base t v := hval0
  have hW' := hW
  obtain ⟨p, q, hA0, hV, rfl, hfz, hnd⟩ := hW
  have hA : DataW.TrodAll enc Try.prog W 0 (fun _ => true) true Try.f3.params.toList args.toList ds p := hA0
  rw [Try.params3] at hA hval
  obtain ⟨v0, vs0, d0, ds0, p0, q0, hargs, rfl, rfl, h0, r0⟩ := trodAll_cons hA
  obtain ⟨v1, vs1, d1, ds1, p1, q1, rfl, rfl, rfl, h1, r1⟩ := trodAll_cons r0
  obtain ⟨rfl, rfl, rfl⟩ := trodAll_nil r1
  obtain rfl : args = #[v0, v1] := by cases args; simp_all
  obtain ⟨rfl, rfl⟩ := trodVars_none hV
  obtain ⟨a0, len0, cap0, rfl⟩ := okWide_slice Try.underlying22 (hval 0 22 v0 rfl rfl)
  have k0 := h0
  have lt0 : ∀ x ∈ p0, x.block < W.heap.size := by obtain ⟨m, hm⟩ := k0; exact DataW.trod_lt m _ _ _ hm
  obtain ⟨z0, w0⟩ : ∃ zs, Came .u8 W a0 len0 cap0 zs := by
    obtain ⟨fuel, hf⟩ := h0
    rcases open_ints Try.underlying22 Try.underlying5 (by kernel_rfl) hf with ⟨hcs, _⟩ | ⟨x, l, c, zs, hcs, _, hl, hm, hz, _, hcell, hwz⟩
    · simp [Value.cells] at hcs
      obtain ⟨rfl, rfl, rfl⟩ := hcs
      exact ⟨[], .inl ⟨rfl, rfl, rfl, rfl⟩⟩
    · simp [Value.cells] at hcs
      obtain ⟨rfl, rfl, rfl⟩ := hcs
      exact ⟨zs, .inr ⟨_, rfl, hl, hm, by simpa using hz, hcell, hwz⟩⟩
  obtain ⟨a1, rfl, rfl, rfl, w1⟩ := open_int Try.underlying23 (hval 1 23 v1 rfl rfl) h1
  clear hA0 hval0
  refine (walk a0 len0 cap0 z0 a1 W w0 w1).mono fun e W' ⟨he, bel⟩ => ?_
  subst he
  exact ⟨_, rfl, _, _, _, [], _, [], hW', trodAll_mk1 (shut_bool Try.underlying4 _), (trodAll_cons_mk (Below.trod laidOut (by kernel_rfl) (of_decide_eq_true (by kernel_rfl)) k0 bel lt0) (trodAll_cons_mk (shut_int Try.underlying23 w1) trodAll_mk0)), rfl, bel.frame _, fun h => by cases h⟩

theorem over : Rows.sumIsRow.holds Try.pinned (OpenSpec.ofChange Rows.sumIsSpec) :=
  OpenClaim.holds_of_wide 3 Try.f3 rfl rfl rfl rfl rfl rfl rfl ⟨rfl, rfl, rfl, rfl, rfl⟩ rfl rfl rfl rfl rfl (by kernel_rfl) Try.func3 (by kernel_rfl)
    (of_decide_eq_true (by kernel_rfl)) (by unfold Func.isWrapper; first | (rw [if_pos (by decide +kernel)]; kernel_rfl) | (rw [if_neg (by decide +kernel)]; exact ⟨rfl, rfl⟩))
    (fun os started H enc _ => lifted os started H enc)

end Go.Proofs.Ytfidmbccboggoaa.sumIs
namespace Go.Proofs.Ytfidmbccboggoaa
theorem sumIs_holds : Rows.SumIsSaid := sumIs.over
#print axioms sumIs_holds
end Go.Proofs.Ytfidmbccboggoaa
