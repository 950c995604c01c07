import Derived.Test.YtgdkhdooekmfgaaSty1
import Derived.Test.YtgdkhdooekmfgaaSty2
import Derived.Test.YtgdkhdooekmfgaaTel4
import Derived.Test.YtgdkhdooekmfgaaPas1
namespace Go.Proofs.Ytgdkhdooekmfgaa
open Go Go.RowKit Wx
set_option linter.unusedVariables false
set_option linter.unusedSimpArgs false
set_option maxHeartbeats 4000000
theorem con_mono {P : Program} {g : FuncId} {args : List A0} {p q : AV → Kr → Nat → Prop} (h : Con P g args p) (hh : ∀ x K t, p x K t → q x K t) : Con P g args q := ⟨h.fn, fun w vs hv => (h.run w vs hv).mono fun e w2 ⟨v, x, Kc, tc, I, Rf, h1, h2, h3, h4, h5, h6⟩ => ⟨v, x, Kc, tc, I, Rf, h1, h2, h3, h4, h5, hh _ _ _ h6⟩⟩
theorem dn_one {span t : Int} {w h : Int} {d : Bool} : (([⟨w, h, d⟩] : List Pu).map (dn span t)).map cP = [cP (dn span t ⟨w, h, d⟩)] := rfl
theorem gone_one {span t : Int} {w h : Int} {d : Bool} : gone span t [⟨w, h, d⟩] = if isLate span t ⟨w, h, d⟩ = true then [w] else [] := by
  unfold gone; simp only [List.filter]; split <;> simp_all
theorem pass_fine (now span w wt : Int) (hk : okH now span ([⟨w, now, false⟩] : List Pu) = true) (hw : wt < span) (ht : now ≤ now + wt ∧ now + wt ≤ 1099511627776) : Con Try.prog 26 [.agg [.v (.int .i64 now), .v (.int .i64 span), .ro false 3 (([⟨w, now, false⟩] : List Pu).map eP)], .one (.v (.int .i64 (now + wt)))] (fun rx rK rt => rx = .tup [.agg [.v (.int .i64 (now + wt)), .v (.int .i64 span), .osl 0 0 1 (some 1)], .one (.ro true 1 []), .one (.v (.int .i64 0))] ∧ rK = [(0, some ⟨[cP ⟨w, now, false⟩], 3, 37, false⟩)] ∧ rt = 1) := by
  refine con_mono (pass_t now span [⟨w, now, false⟩] (now + wt) (by simp) hk) ?_
  rintro rx rK rt (⟨h0, _⟩ | ⟨_, h1, h2, h3⟩)
  · exact absurd ht h0
  · refine ⟨h1.trans ?_, h2.trans ?_, h3⟩
    · have hl : isLate span (now + wt) ⟨w, now, false⟩ = false := (by simp [isLate]; omega)
      simp [gone_one, dn, hl]
    · have hl : isLate span (now + wt) ⟨w, now, false⟩ = false := (by simp [isLate]; omega)
      simp [gone_one, dn, hl]
theorem pass_late (now span w wt : Int) (hk : okH now span ([⟨w, now, false⟩] : List Pu) = true) (hw : span ≤ wt) (ht : now ≤ now + wt ∧ now + wt ≤ 1099511627776) : Con Try.prog 26 [.agg [.v (.int .i64 now), .v (.int .i64 span), .ro false 3 (([⟨w, now, false⟩] : List Pu).map eP)], .one (.v (.int .i64 (now + wt)))] (fun rx rK rt => rx = .tup [.agg [.v (.int .i64 (now + wt)), .v (.int .i64 span), .osl 0 0 1 (some 1)], .one (.ro true 1 [[.v (.int .i64 w)]]), .one (.v (.int .i64 0))] ∧ rK = [(0, some ⟨[cP ⟨w, now, true⟩], 3, 37, false⟩)] ∧ rt = 1) := by
  refine con_mono (pass_t now span [⟨w, now, false⟩] (now + wt) (by simp) hk) ?_
  rintro rx rK rt (⟨h0, _⟩ | ⟨_, h1, h2, h3⟩)
  · exact absurd ht h0
  · refine ⟨h1.trans ?_, h2.trans ?_, h3⟩
    · have hl : isLate span (now + wt) ⟨w, now, false⟩ = true := (by simp [isLate]; omega)
      simp [gone_one, dn, hl]
    · have hl : isLate span (now + wt) ⟨w, now, false⟩ = true := (by simp [isLate]; omega)
      simp [gone_one, dn, hl]
theorem pass_down (now span w h : Int) (hk : okH now span ([⟨w, h, true⟩] : List Pu) = true) (ht : now ≤ now + 1 ∧ now + 1 ≤ 1099511627776) : Con Try.prog 26 [.agg [.v (.int .i64 now), .v (.int .i64 span), .ro false 3 (([⟨w, h, true⟩] : List Pu).map eP)], .one (.v (.int .i64 (now + 1)))] (fun rx rK rt => rx = .tup [.agg [.v (.int .i64 (now + 1)), .v (.int .i64 span), .osl 0 0 1 (some 1)], .one (.ro true 1 []), .one (.v (.int .i64 0))] ∧ rK = [(0, some ⟨[cP ⟨w, h, true⟩], 3, 37, false⟩)] ∧ rt = 1) := by
  refine con_mono (pass_t now span [⟨w, h, true⟩] (now + 1) (by simp) hk) ?_
  rintro rx rK rt (⟨h0, _⟩ | ⟨_, h1, h2, h3⟩)
  · exact absurd ht h0
  · refine ⟨h1.trans ?_, h2.trans ?_, h3⟩
    · have hl : isLate span (now + 1) ⟨w, h, true⟩ = false := rfl
      simp [gone_one, dn, hl]
    · have hl : isLate span (now + 1) ⟨w, h, true⟩ = false := rfl
      simp [gone_one, dn, hl]
theorem pass_any (now span w h : Int) (d : Bool) (hk : okH now span ([⟨w, h, d⟩] : List Pu) = true) (ht : now ≤ now + 1 ∧ now + 1 ≤ 1099511627776) : Con Try.prog 26 [.agg [.v (.int .i64 now), .v (.int .i64 span), .ro false 3 (([⟨w, h, d⟩] : List Pu).map eP)], .one (.v (.int .i64 (now + 1)))] (fun rx rK rt => rx = .tup [.agg [.v (.int .i64 (now + 1)), .v (.int .i64 span), .osl 0 0 1 (some 1)], .one (.ro true 1 ((gone span (now + 1) [⟨w, h, d⟩]).map eN)), .one (.v (.int .i64 0))] ∧ rK = [(0, some ⟨[cP (dn span (now + 1) ⟨w, h, d⟩)], 3, 37, false⟩)] ∧ rt = 1) := by
  refine con_mono (pass_t now span [⟨w, h, d⟩] (now + 1) (by simp) hk) ?_
  rintro rx rK rt (⟨h0, _⟩ | ⟨_, h1, h2, h3⟩)
  · exact absurd ht h0
  · refine ⟨h1.trans ?_, h2.trans ?_, h3⟩
    · rfl
    · rfl
theorem alive_up (now span w h : Int) (hk : okH now span ([⟨w, h, false⟩] : List Pu) = true) : Con Try.prog 19 [.agg [.v (.int .i64 now), .v (.int .i64 span), .ro false 3 (([⟨w, h, false⟩] : List Pu).map eP)]] (fun rx rK rt => rx = .c (.ro true 1 [[.v (.int .i64 w)]]) ∧ rK = [] ∧ rt = 0) := alive_t now span [⟨w, h, false⟩] (by simp) hk
theorem alive_dn (now span w h : Int) (hk : okH now span ([⟨w, h, true⟩] : List Pu) = true) : Con Try.prog 19 [.agg [.v (.int .i64 now), .v (.int .i64 span), .ro false 3 (([⟨w, h, true⟩] : List Pu).map eP)]] (fun rx rK rt => rx = .c (.ro true 1 []) ∧ rK = [] ∧ rt = 0) := alive_t now span [⟨w, h, true⟩] (by simp) hk
theorem okH_one {now span w h : Int} {d : Bool} (h1 : 0 ≤ now ∧ now ≤ 1099511627776) (h2 : 1 ≤ span ∧ span ≤ 100) (h3 : 1 ≤ w ∧ w ≤ 4) (h4 : 0 ≤ h ∧ h ≤ now) (h5 : d = false → now < h + span) : okH now span [⟨w, h, d⟩] = true := by
  unfold okH okPs okPs; simp only [Bool.and_true, Bool.and_eq_true, decide_eq_true_eq]; exact ⟨⟨h1, h2⟩, by omega, h3.2, h4.1, h4.2, h5⟩
theorem vN_tm {p q : Int} {A : Int → Prop} (hq : 0 < q) (h : ∀ r, -q < r → r < q → A r) : vN (p.tmod q) A := vN_mk (h _ (Int.neg_lt_of_neg_lt (by rw [← Int.neg_tmod]; exact Int.tmod_lt_of_pos _ hq)) (Int.tmod_lt_of_pos _ hq))
theorem vN_tm0 {p q : Int} {A : Int → Prop} (hp : 0 ≤ p) (hq : 0 < q) (h : ∀ r, 0 ≤ r → r < q → A r) : vN (p.tmod q) A := vN_mk (h _ (Int.tmod_nonneg _ hp) (Int.tmod_lt_of_pos _ hq))
theorem wrap_u64_nn (z : Int) : 0 ≤ IntKind.u64.wrap z := by unfold IntKind.wrap; simp [IntKind.signed, IntKind.bits]; omega
theorem alive_up2 (now span w h : Int) (h1 : 0 ≤ now ∧ now ≤ 1099511627776) (h2 : 1 ≤ span ∧ span ≤ 100) (h3 : 1 ≤ w ∧ w ≤ 4) (h4 : 0 ≤ h ∧ h ≤ now) (h5 : now < h + span) : Con Try.prog 19 [.agg [.v (.int .i64 now), .v (.int .i64 span), .ro false 3 (([⟨w, h, false⟩] : List Pu).map eP)]] (fun rx rK rt => rx = .c (.ro true 1 [[.v (.int .i64 w)]]) ∧ rK = [] ∧ rt = 0) := alive_up _ _ _ _ (okH_one h1 h2 h3 h4 (fun _ => h5))
theorem alive_dn2 (now span w h : Int) (h1 : 0 ≤ now ∧ now ≤ 1099511627776) (h2 : 1 ≤ span ∧ span ≤ 100) (h3 : 1 ≤ w ∧ w ≤ 4) (h4 : 0 ≤ h ∧ h ≤ now)  : Con Try.prog 19 [.agg [.v (.int .i64 now), .v (.int .i64 span), .ro false 3 (([⟨w, h, true⟩] : List Pu).map eP)]] (fun rx rK rt => rx = .c (.ro true 1 []) ∧ rK = [] ∧ rt = 0) := alive_dn _ _ _ _ (okH_one h1 h2 h3 h4 (by simp))
theorem pass_down2 (now span w h : Int) (h1 : 0 ≤ now ∧ now ≤ 1099511627776) (h2 : 1 ≤ span ∧ span ≤ 100) (h3 : 1 ≤ w ∧ w ≤ 4) (h4 : 0 ≤ h ∧ h ≤ now) (ht : now ≤ now + 1 ∧ now + 1 ≤ 1099511627776) : Con Try.prog 26 [.agg [.v (.int .i64 now), .v (.int .i64 span), .ro false 3 (([⟨w, h, true⟩] : List Pu).map eP)], .one (.v (.int .i64 (now + 1)))] (fun rx rK rt => rx = .tup [.agg [.v (.int .i64 (now + 1)), .v (.int .i64 span), .osl 0 0 1 (some 1)], .one (.ro true 1 []), .one (.v (.int .i64 0))] ∧ rK = [(0, some ⟨[cP ⟨w, h, true⟩], 3, 37, false⟩)] ∧ rt = 1) := pass_down _ _ _ _ (okH_one h1 h2 h3 h4 (by simp)) ht
theorem pass_up2 (now span w h : Int) (h1 : 0 ≤ now ∧ now ≤ 1099511627776) (h2 : 1 ≤ span ∧ span ≤ 100) (h3 : 1 ≤ w ∧ w ≤ 4) (h4 : 0 ≤ h ∧ h ≤ now) (h5 : now < h + span) (ht : now ≤ now + 1 ∧ now + 1 ≤ 1099511627776) : Con Try.prog 26 [.agg [.v (.int .i64 now), .v (.int .i64 span), .ro false 3 (([⟨w, h, false⟩] : List Pu).map eP)], .one (.v (.int .i64 (now + 1)))] (fun rx rK rt => rx = .tup [.agg [.v (.int .i64 (now + 1)), .v (.int .i64 span), .osl 0 0 1 (some 1)], .one (.ro true 1 ((gone span (now + 1) [⟨w, h, false⟩]).map eN)), .one (.v (.int .i64 0))] ∧ rK = [(0, some ⟨[cP (dn span (now + 1) ⟨w, h, false⟩)], 3, 37, false⟩)] ∧ rt = 1) := pass_any _ _ _ _ false (okH_one h1 h2 h3 h4 (fun _ => h5)) ht
end Go.Proofs.Ytgdkhdooekmfgaa
