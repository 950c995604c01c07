/-
  The walks of layer 25's functions (job), at the seat's numbers: what comes of a happening in a column.
-/
import Derived.Test.YtdepolfmibhojaaComesLow
import Derived.Deep.CutRange
import Derived.Deep.DeepCutAuto
import Derived.WalkKit
import Derived.ProofKit
import Derived.OpenShut
import Derived.Outline
import Derived.BigQuiet
import Derived.WalkSpells
import Derived.Below
import Derived.ChangeOld
import Derived.Lib.Hide
import Derived.Deep.Light
import Derived.Test.YtdepolfmibhojaaGrow
import Derived.Deep.MidRow
import Derived.Deep.RegionHeld3
import Derived.Lib.LazyBuf
import Derived.Laws.IdiomCopy
namespace Go.Proofs.Ytdepolfmibhojaa
open Go.ChangeShapes Go.WideShapes Go.ChangeAt Go.RowKit
set_option linter.unusedVariables false
set_option maxHeartbeats 16000000 in
set_option maxRecDepth 100000 in
theorem comes_any (h c : Nat) (w : World) (h1 : 1 ≤ h) (h9 : h ≤ 9) (hc : c ≤ 4) :
    Calls Try.prog 24 #[.int .i64 (h : Int), .int .i64 (c : Int)] w fun e w' => e = .returned (.agg #[.int .i64 (tab h c).1, .int .i64 (tab h c).2.1, .bool (tab h c).2.2]) ∧ Below w.heap.size w w' := by
  have HH1 := Lib.hid h1; have HH9 := Lib.hid h9; have HHC := Lib.hid hc
  clear h1 h9 hc
  go_enter Try.func24, Try.ntmps24
  go_upto_region 6 with (first
    | (go_at_call 26; ((with_reducible refine (no_any 4 _).mono ?_); rintro e w1 ⟨rfl, hb1⟩))
    | (go_at_call 26; ((with_reducible refine (no_any 351 _).mono ?_); rintro e w2 ⟨rfl, hb2⟩))
    | (go_at_call 26; ((with_reducible refine (no_any 5 _).mono ?_); rintro e w3 ⟨rfl, hb3⟩))
    | (go_at_call 26; ((with_reducible refine (no_any 352 _).mono ?_); rintro e w4 ⟨rfl, hb4⟩))
    | (go_at_call 25; ((with_reducible refine (to_any 6 _).mono ?_); rintro e w5 ⟨rfl, hb5⟩))
    | (go_at_call 25; ((with_reducible refine (to_any 7 _).mono ?_); rintro e w6 ⟨rfl, hb6⟩)))
  have kA := ((((((((((((T3.new (w.alloc (.cells #[.int .i64 0, .int .i64 0, .bool false] 49)) 0 0 true).later hb1).later hb2).later hb3).later hb4).alloc (.cells #[.int .i64 0, .int .i64 4, .bool false] 49)).alloc (.cells #[.int .i64 0, .int .i64 351, .bool false] 49)).alloc (.cells #[.int .i64 0, .int .i64 5, .bool false] 49)).alloc (.cells #[.int .i64 0, .int .i64 352, .bool false] 49)).later hb5).later hb6).alloc (.cells #[.int .i64 6, .int .i64 0, .bool false] 49)).alloc (.cells #[.int .i64 7, .int .i64 0, .bool false] 49)
  have kN := (((((((T3.new w4 0 4 false).alloc (.cells #[.int .i64 0, .int .i64 351, .bool false] 49)).alloc (.cells #[.int .i64 0, .int .i64 5, .bool false] 49)).alloc (.cells #[.int .i64 0, .int .i64 352, .bool false] 49)).later hb5).later hb6).alloc (.cells #[.int .i64 6, .int .i64 0, .bool false] 49)).alloc (.cells #[.int .i64 7, .int .i64 0, .bool false] 49)
  have kO := ((((((T3.new (w4.alloc (.cells #[.int .i64 0, .int .i64 4, .bool false] 49)) 0 351 false).alloc (.cells #[.int .i64 0, .int .i64 5, .bool false] 49)).alloc (.cells #[.int .i64 0, .int .i64 352, .bool false] 49)).later hb5).later hb6).alloc (.cells #[.int .i64 6, .int .i64 0, .bool false] 49)).alloc (.cells #[.int .i64 7, .int .i64 0, .bool false] 49)
  have kT := (((((T3.new ((w4.alloc (.cells #[.int .i64 0, .int .i64 4, .bool false] 49)).alloc (.cells #[.int .i64 0, .int .i64 351, .bool false] 49)) 0 5 false).alloc (.cells #[.int .i64 0, .int .i64 352, .bool false] 49)).later hb5).later hb6).alloc (.cells #[.int .i64 6, .int .i64 0, .bool false] 49)).alloc (.cells #[.int .i64 7, .int .i64 0, .bool false] 49)
  have kS := ((((T3.new (((w4.alloc (.cells #[.int .i64 0, .int .i64 4, .bool false] 49)).alloc (.cells #[.int .i64 0, .int .i64 351, .bool false] 49)).alloc (.cells #[.int .i64 0, .int .i64 5, .bool false] 49)) 0 352 false).later hb5).later hb6).alloc (.cells #[.int .i64 6, .int .i64 0, .bool false] 49)).alloc (.cells #[.int .i64 7, .int .i64 0, .bool false] 49)
  have kC := (T3.new w6 6 0 false).alloc (.cells #[.int .i64 7, .int .i64 0, .bool false] 49)
  have kF := T3.new (w6.alloc (.cells #[.int .i64 6, .int .i64 0, .bool false] 49)) 7 0 false
  have kW : CH w ((w6.alloc (.cells #[.int .i64 6, .int .i64 0, .bool false] 49)).alloc (.cells #[.int .i64 7, .int .i64 0, .bool false] 49)) := (((((((((((((CH.new w).alloc _).step hb1).step hb2).step hb3).step hb4).alloc _).alloc _).alloc _).alloc _).step hb5).step hb6).alloc _).alloc _
  simp only [heap_size_alloc] at kA kN kO kT kS kC kF
  generalize hW : (w6.alloc (.cells #[.int .i64 6, .int .i64 0, .bool false] 49)).alloc (.cells #[.int .i64 7, .int .i64 0, .bool false] 49) = W at kA kN kO kT kS kC kF kW ⊢
  have HA : Hid (w.heap.size < w.heap.size + 1) := Lib.hid (Nat.lt_succ_self _)
  have HCHW := Lib.hid kW
  obtain ⟨A, hA⟩ : ∃ A, A = w.heap.size + 1 := ⟨_, rfl⟩
  rw [← hA] at kA HA ⊢
  clear hA hW hb1 hb2 hb3 hb4 hb5 hb6
  generalize w4.heap.size + 1 + 1 + 1 = S at kS ⊢
  generalize w4.heap.size + 1 + 1 = T at kT ⊢
  generalize w4.heap.size + 1 = O at kO ⊢
  generalize w4.heap.size = N at kN ⊢
  generalize w6.heap.size + 1 = F at kF ⊢
  generalize w6.heap.size = C at kC ⊢
  refine wp_cut (fun a wd => ∃ b, a = ⟨#[.int .i64 (h : Int), .int .i64 (c : Int), undef, undef, .pointer (some ⟨w.heap.size, 0, none⟩), .func (.func 25) #[] #[], .func (.func 26) #[] #[], .pointer (some ⟨A, 0, none⟩), .pointer (some ⟨N, 0, none⟩), .pointer (some ⟨O, 0, none⟩), .pointer (some ⟨T, 0, none⟩), .pointer (some ⟨S, 0, none⟩), .pointer (some ⟨C, 0, none⟩), .pointer (some ⟨F, 0, none⟩), .pointer (some ⟨b, 0, none⟩), .agg #[.int .i64 0, .int .i64 0, .bool true], .func (.func 26) #[] #[], .agg #[.int .i64 0, .int .i64 4, .bool false], .func (.func 26) #[] #[], .agg #[.int .i64 0, .int .i64 351, .bool false], .func (.func 26) #[] #[], .agg #[.int .i64 0, .int .i64 5, .bool false], .func (.func 26) #[] #[], .agg #[.int .i64 0, .int .i64 352, .bool false], .func (.func 25) #[] #[], .agg #[.int .i64 6, .int .i64 0, .bool false], .func (.func 25) #[] #[], .agg #[.int .i64 7, .int .i64 0, .bool false], .func (.func 25) #[] #[], .agg #[.int .i64 1, .int .i64 0, .bool false], .agg #[.int .i64 0, .int .i64 5, .bool false], .agg #[.int .i64 0, .int .i64 5, .bool false], .agg #[.int .i64 0, .int .i64 5, .bool false], .agg #[.int .i64 0, .int .i64 5, .bool false], .agg #[.int .i64 1, .int .i64 0, .bool false, .int .i64 0, .int .i64 5, .bool false, .int .i64 0, .int .i64 5, .bool false, .int .i64 0, .int .i64 5, .bool false, .int .i64 0, .int .i64 5, .bool false], .agg #[.int .i64 0, .int .i64 4, .bool false], .agg #[.int .i64 6, .int .i64 0, .bool false], .agg #[.int .i64 6, .int .i64 0, .bool false], .agg #[.int .i64 6, .int .i64 0, .bool false], .agg #[.int .i64 0, .int .i64 351, .bool false], .agg #[.int .i64 0, .int .i64 4, .bool false, .int .i64 6, .int .i64 0, .bool false, .int .i64 6, .int .i64 0, .bool false, .int .i64 6, .int .i64 0, .bool false, .int .i64 0, .int .i64 351, .bool false], .agg #[.int .i64 0, .int .i64 4, .bool false], .agg #[.int .i64 0, .int .i64 0, .bool true], .agg #[.int .i64 0, .int .i64 0, .bool true], .agg #[.int .i64 0, .int .i64 0, .bool true], .agg #[.int .i64 0, .int .i64 351, .bool false], .agg #[.int .i64 0, .int .i64 4, .bool false, .int .i64 0, .int .i64 0, .bool true, .int .i64 0, .int .i64 0, .bool true, .int .i64 0, .int .i64 0, .bool true, .int .i64 0, .int .i64 351, .bool false], .agg #[.int .i64 0, .int .i64 4, .bool false], .agg #[.int .i64 0, .int .i64 352, .bool false], .func (.func 25) #[] #[], .agg #[.int .i64 1, .int .i64 0, .bool false], .agg #[.int .i64 0, .int .i64 352, .bool false], .agg #[.int .i64 0, .int .i64 351, .bool false], .agg #[.int .i64 0, .int .i64 4, .bool false, .int .i64 0, .int .i64 352, .bool false, .int .i64 1, .int .i64 0, .bool false, .int .i64 0, .int .i64 352, .bool false, .int .i64 0, .int .i64 351, .bool false], .agg #[.int .i64 0, .int .i64 4, .bool false], .func (.func 25) #[] #[], .agg #[.int .i64 3, .int .i64 0, .bool false], .func (.func 26) #[] #[], .agg #[.int .i64 0, .int .i64 353, .bool false], .agg #[.int .i64 0, .int .i64 5, .bool false], .agg #[.int .i64 0, .int .i64 351, .bool false], .agg #[.int .i64 0, .int .i64 4, .bool false, .int .i64 3, .int .i64 0, .bool false, .int .i64 0, .int .i64 353, .bool false, .int .i64 0, .int .i64 5, .bool false, .int .i64 0, .int .i64 351, .bool false], .agg #[.int .i64 0, .int .i64 4, .bool false], .agg #[.int .i64 0, .int .i64 352, .bool false], .agg #[.int .i64 0, .int .i64 352, .bool false], .func (.func 25) #[] #[], .agg #[.int .i64 5, .int .i64 0, .bool false], .agg #[.int .i64 0, .int .i64 351, .bool false], .agg #[.int .i64 0, .int .i64 4, .bool false, .int .i64 0, .int .i64 352, .bool false, .int .i64 0, .int .i64 352, .bool false, .int .i64 5, .int .i64 0, .bool false, .int .i64 0, .int .i64 351, .bool false], .agg #[.int .i64 0, .int .i64 4, .bool false], .agg #[.int .i64 0, .int .i64 352, .bool false], .agg #[.int .i64 0, .int .i64 352, .bool false], .func (.func 25) #[] #[], .agg #[.int .i64 1, .int .i64 0, .bool false], .agg #[.int .i64 0, .int .i64 351, .bool false], .agg #[.int .i64 0, .int .i64 4, .bool false, .int .i64 0, .int .i64 352, .bool false, .int .i64 0, .int .i64 352, .bool false, .int .i64 1, .int .i64 0, .bool false, .int .i64 0, .int .i64 351, .bool false], .agg #[.int .i64 0, .int .i64 4, .bool false], .func (.func 25) #[] #[], .agg #[.int .i64 4, .int .i64 0, .bool false], .agg #[.int .i64 0, .int .i64 352, .bool false], .func (.func 25) #[] #[], .agg #[.int .i64 4, .int .i64 0, .bool false], .agg #[.int .i64 0, .int .i64 351, .bool false], .agg #[.int .i64 0, .int .i64 4, .bool false, .int .i64 4, .int .i64 0, .bool false, .int .i64 0, .int .i64 352, .bool false, .int .i64 4, .int .i64 0, .bool false, .int .i64 0, .int .i64 351, .bool false], .agg #[.int .i64 0, .int .i64 4, .bool false], .agg #[.int .i64 7, .int .i64 0, .bool false], .agg #[.int .i64 7, .int .i64 0, .bool false], .agg #[.int .i64 7, .int .i64 0, .bool false], .agg #[.int .i64 0, .int .i64 351, .bool false], .agg #[.int .i64 0, .int .i64 4, .bool false, .int .i64 7, .int .i64 0, .bool false, .int .i64 7, .int .i64 0, .bool false, .int .i64 7, .int .i64 0, .bool false, .int .i64 0, .int .i64 351, .bool false], .agg #[.int .i64 0, .int .i64 0, .bool false, .int .i64 0, .int .i64 0, .bool false, .int .i64 0, .int .i64 0, .bool false, .int .i64 0, .int .i64 0, .bool false, .int .i64 0, .int .i64 0, .bool false, .int .i64 1, .int .i64 0, .bool false, .int .i64 0, .int .i64 5, .bool false, .int .i64 0, .int .i64 5, .bool false, .int .i64 0, .int .i64 5, .bool false, .int .i64 0, .int .i64 5, .bool false, .int .i64 0, .int .i64 4, .bool false, .int .i64 6, .int .i64 0, .bool false, .int .i64 6, .int .i64 0, .bool false, .int .i64 6, .int .i64 0, .bool false, .int .i64 0, .int .i64 351, .bool false, .int .i64 0, .int .i64 4, .bool false, .int .i64 0, .int .i64 0, .bool true, .int .i64 0, .int .i64 0, .bool true, .int .i64 0, .int .i64 0, .bool true, .int .i64 0, .int .i64 351, .bool false, .int .i64 0, .int .i64 4, .bool false, .int .i64 0, .int .i64 352, .bool false, .int .i64 1, .int .i64 0, .bool false, .int .i64 0, .int .i64 352, .bool false, .int .i64 0, .int .i64 351, .bool false, .int .i64 0, .int .i64 4, .bool false, .int .i64 3, .int .i64 0, .bool false, .int .i64 0, .int .i64 353, .bool false, .int .i64 0, .int .i64 5, .bool false, .int .i64 0, .int .i64 351, .bool false, .int .i64 0, .int .i64 4, .bool false, .int .i64 0, .int .i64 352, .bool false, .int .i64 0, .int .i64 352, .bool false, .int .i64 5, .int .i64 0, .bool false, .int .i64 0, .int .i64 351, .bool false, .int .i64 0, .int .i64 4, .bool false, .int .i64 0, .int .i64 352, .bool false, .int .i64 0, .int .i64 352, .bool false, .int .i64 1, .int .i64 0, .bool false, .int .i64 0, .int .i64 351, .bool false, .int .i64 0, .int .i64 4, .bool false, .int .i64 4, .int .i64 0, .bool false, .int .i64 0, .int .i64 352, .bool false, .int .i64 4, .int .i64 0, .bool false, .int .i64 0, .int .i64 351, .bool false, .int .i64 0, .int .i64 4, .bool false, .int .i64 7, .int .i64 0, .bool false, .int .i64 7, .int .i64 0, .bool false, .int .i64 7, .int .i64 0, .bool false, .int .i64 0, .int .i64 351, .bool false], undef, undef, undef, undef, undef], []⟩ ∧ Laid w (.pointer (some ⟨b, 0, none⟩)) wd) ?rest ?first
  case first =>
    intro J K hJ hK
    simp only [List.append]
    refine wp_region_growL (n := 63) (C := fun w' => Below W.heap.size W w') (Qf := fun a => a = ⟨#[.int .i64 (h : Int), .int .i64 (c : Int), undef, undef, .pointer (some ⟨w.heap.size, 0, none⟩), .func (.func 25) #[] #[], .func (.func 26) #[] #[], .pointer (some ⟨A, 0, none⟩), .pointer (some ⟨N, 0, none⟩), .pointer (some ⟨O, 0, none⟩), .pointer (some ⟨T, 0, none⟩), .pointer (some ⟨S, 0, none⟩), .pointer (some ⟨C, 0, none⟩), .pointer (some ⟨F, 0, none⟩), undef, .agg #[.int .i64 0, .int .i64 0, .bool true], .func (.func 26) #[] #[], .agg #[.int .i64 0, .int .i64 4, .bool false], .func (.func 26) #[] #[], .agg #[.int .i64 0, .int .i64 351, .bool false], .func (.func 26) #[] #[], .agg #[.int .i64 0, .int .i64 5, .bool false], .func (.func 26) #[] #[], .agg #[.int .i64 0, .int .i64 352, .bool false], .func (.func 25) #[] #[], .agg #[.int .i64 6, .int .i64 0, .bool false], .func (.func 25) #[] #[], .agg #[.int .i64 7, .int .i64 0, .bool false], .func (.func 25) #[] #[], .agg #[.int .i64 1, .int .i64 0, .bool false], .agg #[.int .i64 0, .int .i64 5, .bool false], .agg #[.int .i64 0, .int .i64 5, .bool false], .agg #[.int .i64 0, .int .i64 5, .bool false], .agg #[.int .i64 0, .int .i64 5, .bool false], .agg #[.int .i64 1, .int .i64 0, .bool false, .int .i64 0, .int .i64 5, .bool false, .int .i64 0, .int .i64 5, .bool false, .int .i64 0, .int .i64 5, .bool false, .int .i64 0, .int .i64 5, .bool false], .agg #[.int .i64 0, .int .i64 4, .bool false], .agg #[.int .i64 6, .int .i64 0, .bool false], .agg #[.int .i64 6, .int .i64 0, .bool false], .agg #[.int .i64 6, .int .i64 0, .bool false], .agg #[.int .i64 0, .int .i64 351, .bool false], .agg #[.int .i64 0, .int .i64 4, .bool false, .int .i64 6, .int .i64 0, .bool false, .int .i64 6, .int .i64 0, .bool false, .int .i64 6, .int .i64 0, .bool false, .int .i64 0, .int .i64 351, .bool false], .agg #[.int .i64 0, .int .i64 4, .bool false], .agg #[.int .i64 0, .int .i64 0, .bool true], .agg #[.int .i64 0, .int .i64 0, .bool true], .agg #[.int .i64 0, .int .i64 0, .bool true], .agg #[.int .i64 0, .int .i64 351, .bool false], .agg #[.int .i64 0, .int .i64 4, .bool false, .int .i64 0, .int .i64 0, .bool true, .int .i64 0, .int .i64 0, .bool true, .int .i64 0, .int .i64 0, .bool true, .int .i64 0, .int .i64 351, .bool false], .agg #[.int .i64 0, .int .i64 4, .bool false], .agg #[.int .i64 0, .int .i64 352, .bool false], .func (.func 25) #[] #[], .agg #[.int .i64 1, .int .i64 0, .bool false], .agg #[.int .i64 0, .int .i64 352, .bool false], .agg #[.int .i64 0, .int .i64 351, .bool false], .agg #[.int .i64 0, .int .i64 4, .bool false, .int .i64 0, .int .i64 352, .bool false, .int .i64 1, .int .i64 0, .bool false, .int .i64 0, .int .i64 352, .bool false, .int .i64 0, .int .i64 351, .bool false], .agg #[.int .i64 0, .int .i64 4, .bool false], .func (.func 25) #[] #[], .agg #[.int .i64 3, .int .i64 0, .bool false], .func (.func 26) #[] #[], .agg #[.int .i64 0, .int .i64 353, .bool false], .agg #[.int .i64 0, .int .i64 5, .bool false], .agg #[.int .i64 0, .int .i64 351, .bool false], .agg #[.int .i64 0, .int .i64 4, .bool false, .int .i64 3, .int .i64 0, .bool false, .int .i64 0, .int .i64 353, .bool false, .int .i64 0, .int .i64 5, .bool false, .int .i64 0, .int .i64 351, .bool false], .agg #[.int .i64 0, .int .i64 4, .bool false], .agg #[.int .i64 0, .int .i64 352, .bool false], .agg #[.int .i64 0, .int .i64 352, .bool false], .func (.func 25) #[] #[], .agg #[.int .i64 5, .int .i64 0, .bool false], .agg #[.int .i64 0, .int .i64 351, .bool false], .agg #[.int .i64 0, .int .i64 4, .bool false, .int .i64 0, .int .i64 352, .bool false, .int .i64 0, .int .i64 352, .bool false, .int .i64 5, .int .i64 0, .bool false, .int .i64 0, .int .i64 351, .bool false], .agg #[.int .i64 0, .int .i64 4, .bool false], .agg #[.int .i64 0, .int .i64 352, .bool false], .agg #[.int .i64 0, .int .i64 352, .bool false], .func (.func 25) #[] #[], .agg #[.int .i64 1, .int .i64 0, .bool false], .agg #[.int .i64 0, .int .i64 351, .bool false], .agg #[.int .i64 0, .int .i64 4, .bool false, .int .i64 0, .int .i64 352, .bool false, .int .i64 0, .int .i64 352, .bool false, .int .i64 1, .int .i64 0, .bool false, .int .i64 0, .int .i64 351, .bool false], .agg #[.int .i64 0, .int .i64 4, .bool false], .func (.func 25) #[] #[], .agg #[.int .i64 4, .int .i64 0, .bool false], .agg #[.int .i64 0, .int .i64 352, .bool false], .func (.func 25) #[] #[], .agg #[.int .i64 4, .int .i64 0, .bool false], .agg #[.int .i64 0, .int .i64 351, .bool false], .agg #[.int .i64 0, .int .i64 4, .bool false, .int .i64 4, .int .i64 0, .bool false, .int .i64 0, .int .i64 352, .bool false, .int .i64 4, .int .i64 0, .bool false, .int .i64 0, .int .i64 351, .bool false], .agg #[.int .i64 0, .int .i64 4, .bool false], .agg #[.int .i64 7, .int .i64 0, .bool false], .agg #[.int .i64 7, .int .i64 0, .bool false], .agg #[.int .i64 7, .int .i64 0, .bool false], .agg #[.int .i64 0, .int .i64 351, .bool false], .agg #[.int .i64 0, .int .i64 4, .bool false, .int .i64 7, .int .i64 0, .bool false, .int .i64 7, .int .i64 0, .bool false, .int .i64 7, .int .i64 0, .bool false, .int .i64 0, .int .i64 351, .bool false], .agg #[.int .i64 0, .int .i64 0, .bool false, .int .i64 0, .int .i64 0, .bool false, .int .i64 0, .int .i64 0, .bool false, .int .i64 0, .int .i64 0, .bool false, .int .i64 0, .int .i64 0, .bool false, .int .i64 1, .int .i64 0, .bool false, .int .i64 0, .int .i64 5, .bool false, .int .i64 0, .int .i64 5, .bool false, .int .i64 0, .int .i64 5, .bool false, .int .i64 0, .int .i64 5, .bool false, .int .i64 0, .int .i64 4, .bool false, .int .i64 6, .int .i64 0, .bool false, .int .i64 6, .int .i64 0, .bool false, .int .i64 6, .int .i64 0, .bool false, .int .i64 0, .int .i64 351, .bool false, .int .i64 0, .int .i64 4, .bool false, .int .i64 0, .int .i64 0, .bool true, .int .i64 0, .int .i64 0, .bool true, .int .i64 0, .int .i64 0, .bool true, .int .i64 0, .int .i64 351, .bool false, .int .i64 0, .int .i64 4, .bool false, .int .i64 0, .int .i64 352, .bool false, .int .i64 1, .int .i64 0, .bool false, .int .i64 0, .int .i64 352, .bool false, .int .i64 0, .int .i64 351, .bool false, .int .i64 0, .int .i64 4, .bool false, .int .i64 3, .int .i64 0, .bool false, .int .i64 0, .int .i64 353, .bool false, .int .i64 0, .int .i64 5, .bool false, .int .i64 0, .int .i64 351, .bool false, .int .i64 0, .int .i64 4, .bool false, .int .i64 0, .int .i64 352, .bool false, .int .i64 0, .int .i64 352, .bool false, .int .i64 5, .int .i64 0, .bool false, .int .i64 0, .int .i64 351, .bool false, .int .i64 0, .int .i64 4, .bool false, .int .i64 0, .int .i64 352, .bool false, .int .i64 0, .int .i64 352, .bool false, .int .i64 1, .int .i64 0, .bool false, .int .i64 0, .int .i64 351, .bool false, .int .i64 0, .int .i64 4, .bool false, .int .i64 4, .int .i64 0, .bool false, .int .i64 0, .int .i64 352, .bool false, .int .i64 4, .int .i64 0, .bool false, .int .i64 0, .int .i64 351, .bool false, .int .i64 0, .int .i64 4, .bool false, .int .i64 7, .int .i64 0, .bool false, .int .i64 7, .int .i64 0, .bool false, .int .i64 7, .int .i64 0, .bool false, .int .i64 0, .int .i64 351, .bool false], undef, undef, undef, undef, undef], []⟩) (da := 14) (n0 := W.heap.size) (obj := .cells #[.int .i64 0, .int .i64 0, .bool false, .int .i64 0, .int .i64 0, .bool false, .int .i64 0, .int .i64 0, .bool false, .int .i64 0, .int .i64 0, .bool false, .int .i64 0, .int .i64 0, .bool false, .int .i64 0, .int .i64 0, .bool false, .int .i64 0, .int .i64 0, .bool false, .int .i64 0, .int .i64 0, .bool false, .int .i64 0, .int .i64 0, .bool false, .int .i64 0, .int .i64 0, .bool false, .int .i64 0, .int .i64 0, .bool false, .int .i64 0, .int .i64 0, .bool false, .int .i64 0, .int .i64 0, .bool false, .int .i64 0, .int .i64 0, .bool false, .int .i64 0, .int .i64 0, .bool false, .int .i64 0, .int .i64 0, .bool false, .int .i64 0, .int .i64 0, .bool false, .int .i64 0, .int .i64 0, .bool false, .int .i64 0, .int .i64 0, .bool false, .int .i64 0, .int .i64 0, .bool false, .int .i64 0, .int .i64 0, .bool false, .int .i64 0, .int .i64 0, .bool false, .int .i64 0, .int .i64 0, .bool false, .int .i64 0, .int .i64 0, .bool false, .int .i64 0, .int .i64 0, .bool false, .int .i64 0, .int .i64 0, .bool false, .int .i64 0, .int .i64 0, .bool false, .int .i64 0, .int .i64 0, .bool false, .int .i64 0, .int .i64 0, .bool false, .int .i64 0, .int .i64 0, .bool false, .int .i64 0, .int .i64 0, .bool false, .int .i64 0, .int .i64 0, .bool false, .int .i64 0, .int .i64 0, .bool false, .int .i64 0, .int .i64 0, .bool false, .int .i64 0, .int .i64 0, .bool false, .int .i64 0, .int .i64 0, .bool false, .int .i64 0, .int .i64 0, .bool false, .int .i64 0, .int .i64 0, .bool false, .int .i64 0, .int .i64 0, .bool false, .int .i64 0, .int .i64 0, .bool false, .int .i64 0, .int .i64 0, .bool false, .int .i64 0, .int .i64 0, .bool false, .int .i64 0, .int .i64 0, .bool false, .int .i64 0, .int .i64 0, .bool false, .int .i64 0, .int .i64 0, .bool false, .int .i64 0, .int .i64 0, .bool false, .int .i64 0, .int .i64 0, .bool false, .int .i64 0, .int .i64 0, .bool false, .int .i64 0, .int .i64 0, .bool false, .int .i64 0, .int .i64 0, .bool false] 54) (aop := .alloc 54) rfl (by kernel_rfl) (fun w1 w2 p q => p.trans (q.mono p.size)) (fun w1 p => p.size) (by kernel_rfl) ?al ?la (Below.refl _ _).drew ?wk
    case al => exact fun o ho a w1 _ => run_alloc54 o ho a w1
    case la =>
      rintro a w1 b rfl hw1 hb hn
      have hth := there_of_block hb
      refine run_store54 _ (by kernel_rfl) _ w1 b ([.int .i64 0, .int .i64 0, .bool false, .int .i64 0, .int .i64 0, .bool false, .int .i64 0, .int .i64 0, .bool false, .int .i64 0, .int .i64 0, .bool false, .int .i64 0, .int .i64 0, .bool false, .int .i64 1, .int .i64 0, .bool false, .int .i64 0, .int .i64 5, .bool false, .int .i64 0, .int .i64 5, .bool false, .int .i64 0, .int .i64 5, .bool false, .int .i64 0, .int .i64 5, .bool false, .int .i64 0, .int .i64 4, .bool false, .int .i64 6, .int .i64 0, .bool false, .int .i64 6, .int .i64 0, .bool false, .int .i64 6, .int .i64 0, .bool false, .int .i64 0, .int .i64 351, .bool false, .int .i64 0, .int .i64 4, .bool false, .int .i64 0, .int .i64 0, .bool true, .int .i64 0, .int .i64 0, .bool true, .int .i64 0, .int .i64 0, .bool true, .int .i64 0, .int .i64 351, .bool false, .int .i64 0, .int .i64 4, .bool false, .int .i64 0, .int .i64 352, .bool false, .int .i64 1, .int .i64 0, .bool false, .int .i64 0, .int .i64 352, .bool false, .int .i64 0, .int .i64 351, .bool false, .int .i64 0, .int .i64 4, .bool false, .int .i64 3, .int .i64 0, .bool false, .int .i64 0, .int .i64 353, .bool false, .int .i64 0, .int .i64 5, .bool false, .int .i64 0, .int .i64 351, .bool false, .int .i64 0, .int .i64 4, .bool false, .int .i64 0, .int .i64 352, .bool false, .int .i64 0, .int .i64 352, .bool false, .int .i64 5, .int .i64 0, .bool false, .int .i64 0, .int .i64 351, .bool false, .int .i64 0, .int .i64 4, .bool false, .int .i64 0, .int .i64 352, .bool false, .int .i64 0, .int .i64 352, .bool false, .int .i64 1, .int .i64 0, .bool false, .int .i64 0, .int .i64 351, .bool false, .int .i64 0, .int .i64 4, .bool false, .int .i64 4, .int .i64 0, .bool false, .int .i64 0, .int .i64 352, .bool false, .int .i64 4, .int .i64 0, .bool false, .int .i64 0, .int .i64 351, .bool false, .int .i64 0, .int .i64 4, .bool false, .int .i64 7, .int .i64 0, .bool false, .int .i64 7, .int .i64 0, .bool false, .int .i64 7, .int .i64 0, .bool false, .int .i64 0, .int .i64 351, .bool false] : List Value).toArray rfl (by kernel_rfl) hth (by kernel_rfl) (by kernel_rfl) _ _ ?_
      first
        | refine hK _ _ (Met.intro (hJ _ _ ?_))
        | refine Met.intro (hJ _ _ ?_)
        | refine hJ _ _ ?_
      exact ⟨b, rfl, fin_laid (HCHW.out.step hw1) hth (Nat.lt_of_lt_of_le (Nat.lt_trans HA.out (lt_of_block kA)) hn)⟩
    case wk =>
      clear hJ hK kW HCHW HA
      refine wpGrow_finalL (⟨#[.int .i64 (h : Int), .int .i64 (c : Int), undef, undef, .pointer (some ⟨w.heap.size, 0, none⟩), .func (.func 25) #[] #[], .func (.func 26) #[] #[], .pointer (some ⟨A, 0, none⟩), .pointer (some ⟨N, 0, none⟩), .pointer (some ⟨O, 0, none⟩), .pointer (some ⟨T, 0, none⟩), .pointer (some ⟨S, 0, none⟩), .pointer (some ⟨C, 0, none⟩), .pointer (some ⟨F, 0, none⟩), undef, .agg #[.int .i64 0, .int .i64 0, .bool true], .func (.func 26) #[] #[], .agg #[.int .i64 0, .int .i64 4, .bool false], .func (.func 26) #[] #[], .agg #[.int .i64 0, .int .i64 351, .bool false], .func (.func 26) #[] #[], .agg #[.int .i64 0, .int .i64 5, .bool false], .func (.func 26) #[] #[], .agg #[.int .i64 0, .int .i64 352, .bool false], .func (.func 25) #[] #[], .agg #[.int .i64 6, .int .i64 0, .bool false], .func (.func 25) #[] #[], .agg #[.int .i64 7, .int .i64 0, .bool false], .func (.func 25) #[] #[], .agg #[.int .i64 1, .int .i64 0, .bool false], .agg #[.int .i64 0, .int .i64 5, .bool false], .agg #[.int .i64 0, .int .i64 5, .bool false], .agg #[.int .i64 0, .int .i64 5, .bool false], .agg #[.int .i64 0, .int .i64 5, .bool false], .agg #[.int .i64 1, .int .i64 0, .bool false, .int .i64 0, .int .i64 5, .bool false, .int .i64 0, .int .i64 5, .bool false, .int .i64 0, .int .i64 5, .bool false, .int .i64 0, .int .i64 5, .bool false], .agg #[.int .i64 0, .int .i64 4, .bool false], .agg #[.int .i64 6, .int .i64 0, .bool false], .agg #[.int .i64 6, .int .i64 0, .bool false], .agg #[.int .i64 6, .int .i64 0, .bool false], .agg #[.int .i64 0, .int .i64 351, .bool false], .agg #[.int .i64 0, .int .i64 4, .bool false, .int .i64 6, .int .i64 0, .bool false, .int .i64 6, .int .i64 0, .bool false, .int .i64 6, .int .i64 0, .bool false, .int .i64 0, .int .i64 351, .bool false], .agg #[.int .i64 0, .int .i64 4, .bool false], .agg #[.int .i64 0, .int .i64 0, .bool true], .agg #[.int .i64 0, .int .i64 0, .bool true], .agg #[.int .i64 0, .int .i64 0, .bool true], .agg #[.int .i64 0, .int .i64 351, .bool false], .agg #[.int .i64 0, .int .i64 4, .bool false, .int .i64 0, .int .i64 0, .bool true, .int .i64 0, .int .i64 0, .bool true, .int .i64 0, .int .i64 0, .bool true, .int .i64 0, .int .i64 351, .bool false], .agg #[.int .i64 0, .int .i64 4, .bool false], .agg #[.int .i64 0, .int .i64 352, .bool false], .func (.func 25) #[] #[], .agg #[.int .i64 1, .int .i64 0, .bool false], .agg #[.int .i64 0, .int .i64 352, .bool false], .agg #[.int .i64 0, .int .i64 351, .bool false], .agg #[.int .i64 0, .int .i64 4, .bool false, .int .i64 0, .int .i64 352, .bool false, .int .i64 1, .int .i64 0, .bool false, .int .i64 0, .int .i64 352, .bool false, .int .i64 0, .int .i64 351, .bool false], .agg #[.int .i64 0, .int .i64 4, .bool false], .func (.func 25) #[] #[], .agg #[.int .i64 3, .int .i64 0, .bool false], .func (.func 26) #[] #[], .agg #[.int .i64 0, .int .i64 353, .bool false], .agg #[.int .i64 0, .int .i64 5, .bool false], .agg #[.int .i64 0, .int .i64 351, .bool false], .agg #[.int .i64 0, .int .i64 4, .bool false, .int .i64 3, .int .i64 0, .bool false, .int .i64 0, .int .i64 353, .bool false, .int .i64 0, .int .i64 5, .bool false, .int .i64 0, .int .i64 351, .bool false], .agg #[.int .i64 0, .int .i64 4, .bool false], .agg #[.int .i64 0, .int .i64 352, .bool false], .agg #[.int .i64 0, .int .i64 352, .bool false], .func (.func 25) #[] #[], .agg #[.int .i64 5, .int .i64 0, .bool false], .agg #[.int .i64 0, .int .i64 351, .bool false], .agg #[.int .i64 0, .int .i64 4, .bool false, .int .i64 0, .int .i64 352, .bool false, .int .i64 0, .int .i64 352, .bool false, .int .i64 5, .int .i64 0, .bool false, .int .i64 0, .int .i64 351, .bool false], .agg #[.int .i64 0, .int .i64 4, .bool false], .agg #[.int .i64 0, .int .i64 352, .bool false], .agg #[.int .i64 0, .int .i64 352, .bool false], .func (.func 25) #[] #[], .agg #[.int .i64 1, .int .i64 0, .bool false], .agg #[.int .i64 0, .int .i64 351, .bool false], .agg #[.int .i64 0, .int .i64 4, .bool false, .int .i64 0, .int .i64 352, .bool false, .int .i64 0, .int .i64 352, .bool false, .int .i64 1, .int .i64 0, .bool false, .int .i64 0, .int .i64 351, .bool false], .agg #[.int .i64 0, .int .i64 4, .bool false], .func (.func 25) #[] #[], .agg #[.int .i64 4, .int .i64 0, .bool false], .agg #[.int .i64 0, .int .i64 352, .bool false], .func (.func 25) #[] #[], .agg #[.int .i64 4, .int .i64 0, .bool false], .agg #[.int .i64 0, .int .i64 351, .bool false], .agg #[.int .i64 0, .int .i64 4, .bool false, .int .i64 4, .int .i64 0, .bool false, .int .i64 0, .int .i64 352, .bool false, .int .i64 4, .int .i64 0, .bool false, .int .i64 0, .int .i64 351, .bool false], .agg #[.int .i64 0, .int .i64 4, .bool false], .agg #[.int .i64 7, .int .i64 0, .bool false], .agg #[.int .i64 7, .int .i64 0, .bool false], .agg #[.int .i64 7, .int .i64 0, .bool false], .agg #[.int .i64 0, .int .i64 351, .bool false], .agg #[.int .i64 0, .int .i64 4, .bool false, .int .i64 7, .int .i64 0, .bool false, .int .i64 7, .int .i64 0, .bool false, .int .i64 7, .int .i64 0, .bool false, .int .i64 0, .int .i64 351, .bool false], .agg #[.int .i64 0, .int .i64 0, .bool false, .int .i64 0, .int .i64 0, .bool false, .int .i64 0, .int .i64 0, .bool false, .int .i64 0, .int .i64 0, .bool false, .int .i64 0, .int .i64 0, .bool false, .int .i64 1, .int .i64 0, .bool false, .int .i64 0, .int .i64 5, .bool false, .int .i64 0, .int .i64 5, .bool false, .int .i64 0, .int .i64 5, .bool false, .int .i64 0, .int .i64 5, .bool false, .int .i64 0, .int .i64 4, .bool false, .int .i64 6, .int .i64 0, .bool false, .int .i64 6, .int .i64 0, .bool false, .int .i64 6, .int .i64 0, .bool false, .int .i64 0, .int .i64 351, .bool false, .int .i64 0, .int .i64 4, .bool false, .int .i64 0, .int .i64 0, .bool true, .int .i64 0, .int .i64 0, .bool true, .int .i64 0, .int .i64 0, .bool true, .int .i64 0, .int .i64 351, .bool false, .int .i64 0, .int .i64 4, .bool false, .int .i64 0, .int .i64 352, .bool false, .int .i64 1, .int .i64 0, .bool false, .int .i64 0, .int .i64 352, .bool false, .int .i64 0, .int .i64 351, .bool false, .int .i64 0, .int .i64 4, .bool false, .int .i64 3, .int .i64 0, .bool false, .int .i64 0, .int .i64 353, .bool false, .int .i64 0, .int .i64 5, .bool false, .int .i64 0, .int .i64 351, .bool false, .int .i64 0, .int .i64 4, .bool false, .int .i64 0, .int .i64 352, .bool false, .int .i64 0, .int .i64 352, .bool false, .int .i64 5, .int .i64 0, .bool false, .int .i64 0, .int .i64 351, .bool false, .int .i64 0, .int .i64 4, .bool false, .int .i64 0, .int .i64 352, .bool false, .int .i64 0, .int .i64 352, .bool false, .int .i64 1, .int .i64 0, .bool false, .int .i64 0, .int .i64 351, .bool false, .int .i64 0, .int .i64 4, .bool false, .int .i64 4, .int .i64 0, .bool false, .int .i64 0, .int .i64 352, .bool false, .int .i64 4, .int .i64 0, .bool false, .int .i64 0, .int .i64 351, .bool false, .int .i64 0, .int .i64 4, .bool false, .int .i64 7, .int .i64 0, .bool false, .int .i64 7, .int .i64 0, .bool false, .int .i64 7, .int .i64 0, .bool false, .int .i64 0, .int .i64 351, .bool false], undef, undef, undef, undef, undef], []⟩) _ (by kernel_rfl) (by kernel_rfl) rfl ?_
      obtain ⟨af, haf⟩ : ∃ af : Act, af = ⟨#[.int .i64 (h : Int), .int .i64 (c : Int), undef, undef, .pointer (some ⟨w.heap.size, 0, none⟩), .func (.func 25) #[] #[], .func (.func 26) #[] #[], .pointer (some ⟨A, 0, none⟩), .pointer (some ⟨N, 0, none⟩), .pointer (some ⟨O, 0, none⟩), .pointer (some ⟨T, 0, none⟩), .pointer (some ⟨S, 0, none⟩), .pointer (some ⟨C, 0, none⟩), .pointer (some ⟨F, 0, none⟩), undef, .agg #[.int .i64 0, .int .i64 0, .bool true], .func (.func 26) #[] #[], .agg #[.int .i64 0, .int .i64 4, .bool false], .func (.func 26) #[] #[], .agg #[.int .i64 0, .int .i64 351, .bool false], .func (.func 26) #[] #[], .agg #[.int .i64 0, .int .i64 5, .bool false], .func (.func 26) #[] #[], .agg #[.int .i64 0, .int .i64 352, .bool false], .func (.func 25) #[] #[], .agg #[.int .i64 6, .int .i64 0, .bool false], .func (.func 25) #[] #[], .agg #[.int .i64 7, .int .i64 0, .bool false], .func (.func 25) #[] #[], .agg #[.int .i64 1, .int .i64 0, .bool false], .agg #[.int .i64 0, .int .i64 5, .bool false], .agg #[.int .i64 0, .int .i64 5, .bool false], .agg #[.int .i64 0, .int .i64 5, .bool false], .agg #[.int .i64 0, .int .i64 5, .bool false], .agg #[.int .i64 1, .int .i64 0, .bool false, .int .i64 0, .int .i64 5, .bool false, .int .i64 0, .int .i64 5, .bool false, .int .i64 0, .int .i64 5, .bool false, .int .i64 0, .int .i64 5, .bool false], .agg #[.int .i64 0, .int .i64 4, .bool false], .agg #[.int .i64 6, .int .i64 0, .bool false], .agg #[.int .i64 6, .int .i64 0, .bool false], .agg #[.int .i64 6, .int .i64 0, .bool false], .agg #[.int .i64 0, .int .i64 351, .bool false], .agg #[.int .i64 0, .int .i64 4, .bool false, .int .i64 6, .int .i64 0, .bool false, .int .i64 6, .int .i64 0, .bool false, .int .i64 6, .int .i64 0, .bool false, .int .i64 0, .int .i64 351, .bool false], .agg #[.int .i64 0, .int .i64 4, .bool false], .agg #[.int .i64 0, .int .i64 0, .bool true], .agg #[.int .i64 0, .int .i64 0, .bool true], .agg #[.int .i64 0, .int .i64 0, .bool true], .agg #[.int .i64 0, .int .i64 351, .bool false], .agg #[.int .i64 0, .int .i64 4, .bool false, .int .i64 0, .int .i64 0, .bool true, .int .i64 0, .int .i64 0, .bool true, .int .i64 0, .int .i64 0, .bool true, .int .i64 0, .int .i64 351, .bool false], .agg #[.int .i64 0, .int .i64 4, .bool false], .agg #[.int .i64 0, .int .i64 352, .bool false], .func (.func 25) #[] #[], .agg #[.int .i64 1, .int .i64 0, .bool false], .agg #[.int .i64 0, .int .i64 352, .bool false], .agg #[.int .i64 0, .int .i64 351, .bool false], .agg #[.int .i64 0, .int .i64 4, .bool false, .int .i64 0, .int .i64 352, .bool false, .int .i64 1, .int .i64 0, .bool false, .int .i64 0, .int .i64 352, .bool false, .int .i64 0, .int .i64 351, .bool false], .agg #[.int .i64 0, .int .i64 4, .bool false], .func (.func 25) #[] #[], .agg #[.int .i64 3, .int .i64 0, .bool false], .func (.func 26) #[] #[], .agg #[.int .i64 0, .int .i64 353, .bool false], .agg #[.int .i64 0, .int .i64 5, .bool false], .agg #[.int .i64 0, .int .i64 351, .bool false], .agg #[.int .i64 0, .int .i64 4, .bool false, .int .i64 3, .int .i64 0, .bool false, .int .i64 0, .int .i64 353, .bool false, .int .i64 0, .int .i64 5, .bool false, .int .i64 0, .int .i64 351, .bool false], .agg #[.int .i64 0, .int .i64 4, .bool false], .agg #[.int .i64 0, .int .i64 352, .bool false], .agg #[.int .i64 0, .int .i64 352, .bool false], .func (.func 25) #[] #[], .agg #[.int .i64 5, .int .i64 0, .bool false], .agg #[.int .i64 0, .int .i64 351, .bool false], .agg #[.int .i64 0, .int .i64 4, .bool false, .int .i64 0, .int .i64 352, .bool false, .int .i64 0, .int .i64 352, .bool false, .int .i64 5, .int .i64 0, .bool false, .int .i64 0, .int .i64 351, .bool false], .agg #[.int .i64 0, .int .i64 4, .bool false], .agg #[.int .i64 0, .int .i64 352, .bool false], .agg #[.int .i64 0, .int .i64 352, .bool false], .func (.func 25) #[] #[], .agg #[.int .i64 1, .int .i64 0, .bool false], .agg #[.int .i64 0, .int .i64 351, .bool false], .agg #[.int .i64 0, .int .i64 4, .bool false, .int .i64 0, .int .i64 352, .bool false, .int .i64 0, .int .i64 352, .bool false, .int .i64 1, .int .i64 0, .bool false, .int .i64 0, .int .i64 351, .bool false], .agg #[.int .i64 0, .int .i64 4, .bool false], .func (.func 25) #[] #[], .agg #[.int .i64 4, .int .i64 0, .bool false], .agg #[.int .i64 0, .int .i64 352, .bool false], .func (.func 25) #[] #[], .agg #[.int .i64 4, .int .i64 0, .bool false], .agg #[.int .i64 0, .int .i64 351, .bool false], .agg #[.int .i64 0, .int .i64 4, .bool false, .int .i64 4, .int .i64 0, .bool false, .int .i64 0, .int .i64 352, .bool false, .int .i64 4, .int .i64 0, .bool false, .int .i64 0, .int .i64 351, .bool false], .agg #[.int .i64 0, .int .i64 4, .bool false], .agg #[.int .i64 7, .int .i64 0, .bool false], .agg #[.int .i64 7, .int .i64 0, .bool false], .agg #[.int .i64 7, .int .i64 0, .bool false], .agg #[.int .i64 0, .int .i64 351, .bool false], .agg #[.int .i64 0, .int .i64 4, .bool false, .int .i64 7, .int .i64 0, .bool false, .int .i64 7, .int .i64 0, .bool false, .int .i64 7, .int .i64 0, .bool false, .int .i64 0, .int .i64 351, .bool false], .agg #[.int .i64 0, .int .i64 0, .bool false, .int .i64 0, .int .i64 0, .bool false, .int .i64 0, .int .i64 0, .bool false, .int .i64 0, .int .i64 0, .bool false, .int .i64 0, .int .i64 0, .bool false, .int .i64 1, .int .i64 0, .bool false, .int .i64 0, .int .i64 5, .bool false, .int .i64 0, .int .i64 5, .bool false, .int .i64 0, .int .i64 5, .bool false, .int .i64 0, .int .i64 5, .bool false, .int .i64 0, .int .i64 4, .bool false, .int .i64 6, .int .i64 0, .bool false, .int .i64 6, .int .i64 0, .bool false, .int .i64 6, .int .i64 0, .bool false, .int .i64 0, .int .i64 351, .bool false, .int .i64 0, .int .i64 4, .bool false, .int .i64 0, .int .i64 0, .bool true, .int .i64 0, .int .i64 0, .bool true, .int .i64 0, .int .i64 0, .bool true, .int .i64 0, .int .i64 351, .bool false, .int .i64 0, .int .i64 4, .bool false, .int .i64 0, .int .i64 352, .bool false, .int .i64 1, .int .i64 0, .bool false, .int .i64 0, .int .i64 352, .bool false, .int .i64 0, .int .i64 351, .bool false, .int .i64 0, .int .i64 4, .bool false, .int .i64 3, .int .i64 0, .bool false, .int .i64 0, .int .i64 353, .bool false, .int .i64 0, .int .i64 5, .bool false, .int .i64 0, .int .i64 351, .bool false, .int .i64 0, .int .i64 4, .bool false, .int .i64 0, .int .i64 352, .bool false, .int .i64 0, .int .i64 352, .bool false, .int .i64 5, .int .i64 0, .bool false, .int .i64 0, .int .i64 351, .bool false, .int .i64 0, .int .i64 4, .bool false, .int .i64 0, .int .i64 352, .bool false, .int .i64 0, .int .i64 352, .bool false, .int .i64 1, .int .i64 0, .bool false, .int .i64 0, .int .i64 351, .bool false, .int .i64 0, .int .i64 4, .bool false, .int .i64 4, .int .i64 0, .bool false, .int .i64 0, .int .i64 352, .bool false, .int .i64 4, .int .i64 0, .bool false, .int .i64 0, .int .i64 351, .bool false, .int .i64 0, .int .i64 4, .bool false, .int .i64 7, .int .i64 0, .bool false, .int .i64 7, .int .i64 0, .bool false, .int .i64 7, .int .i64 0, .bool false, .int .i64 0, .int .i64 351, .bool false], undef, undef, undef, undef, undef], []⟩ := ⟨_, rfl⟩
      rw [← haf]
      have e5 : af.eval (.tmp 5) = .func (.func 25) #[] #[] := by rw [haf]; kernel_rfl
      have e6 : af.eval (.tmp 6) = .func (.func 26) #[] #[] := by rw [haf]; kernel_rfl
      have e7 : af.eval (.tmp 7) = .pointer (some ⟨A, 0, none⟩) := by rw [haf]; kernel_rfl
      have e8 : af.eval (.tmp 8) = .pointer (some ⟨N, 0, none⟩) := by rw [haf]; kernel_rfl
      have e9 : af.eval (.tmp 9) = .pointer (some ⟨O, 0, none⟩) := by rw [haf]; kernel_rfl
      have e10 : af.eval (.tmp 10) = .pointer (some ⟨T, 0, none⟩) := by rw [haf]; kernel_rfl
      have e11 : af.eval (.tmp 11) = .pointer (some ⟨S, 0, none⟩) := by rw [haf]; kernel_rfl
      have e12 : af.eval (.tmp 12) = .pointer (some ⟨C, 0, none⟩) := by rw [haf]; kernel_rfl
      have e13 : af.eval (.tmp 13) = .pointer (some ⟨F, 0, none⟩) := by rw [haf]; kernel_rfl
      have e15 : af.eval (.tmp 15) = .agg #[.int .i64 0, .int .i64 0, .bool true] := by rw [haf]; kernel_rfl
      have e16 : af.eval (.tmp 16) = .func (.func 26) #[] #[] := by rw [haf]; kernel_rfl
      have e17 : af.eval (.tmp 17) = .agg #[.int .i64 0, .int .i64 4, .bool false] := by rw [haf]; kernel_rfl
      have e18 : af.eval (.tmp 18) = .func (.func 26) #[] #[] := by rw [haf]; kernel_rfl
      have e19 : af.eval (.tmp 19) = .agg #[.int .i64 0, .int .i64 351, .bool false] := by rw [haf]; kernel_rfl
      have e20 : af.eval (.tmp 20) = .func (.func 26) #[] #[] := by rw [haf]; kernel_rfl
      have e21 : af.eval (.tmp 21) = .agg #[.int .i64 0, .int .i64 5, .bool false] := by rw [haf]; kernel_rfl
      have e22 : af.eval (.tmp 22) = .func (.func 26) #[] #[] := by rw [haf]; kernel_rfl
      have e23 : af.eval (.tmp 23) = .agg #[.int .i64 0, .int .i64 352, .bool false] := by rw [haf]; kernel_rfl
      have e24 : af.eval (.tmp 24) = .func (.func 25) #[] #[] := by rw [haf]; kernel_rfl
      have e25 : af.eval (.tmp 25) = .agg #[.int .i64 6, .int .i64 0, .bool false] := by rw [haf]; kernel_rfl
      have e26 : af.eval (.tmp 26) = .func (.func 25) #[] #[] := by rw [haf]; kernel_rfl
      have e27 : af.eval (.tmp 27) = .agg #[.int .i64 7, .int .i64 0, .bool false] := by rw [haf]; kernel_rfl
      have e28 : af.eval (.tmp 28) = .func (.func 25) #[] #[] := by rw [haf]; kernel_rfl
      have e29 : af.eval (.tmp 29) = .agg #[.int .i64 1, .int .i64 0, .bool false] := by rw [haf]; kernel_rfl
      have e30 : af.eval (.tmp 30) = .agg #[.int .i64 0, .int .i64 5, .bool false] := by rw [haf]; kernel_rfl
      have e31 : af.eval (.tmp 31) = .agg #[.int .i64 0, .int .i64 5, .bool false] := by rw [haf]; kernel_rfl
      have e32 : af.eval (.tmp 32) = .agg #[.int .i64 0, .int .i64 5, .bool false] := by rw [haf]; kernel_rfl
      have e33 : af.eval (.tmp 33) = .agg #[.int .i64 0, .int .i64 5, .bool false] := by rw [haf]; kernel_rfl
      have e34 : af.eval (.tmp 34) = .agg #[.int .i64 1, .int .i64 0, .bool false, .int .i64 0, .int .i64 5, .bool false, .int .i64 0, .int .i64 5, .bool false, .int .i64 0, .int .i64 5, .bool false, .int .i64 0, .int .i64 5, .bool false] := by rw [haf]; kernel_rfl
      have e35 : af.eval (.tmp 35) = .agg #[.int .i64 0, .int .i64 4, .bool false] := by rw [haf]; kernel_rfl
      have e36 : af.eval (.tmp 36) = .agg #[.int .i64 6, .int .i64 0, .bool false] := by rw [haf]; kernel_rfl
      have e37 : af.eval (.tmp 37) = .agg #[.int .i64 6, .int .i64 0, .bool false] := by rw [haf]; kernel_rfl
      have e38 : af.eval (.tmp 38) = .agg #[.int .i64 6, .int .i64 0, .bool false] := by rw [haf]; kernel_rfl
      have e39 : af.eval (.tmp 39) = .agg #[.int .i64 0, .int .i64 351, .bool false] := by rw [haf]; kernel_rfl
      have e40 : af.eval (.tmp 40) = .agg #[.int .i64 0, .int .i64 4, .bool false, .int .i64 6, .int .i64 0, .bool false, .int .i64 6, .int .i64 0, .bool false, .int .i64 6, .int .i64 0, .bool false, .int .i64 0, .int .i64 351, .bool false] := by rw [haf]; kernel_rfl
      have e41 : af.eval (.tmp 41) = .agg #[.int .i64 0, .int .i64 4, .bool false] := by rw [haf]; kernel_rfl
      have e42 : af.eval (.tmp 42) = .agg #[.int .i64 0, .int .i64 0, .bool true] := by rw [haf]; kernel_rfl
      have e43 : af.eval (.tmp 43) = .agg #[.int .i64 0, .int .i64 0, .bool true] := by rw [haf]; kernel_rfl
      have e44 : af.eval (.tmp 44) = .agg #[.int .i64 0, .int .i64 0, .bool true] := by rw [haf]; kernel_rfl
      have e45 : af.eval (.tmp 45) = .agg #[.int .i64 0, .int .i64 351, .bool false] := by rw [haf]; kernel_rfl
      have e46 : af.eval (.tmp 46) = .agg #[.int .i64 0, .int .i64 4, .bool false, .int .i64 0, .int .i64 0, .bool true, .int .i64 0, .int .i64 0, .bool true, .int .i64 0, .int .i64 0, .bool true, .int .i64 0, .int .i64 351, .bool false] := by rw [haf]; kernel_rfl
      have e47 : af.eval (.tmp 47) = .agg #[.int .i64 0, .int .i64 4, .bool false] := by rw [haf]; kernel_rfl
      have e48 : af.eval (.tmp 48) = .agg #[.int .i64 0, .int .i64 352, .bool false] := by rw [haf]; kernel_rfl
      have e49 : af.eval (.tmp 49) = .func (.func 25) #[] #[] := by rw [haf]; kernel_rfl
      have e50 : af.eval (.tmp 50) = .agg #[.int .i64 1, .int .i64 0, .bool false] := by rw [haf]; kernel_rfl
      have e51 : af.eval (.tmp 51) = .agg #[.int .i64 0, .int .i64 352, .bool false] := by rw [haf]; kernel_rfl
      have e52 : af.eval (.tmp 52) = .agg #[.int .i64 0, .int .i64 351, .bool false] := by rw [haf]; kernel_rfl
      have e53 : af.eval (.tmp 53) = .agg #[.int .i64 0, .int .i64 4, .bool false, .int .i64 0, .int .i64 352, .bool false, .int .i64 1, .int .i64 0, .bool false, .int .i64 0, .int .i64 352, .bool false, .int .i64 0, .int .i64 351, .bool false] := by rw [haf]; kernel_rfl
      have e54 : af.eval (.tmp 54) = .agg #[.int .i64 0, .int .i64 4, .bool false] := by rw [haf]; kernel_rfl
      have e55 : af.eval (.tmp 55) = .func (.func 25) #[] #[] := by rw [haf]; kernel_rfl
      have e56 : af.eval (.tmp 56) = .agg #[.int .i64 3, .int .i64 0, .bool false] := by rw [haf]; kernel_rfl
      have e57 : af.eval (.tmp 57) = .func (.func 26) #[] #[] := by rw [haf]; kernel_rfl
      have e58 : af.eval (.tmp 58) = .agg #[.int .i64 0, .int .i64 353, .bool false] := by rw [haf]; kernel_rfl
      have e59 : af.eval (.tmp 59) = .agg #[.int .i64 0, .int .i64 5, .bool false] := by rw [haf]; kernel_rfl
      have e60 : af.eval (.tmp 60) = .agg #[.int .i64 0, .int .i64 351, .bool false] := by rw [haf]; kernel_rfl
      have e61 : af.eval (.tmp 61) = .agg #[.int .i64 0, .int .i64 4, .bool false, .int .i64 3, .int .i64 0, .bool false, .int .i64 0, .int .i64 353, .bool false, .int .i64 0, .int .i64 5, .bool false, .int .i64 0, .int .i64 351, .bool false] := by rw [haf]; kernel_rfl
      have e62 : af.eval (.tmp 62) = .agg #[.int .i64 0, .int .i64 4, .bool false] := by rw [haf]; kernel_rfl
      have e63 : af.eval (.tmp 63) = .agg #[.int .i64 0, .int .i64 352, .bool false] := by rw [haf]; kernel_rfl
      have e64 : af.eval (.tmp 64) = .agg #[.int .i64 0, .int .i64 352, .bool false] := by rw [haf]; kernel_rfl
      have e65 : af.eval (.tmp 65) = .func (.func 25) #[] #[] := by rw [haf]; kernel_rfl
      have e66 : af.eval (.tmp 66) = .agg #[.int .i64 5, .int .i64 0, .bool false] := by rw [haf]; kernel_rfl
      have e67 : af.eval (.tmp 67) = .agg #[.int .i64 0, .int .i64 351, .bool false] := by rw [haf]; kernel_rfl
      have e68 : af.eval (.tmp 68) = .agg #[.int .i64 0, .int .i64 4, .bool false, .int .i64 0, .int .i64 352, .bool false, .int .i64 0, .int .i64 352, .bool false, .int .i64 5, .int .i64 0, .bool false, .int .i64 0, .int .i64 351, .bool false] := by rw [haf]; kernel_rfl
      have e69 : af.eval (.tmp 69) = .agg #[.int .i64 0, .int .i64 4, .bool false] := by rw [haf]; kernel_rfl
      have e70 : af.eval (.tmp 70) = .agg #[.int .i64 0, .int .i64 352, .bool false] := by rw [haf]; kernel_rfl
      have e71 : af.eval (.tmp 71) = .agg #[.int .i64 0, .int .i64 352, .bool false] := by rw [haf]; kernel_rfl
      have e72 : af.eval (.tmp 72) = .func (.func 25) #[] #[] := by rw [haf]; kernel_rfl
      have e73 : af.eval (.tmp 73) = .agg #[.int .i64 1, .int .i64 0, .bool false] := by rw [haf]; kernel_rfl
      have e74 : af.eval (.tmp 74) = .agg #[.int .i64 0, .int .i64 351, .bool false] := by rw [haf]; kernel_rfl
      have e75 : af.eval (.tmp 75) = .agg #[.int .i64 0, .int .i64 4, .bool false, .int .i64 0, .int .i64 352, .bool false, .int .i64 0, .int .i64 352, .bool false, .int .i64 1, .int .i64 0, .bool false, .int .i64 0, .int .i64 351, .bool false] := by rw [haf]; kernel_rfl
      have e76 : af.eval (.tmp 76) = .agg #[.int .i64 0, .int .i64 4, .bool false] := by rw [haf]; kernel_rfl
      have e77 : af.eval (.tmp 77) = .func (.func 25) #[] #[] := by rw [haf]; kernel_rfl
      have e78 : af.eval (.tmp 78) = .agg #[.int .i64 4, .int .i64 0, .bool false] := by rw [haf]; kernel_rfl
      have e79 : af.eval (.tmp 79) = .agg #[.int .i64 0, .int .i64 352, .bool false] := by rw [haf]; kernel_rfl
      have e80 : af.eval (.tmp 80) = .func (.func 25) #[] #[] := by rw [haf]; kernel_rfl
      have e81 : af.eval (.tmp 81) = .agg #[.int .i64 4, .int .i64 0, .bool false] := by rw [haf]; kernel_rfl
      have e82 : af.eval (.tmp 82) = .agg #[.int .i64 0, .int .i64 351, .bool false] := by rw [haf]; kernel_rfl
      have e83 : af.eval (.tmp 83) = .agg #[.int .i64 0, .int .i64 4, .bool false, .int .i64 4, .int .i64 0, .bool false, .int .i64 0, .int .i64 352, .bool false, .int .i64 4, .int .i64 0, .bool false, .int .i64 0, .int .i64 351, .bool false] := by rw [haf]; kernel_rfl
      have e84 : af.eval (.tmp 84) = .agg #[.int .i64 0, .int .i64 4, .bool false] := by rw [haf]; kernel_rfl
      have e85 : af.eval (.tmp 85) = .agg #[.int .i64 7, .int .i64 0, .bool false] := by rw [haf]; kernel_rfl
      have e86 : af.eval (.tmp 86) = .agg #[.int .i64 7, .int .i64 0, .bool false] := by rw [haf]; kernel_rfl
      have e87 : af.eval (.tmp 87) = .agg #[.int .i64 7, .int .i64 0, .bool false] := by rw [haf]; kernel_rfl
      have e88 : af.eval (.tmp 88) = .agg #[.int .i64 0, .int .i64 351, .bool false] := by rw [haf]; kernel_rfl
      have e89 : af.eval (.tmp 89) = .agg #[.int .i64 0, .int .i64 4, .bool false, .int .i64 7, .int .i64 0, .bool false, .int .i64 7, .int .i64 0, .bool false, .int .i64 7, .int .i64 0, .bool false, .int .i64 0, .int .i64 351, .bool false] := by rw [haf]; kernel_rfl
      have e90 : af.eval (.tmp 90) = .agg #[.int .i64 0, .int .i64 0, .bool false, .int .i64 0, .int .i64 0, .bool false, .int .i64 0, .int .i64 0, .bool false, .int .i64 0, .int .i64 0, .bool false, .int .i64 0, .int .i64 0, .bool false, .int .i64 1, .int .i64 0, .bool false, .int .i64 0, .int .i64 5, .bool false, .int .i64 0, .int .i64 5, .bool false, .int .i64 0, .int .i64 5, .bool false, .int .i64 0, .int .i64 5, .bool false, .int .i64 0, .int .i64 4, .bool false, .int .i64 6, .int .i64 0, .bool false, .int .i64 6, .int .i64 0, .bool false, .int .i64 6, .int .i64 0, .bool false, .int .i64 0, .int .i64 351, .bool false, .int .i64 0, .int .i64 4, .bool false, .int .i64 0, .int .i64 0, .bool true, .int .i64 0, .int .i64 0, .bool true, .int .i64 0, .int .i64 0, .bool true, .int .i64 0, .int .i64 351, .bool false, .int .i64 0, .int .i64 4, .bool false, .int .i64 0, .int .i64 352, .bool false, .int .i64 1, .int .i64 0, .bool false, .int .i64 0, .int .i64 352, .bool false, .int .i64 0, .int .i64 351, .bool false, .int .i64 0, .int .i64 4, .bool false, .int .i64 3, .int .i64 0, .bool false, .int .i64 0, .int .i64 353, .bool false, .int .i64 0, .int .i64 5, .bool false, .int .i64 0, .int .i64 351, .bool false, .int .i64 0, .int .i64 4, .bool false, .int .i64 0, .int .i64 352, .bool false, .int .i64 0, .int .i64 352, .bool false, .int .i64 5, .int .i64 0, .bool false, .int .i64 0, .int .i64 351, .bool false, .int .i64 0, .int .i64 4, .bool false, .int .i64 0, .int .i64 352, .bool false, .int .i64 0, .int .i64 352, .bool false, .int .i64 1, .int .i64 0, .bool false, .int .i64 0, .int .i64 351, .bool false, .int .i64 0, .int .i64 4, .bool false, .int .i64 4, .int .i64 0, .bool false, .int .i64 0, .int .i64 352, .bool false, .int .i64 4, .int .i64 0, .bool false, .int .i64 0, .int .i64 351, .bool false, .int .i64 0, .int .i64 4, .bool false, .int .i64 7, .int .i64 0, .bool false, .int .i64 7, .int .i64 0, .bool false, .int .i64 7, .int .i64 0, .bool false, .int .i64 0, .int .i64 351, .bool false] := by rw [haf]; kernel_rfl
      clear haf
      refine allYd_take (v := .func (.func 25) #[] #[]) 28 rfl rfl e28 ?_ ?_
      · refine yd_move (.tmp 5) ?_ ?_
        · exact rfl
        · exact e5
      refine allYd_take (v := .agg #[.int .i64 1, .int .i64 0, .bool false]) 29 rfl rfl e29 ?_ ?_
      · refine yd_to 1 (.tmp 28) #[3] ?_ ?_ ?_
        · exact rfl
        · exact e28
        · exact rfl
      refine allYd_take (v := .agg #[.int .i64 0, .int .i64 5, .bool false]) 30 rfl rfl e30 ?_ ?_
      · refine yd_load (.tmp 10) ?_ ?_ (fun w1 hw1 => kT.later hw1)
        · exact rfl
        · exact e10
      refine allYd_take (v := .agg #[.int .i64 0, .int .i64 5, .bool false]) 31 rfl rfl e31 ?_ ?_
      · refine yd_load (.tmp 10) ?_ ?_ (fun w1 hw1 => kT.later hw1)
        · exact rfl
        · exact e10
      refine allYd_take (v := .agg #[.int .i64 0, .int .i64 5, .bool false]) 32 rfl rfl e32 ?_ ?_
      · refine yd_load (.tmp 10) ?_ ?_ (fun w1 hw1 => kT.later hw1)
        · exact rfl
        · exact e10
      refine allYd_take (v := .agg #[.int .i64 0, .int .i64 5, .bool false]) 33 rfl rfl e33 ?_ ?_
      · refine yd_load (.tmp 10) ?_ ?_ (fun w1 hw1 => kT.later hw1)
        · exact rfl
        · exact e10
      refine allYd_take (v := .agg #[.int .i64 1, .int .i64 0, .bool false, .int .i64 0, .int .i64 5, .bool false, .int .i64 0, .int .i64 5, .bool false, .int .i64 0, .int .i64 5, .bool false, .int .i64 0, .int .i64 5, .bool false]) 34 rfl rfl e34 ?_ ?_
      · refine yd_build53 (x0 := .tmp 29) (x1 := .tmp 30) (x2 := .tmp 31) (x3 := .tmp 32) (x4 := .tmp 33) ?_ ?_ ?_ ?_ ?_ ?_
        · exact rfl
        · exact e29
        · exact e30
        · exact e31
        · exact e32
        · exact e33
      refine allYd_take (v := .agg #[.int .i64 0, .int .i64 4, .bool false]) 35 rfl rfl e35 ?_ ?_
      · refine yd_load (.tmp 8) ?_ ?_ (fun w1 hw1 => kN.later hw1)
        · exact rfl
        · exact e8
      refine allYd_take (v := .agg #[.int .i64 6, .int .i64 0, .bool false]) 36 rfl rfl e36 ?_ ?_
      · refine yd_load (.tmp 12) ?_ ?_ (fun w1 hw1 => kC.later hw1)
        · exact rfl
        · exact e12
      refine allYd_take (v := .agg #[.int .i64 6, .int .i64 0, .bool false]) 37 rfl rfl e37 ?_ ?_
      · refine yd_load (.tmp 12) ?_ ?_ (fun w1 hw1 => kC.later hw1)
        · exact rfl
        · exact e12
      refine allYd_take (v := .agg #[.int .i64 6, .int .i64 0, .bool false]) 38 rfl rfl e38 ?_ ?_
      · refine yd_load (.tmp 12) ?_ ?_ (fun w1 hw1 => kC.later hw1)
        · exact rfl
        · exact e12
      refine allYd_take (v := .agg #[.int .i64 0, .int .i64 351, .bool false]) 39 rfl rfl e39 ?_ ?_
      · refine yd_load (.tmp 9) ?_ ?_ (fun w1 hw1 => kO.later hw1)
        · exact rfl
        · exact e9
      refine allYd_take (v := .agg #[.int .i64 0, .int .i64 4, .bool false, .int .i64 6, .int .i64 0, .bool false, .int .i64 6, .int .i64 0, .bool false, .int .i64 6, .int .i64 0, .bool false, .int .i64 0, .int .i64 351, .bool false]) 40 rfl rfl e40 ?_ ?_
      · refine yd_build53 (x0 := .tmp 35) (x1 := .tmp 36) (x2 := .tmp 37) (x3 := .tmp 38) (x4 := .tmp 39) ?_ ?_ ?_ ?_ ?_ ?_
        · exact rfl
        · exact e35
        · exact e36
        · exact e37
        · exact e38
        · exact e39
      refine allYd_take (v := .agg #[.int .i64 0, .int .i64 4, .bool false]) 41 rfl rfl e41 ?_ ?_
      · refine yd_load (.tmp 8) ?_ ?_ (fun w1 hw1 => kN.later hw1)
        · exact rfl
        · exact e8
      refine allYd_take (v := .agg #[.int .i64 0, .int .i64 0, .bool true]) 42 rfl rfl e42 ?_ ?_
      · refine yd_load (.tmp 7) ?_ ?_ (fun w1 hw1 => kA.later hw1)
        · exact rfl
        · exact e7
      refine allYd_take (v := .agg #[.int .i64 0, .int .i64 0, .bool true]) 43 rfl rfl e43 ?_ ?_
      · refine yd_load (.tmp 7) ?_ ?_ (fun w1 hw1 => kA.later hw1)
        · exact rfl
        · exact e7
      refine allYd_take (v := .agg #[.int .i64 0, .int .i64 0, .bool true]) 44 rfl rfl e44 ?_ ?_
      · refine yd_load (.tmp 7) ?_ ?_ (fun w1 hw1 => kA.later hw1)
        · exact rfl
        · exact e7
      refine allYd_take (v := .agg #[.int .i64 0, .int .i64 351, .bool false]) 45 rfl rfl e45 ?_ ?_
      · refine yd_load (.tmp 9) ?_ ?_ (fun w1 hw1 => kO.later hw1)
        · exact rfl
        · exact e9
      refine allYd_take (v := .agg #[.int .i64 0, .int .i64 4, .bool false, .int .i64 0, .int .i64 0, .bool true, .int .i64 0, .int .i64 0, .bool true, .int .i64 0, .int .i64 0, .bool true, .int .i64 0, .int .i64 351, .bool false]) 46 rfl rfl e46 ?_ ?_
      · refine yd_build53 (x0 := .tmp 41) (x1 := .tmp 42) (x2 := .tmp 43) (x3 := .tmp 44) (x4 := .tmp 45) ?_ ?_ ?_ ?_ ?_ ?_
        · exact rfl
        · exact e41
        · exact e42
        · exact e43
        · exact e44
        · exact e45
      refine allYd_take (v := .agg #[.int .i64 0, .int .i64 4, .bool false]) 47 rfl rfl e47 ?_ ?_
      · refine yd_load (.tmp 8) ?_ ?_ (fun w1 hw1 => kN.later hw1)
        · exact rfl
        · exact e8
      refine allYd_take (v := .agg #[.int .i64 0, .int .i64 352, .bool false]) 48 rfl rfl e48 ?_ ?_
      · refine yd_load (.tmp 11) ?_ ?_ (fun w1 hw1 => kS.later hw1)
        · exact rfl
        · exact e11
      refine allYd_take (v := .func (.func 25) #[] #[]) 49 rfl rfl e49 ?_ ?_
      · refine yd_move (.tmp 5) ?_ ?_
        · exact rfl
        · exact e5
      refine allYd_take (v := .agg #[.int .i64 1, .int .i64 0, .bool false]) 50 rfl rfl e50 ?_ ?_
      · refine yd_to 1 (.tmp 49) #[3] ?_ ?_ ?_
        · exact rfl
        · exact e49
        · exact rfl
      refine allYd_take (v := .agg #[.int .i64 0, .int .i64 352, .bool false]) 51 rfl rfl e51 ?_ ?_
      · refine yd_load (.tmp 11) ?_ ?_ (fun w1 hw1 => kS.later hw1)
        · exact rfl
        · exact e11
      refine allYd_take (v := .agg #[.int .i64 0, .int .i64 351, .bool false]) 52 rfl rfl e52 ?_ ?_
      · refine yd_load (.tmp 9) ?_ ?_ (fun w1 hw1 => kO.later hw1)
        · exact rfl
        · exact e9
      refine allYd_take (v := .agg #[.int .i64 0, .int .i64 4, .bool false, .int .i64 0, .int .i64 352, .bool false, .int .i64 1, .int .i64 0, .bool false, .int .i64 0, .int .i64 352, .bool false, .int .i64 0, .int .i64 351, .bool false]) 53 rfl rfl e53 ?_ ?_
      · refine yd_build53 (x0 := .tmp 47) (x1 := .tmp 48) (x2 := .tmp 50) (x3 := .tmp 51) (x4 := .tmp 52) ?_ ?_ ?_ ?_ ?_ ?_
        · exact rfl
        · exact e47
        · exact e48
        · exact e50
        · exact e51
        · exact e52
      refine allYd_take (v := .agg #[.int .i64 0, .int .i64 4, .bool false]) 54 rfl rfl e54 ?_ ?_
      · refine yd_load (.tmp 8) ?_ ?_ (fun w1 hw1 => kN.later hw1)
        · exact rfl
        · exact e8
      refine allYd_take (v := .func (.func 25) #[] #[]) 55 rfl rfl e55 ?_ ?_
      · refine yd_move (.tmp 5) ?_ ?_
        · exact rfl
        · exact e5
      refine allYd_take (v := .agg #[.int .i64 3, .int .i64 0, .bool false]) 56 rfl rfl e56 ?_ ?_
      · refine yd_to 3 (.tmp 55) #[3] ?_ ?_ ?_
        · exact rfl
        · exact e55
        · exact rfl
      refine allYd_take (v := .func (.func 26) #[] #[]) 57 rfl rfl e57 ?_ ?_
      · refine yd_move (.tmp 6) ?_ ?_
        · exact rfl
        · exact e6
      refine allYd_take (v := .agg #[.int .i64 0, .int .i64 353, .bool false]) 58 rfl rfl e58 ?_ ?_
      · refine yd_no 353 (.tmp 57) #[25] ?_ ?_ ?_
        · exact rfl
        · exact e57
        · exact rfl
      refine allYd_take (v := .agg #[.int .i64 0, .int .i64 5, .bool false]) 59 rfl rfl e59 ?_ ?_
      · refine yd_load (.tmp 10) ?_ ?_ (fun w1 hw1 => kT.later hw1)
        · exact rfl
        · exact e10
      refine allYd_take (v := .agg #[.int .i64 0, .int .i64 351, .bool false]) 60 rfl rfl e60 ?_ ?_
      · refine yd_load (.tmp 9) ?_ ?_ (fun w1 hw1 => kO.later hw1)
        · exact rfl
        · exact e9
      refine allYd_take (v := .agg #[.int .i64 0, .int .i64 4, .bool false, .int .i64 3, .int .i64 0, .bool false, .int .i64 0, .int .i64 353, .bool false, .int .i64 0, .int .i64 5, .bool false, .int .i64 0, .int .i64 351, .bool false]) 61 rfl rfl e61 ?_ ?_
      · refine yd_build53 (x0 := .tmp 54) (x1 := .tmp 56) (x2 := .tmp 58) (x3 := .tmp 59) (x4 := .tmp 60) ?_ ?_ ?_ ?_ ?_ ?_
        · exact rfl
        · exact e54
        · exact e56
        · exact e58
        · exact e59
        · exact e60
      refine allYd_take (v := .agg #[.int .i64 0, .int .i64 4, .bool false]) 62 rfl rfl e62 ?_ ?_
      · refine yd_load (.tmp 8) ?_ ?_ (fun w1 hw1 => kN.later hw1)
        · exact rfl
        · exact e8
      refine allYd_take (v := .agg #[.int .i64 0, .int .i64 352, .bool false]) 63 rfl rfl e63 ?_ ?_
      · refine yd_load (.tmp 11) ?_ ?_ (fun w1 hw1 => kS.later hw1)
        · exact rfl
        · exact e11
      refine allYd_take (v := .agg #[.int .i64 0, .int .i64 352, .bool false]) 64 rfl rfl e64 ?_ ?_
      · refine yd_load (.tmp 11) ?_ ?_ (fun w1 hw1 => kS.later hw1)
        · exact rfl
        · exact e11
      refine allYd_take (v := .func (.func 25) #[] #[]) 65 rfl rfl e65 ?_ ?_
      · refine yd_move (.tmp 5) ?_ ?_
        · exact rfl
        · exact e5
      refine allYd_take (v := .agg #[.int .i64 5, .int .i64 0, .bool false]) 66 rfl rfl e66 ?_ ?_
      · refine yd_to 5 (.tmp 65) #[3] ?_ ?_ ?_
        · exact rfl
        · exact e65
        · exact rfl
      refine allYd_take (v := .agg #[.int .i64 0, .int .i64 351, .bool false]) 67 rfl rfl e67 ?_ ?_
      · refine yd_load (.tmp 9) ?_ ?_ (fun w1 hw1 => kO.later hw1)
        · exact rfl
        · exact e9
      refine allYd_take (v := .agg #[.int .i64 0, .int .i64 4, .bool false, .int .i64 0, .int .i64 352, .bool false, .int .i64 0, .int .i64 352, .bool false, .int .i64 5, .int .i64 0, .bool false, .int .i64 0, .int .i64 351, .bool false]) 68 rfl rfl e68 ?_ ?_
      · refine yd_build53 (x0 := .tmp 62) (x1 := .tmp 63) (x2 := .tmp 64) (x3 := .tmp 66) (x4 := .tmp 67) ?_ ?_ ?_ ?_ ?_ ?_
        · exact rfl
        · exact e62
        · exact e63
        · exact e64
        · exact e66
        · exact e67
      refine allYd_take (v := .agg #[.int .i64 0, .int .i64 4, .bool false]) 69 rfl rfl e69 ?_ ?_
      · refine yd_load (.tmp 8) ?_ ?_ (fun w1 hw1 => kN.later hw1)
        · exact rfl
        · exact e8
      refine allYd_take (v := .agg #[.int .i64 0, .int .i64 352, .bool false]) 70 rfl rfl e70 ?_ ?_
      · refine yd_load (.tmp 11) ?_ ?_ (fun w1 hw1 => kS.later hw1)
        · exact rfl
        · exact e11
      refine allYd_take (v := .agg #[.int .i64 0, .int .i64 352, .bool false]) 71 rfl rfl e71 ?_ ?_
      · refine yd_load (.tmp 11) ?_ ?_ (fun w1 hw1 => kS.later hw1)
        · exact rfl
        · exact e11
      refine allYd_take (v := .func (.func 25) #[] #[]) 72 rfl rfl e72 ?_ ?_
      · refine yd_move (.tmp 5) ?_ ?_
        · exact rfl
        · exact e5
      refine allYd_take (v := .agg #[.int .i64 1, .int .i64 0, .bool false]) 73 rfl rfl e73 ?_ ?_
      · refine yd_to 1 (.tmp 72) #[3] ?_ ?_ ?_
        · exact rfl
        · exact e72
        · exact rfl
      refine allYd_take (v := .agg #[.int .i64 0, .int .i64 351, .bool false]) 74 rfl rfl e74 ?_ ?_
      · refine yd_load (.tmp 9) ?_ ?_ (fun w1 hw1 => kO.later hw1)
        · exact rfl
        · exact e9
      refine allYd_take (v := .agg #[.int .i64 0, .int .i64 4, .bool false, .int .i64 0, .int .i64 352, .bool false, .int .i64 0, .int .i64 352, .bool false, .int .i64 1, .int .i64 0, .bool false, .int .i64 0, .int .i64 351, .bool false]) 75 rfl rfl e75 ?_ ?_
      · refine yd_build53 (x0 := .tmp 69) (x1 := .tmp 70) (x2 := .tmp 71) (x3 := .tmp 73) (x4 := .tmp 74) ?_ ?_ ?_ ?_ ?_ ?_
        · exact rfl
        · exact e69
        · exact e70
        · exact e71
        · exact e73
        · exact e74
      refine allYd_take (v := .agg #[.int .i64 0, .int .i64 4, .bool false]) 76 rfl rfl e76 ?_ ?_
      · refine yd_load (.tmp 8) ?_ ?_ (fun w1 hw1 => kN.later hw1)
        · exact rfl
        · exact e8
      refine allYd_take (v := .func (.func 25) #[] #[]) 77 rfl rfl e77 ?_ ?_
      · refine yd_move (.tmp 5) ?_ ?_
        · exact rfl
        · exact e5
      refine allYd_take (v := .agg #[.int .i64 4, .int .i64 0, .bool false]) 78 rfl rfl e78 ?_ ?_
      · refine yd_to 4 (.tmp 77) #[3] ?_ ?_ ?_
        · exact rfl
        · exact e77
        · exact rfl
      refine allYd_take (v := .agg #[.int .i64 0, .int .i64 352, .bool false]) 79 rfl rfl e79 ?_ ?_
      · refine yd_load (.tmp 11) ?_ ?_ (fun w1 hw1 => kS.later hw1)
        · exact rfl
        · exact e11
      refine allYd_take (v := .func (.func 25) #[] #[]) 80 rfl rfl e80 ?_ ?_
      · refine yd_move (.tmp 5) ?_ ?_
        · exact rfl
        · exact e5
      refine allYd_take (v := .agg #[.int .i64 4, .int .i64 0, .bool false]) 81 rfl rfl e81 ?_ ?_
      · refine yd_to 4 (.tmp 80) #[3] ?_ ?_ ?_
        · exact rfl
        · exact e80
        · exact rfl
      refine allYd_take (v := .agg #[.int .i64 0, .int .i64 351, .bool false]) 82 rfl rfl e82 ?_ ?_
      · refine yd_load (.tmp 9) ?_ ?_ (fun w1 hw1 => kO.later hw1)
        · exact rfl
        · exact e9
      refine allYd_take (v := .agg #[.int .i64 0, .int .i64 4, .bool false, .int .i64 4, .int .i64 0, .bool false, .int .i64 0, .int .i64 352, .bool false, .int .i64 4, .int .i64 0, .bool false, .int .i64 0, .int .i64 351, .bool false]) 83 rfl rfl e83 ?_ ?_
      · refine yd_build53 (x0 := .tmp 76) (x1 := .tmp 78) (x2 := .tmp 79) (x3 := .tmp 81) (x4 := .tmp 82) ?_ ?_ ?_ ?_ ?_ ?_
        · exact rfl
        · exact e76
        · exact e78
        · exact e79
        · exact e81
        · exact e82
      refine allYd_take (v := .agg #[.int .i64 0, .int .i64 4, .bool false]) 84 rfl rfl e84 ?_ ?_
      · refine yd_load (.tmp 8) ?_ ?_ (fun w1 hw1 => kN.later hw1)
        · exact rfl
        · exact e8
      refine allYd_take (v := .agg #[.int .i64 7, .int .i64 0, .bool false]) 85 rfl rfl e85 ?_ ?_
      · refine yd_load (.tmp 13) ?_ ?_ (fun w1 hw1 => kF.later hw1)
        · exact rfl
        · exact e13
      refine allYd_take (v := .agg #[.int .i64 7, .int .i64 0, .bool false]) 86 rfl rfl e86 ?_ ?_
      · refine yd_load (.tmp 13) ?_ ?_ (fun w1 hw1 => kF.later hw1)
        · exact rfl
        · exact e13
      refine allYd_take (v := .agg #[.int .i64 7, .int .i64 0, .bool false]) 87 rfl rfl e87 ?_ ?_
      · refine yd_load (.tmp 13) ?_ ?_ (fun w1 hw1 => kF.later hw1)
        · exact rfl
        · exact e13
      refine allYd_take (v := .agg #[.int .i64 0, .int .i64 351, .bool false]) 88 rfl rfl e88 ?_ ?_
      · refine yd_load (.tmp 9) ?_ ?_ (fun w1 hw1 => kO.later hw1)
        · exact rfl
        · exact e9
      refine allYd_take (v := .agg #[.int .i64 0, .int .i64 4, .bool false, .int .i64 7, .int .i64 0, .bool false, .int .i64 7, .int .i64 0, .bool false, .int .i64 7, .int .i64 0, .bool false, .int .i64 0, .int .i64 351, .bool false]) 89 rfl rfl e89 ?_ ?_
      · refine yd_build53 (x0 := .tmp 84) (x1 := .tmp 85) (x2 := .tmp 86) (x3 := .tmp 87) (x4 := .tmp 88) ?_ ?_ ?_ ?_ ?_ ?_
        · exact rfl
        · exact e84
        · exact e85
        · exact e86
        · exact e87
        · exact e88
      refine allYd_take (v := .agg #[.int .i64 0, .int .i64 0, .bool false, .int .i64 0, .int .i64 0, .bool false, .int .i64 0, .int .i64 0, .bool false, .int .i64 0, .int .i64 0, .bool false, .int .i64 0, .int .i64 0, .bool false, .int .i64 1, .int .i64 0, .bool false, .int .i64 0, .int .i64 5, .bool false, .int .i64 0, .int .i64 5, .bool false, .int .i64 0, .int .i64 5, .bool false, .int .i64 0, .int .i64 5, .bool false, .int .i64 0, .int .i64 4, .bool false, .int .i64 6, .int .i64 0, .bool false, .int .i64 6, .int .i64 0, .bool false, .int .i64 6, .int .i64 0, .bool false, .int .i64 0, .int .i64 351, .bool false, .int .i64 0, .int .i64 4, .bool false, .int .i64 0, .int .i64 0, .bool true, .int .i64 0, .int .i64 0, .bool true, .int .i64 0, .int .i64 0, .bool true, .int .i64 0, .int .i64 351, .bool false, .int .i64 0, .int .i64 4, .bool false, .int .i64 0, .int .i64 352, .bool false, .int .i64 1, .int .i64 0, .bool false, .int .i64 0, .int .i64 352, .bool false, .int .i64 0, .int .i64 351, .bool false, .int .i64 0, .int .i64 4, .bool false, .int .i64 3, .int .i64 0, .bool false, .int .i64 0, .int .i64 353, .bool false, .int .i64 0, .int .i64 5, .bool false, .int .i64 0, .int .i64 351, .bool false, .int .i64 0, .int .i64 4, .bool false, .int .i64 0, .int .i64 352, .bool false, .int .i64 0, .int .i64 352, .bool false, .int .i64 5, .int .i64 0, .bool false, .int .i64 0, .int .i64 351, .bool false, .int .i64 0, .int .i64 4, .bool false, .int .i64 0, .int .i64 352, .bool false, .int .i64 0, .int .i64 352, .bool false, .int .i64 1, .int .i64 0, .bool false, .int .i64 0, .int .i64 351, .bool false, .int .i64 0, .int .i64 4, .bool false, .int .i64 4, .int .i64 0, .bool false, .int .i64 0, .int .i64 352, .bool false, .int .i64 4, .int .i64 0, .bool false, .int .i64 0, .int .i64 351, .bool false, .int .i64 0, .int .i64 4, .bool false, .int .i64 7, .int .i64 0, .bool false, .int .i64 7, .int .i64 0, .bool false, .int .i64 7, .int .i64 0, .bool false, .int .i64 0, .int .i64 351, .bool false]) 90 rfl rfl e90 ?_ ?_
      · refine yd_build54 (x0 := .tmp 34) (x1 := .tmp 40) (x2 := .tmp 46) (x3 := .tmp 53) (x4 := .tmp 61) (x5 := .tmp 68) (x6 := .tmp 75) (x7 := .tmp 83) (x8 := .tmp 89) ?_ ?_ ?_ ?_ ?_ ?_ ?_ ?_ ?_ ?_
        · exact rfl
        · exact e34
        · exact e40
        · exact e46
        · exact e53
        · exact e61
        · exact e68
        · exact e75
        · exact e83
        · exact e89
      trivial

  case rest =>
    clear kA kN kO kT kS kC kF
    rintro a wc ⟨b, rfl, b', hbb, hr, hch, hbl⟩
    obtain rfl : b = b' := by simpa using hbb
    clear hbb
    obtain ⟨y0, ⟨r0, r1, r2⟩, g0, g1, g2⟩ := hch
    have HB := Lib.hid y0
    clear y0
    have hl1 := World.block_lt_of_cell? _ _ r0
    have hne1 : w.heap.size ≠ b := Nat.ne_of_lt hbl
    have hne2 : b ≠ w.heap.size := Nat.ne_of_gt hbl
    have h1 := HH1.out; have h9 := HH9.out; have hc := HHC.out
    rcases (show h = 1 ∨ h = 2 ∨ h = 3 ∨ h = 4 ∨ h = 5 ∨ h = 6 ∨ h = 7 ∨ h = 8 ∨ h = 9 by omega) with rfl | rfl | rfl | rfl | rfl | rfl | rfl | rfl | rfl
    · rcases (show c = 0 ∨ c = 1 ∨ c = 2 ∨ c = 3 ∨ c = 4 by omega) with rfl | rfl | rfl | rfl | rfl
      · have q0 := hr 15 (.int .i64 1) rfl
        have q1 := hr 16 (.int .i64 0) rfl
        have q2 := hr 17 (.bool false) rfl
        simp only [Nat.zero_add] at q0 q1 q2
        clear hr HH1 HH9 HHC h1 h9 hc
        go_wp2
        refine bodyPost_ret (v := .agg #[.int .i64 1, .int .i64 0, .bool false]) ?_ rfl ⟨rfl, ?_⟩
        · go_light
          simp [results, Try.results24, go_sem, *]
        · exact ((HB.out.setCell (Nat.le_refl _) _).setCell (Nat.le_refl _) _).setCell (Nat.le_refl _) _
      · have q0 := hr 18 (.int .i64 0) rfl
        have q1 := hr 19 (.int .i64 5) rfl
        have q2 := hr 20 (.bool false) rfl
        simp only [Nat.zero_add] at q0 q1 q2
        clear hr HH1 HH9 HHC h1 h9 hc
        go_wp2
        refine bodyPost_ret (v := .agg #[.int .i64 0, .int .i64 5, .bool false]) ?_ rfl ⟨rfl, ?_⟩
        · go_light
          simp [results, Try.results24, go_sem, *]
        · exact ((HB.out.setCell (Nat.le_refl _) _).setCell (Nat.le_refl _) _).setCell (Nat.le_refl _) _
      · have q0 := hr 21 (.int .i64 0) rfl
        have q1 := hr 22 (.int .i64 5) rfl
        have q2 := hr 23 (.bool false) rfl
        simp only [Nat.zero_add] at q0 q1 q2
        clear hr HH1 HH9 HHC h1 h9 hc
        go_wp2
        refine bodyPost_ret (v := .agg #[.int .i64 0, .int .i64 5, .bool false]) ?_ rfl ⟨rfl, ?_⟩
        · go_light
          simp [results, Try.results24, go_sem, *]
        · exact ((HB.out.setCell (Nat.le_refl _) _).setCell (Nat.le_refl _) _).setCell (Nat.le_refl _) _
      · have q0 := hr 24 (.int .i64 0) rfl
        have q1 := hr 25 (.int .i64 5) rfl
        have q2 := hr 26 (.bool false) rfl
        simp only [Nat.zero_add] at q0 q1 q2
        clear hr HH1 HH9 HHC h1 h9 hc
        go_wp2
        refine bodyPost_ret (v := .agg #[.int .i64 0, .int .i64 5, .bool false]) ?_ rfl ⟨rfl, ?_⟩
        · go_light
          simp [results, Try.results24, go_sem, *]
        · exact ((HB.out.setCell (Nat.le_refl _) _).setCell (Nat.le_refl _) _).setCell (Nat.le_refl _) _
      · have q0 := hr 27 (.int .i64 0) rfl
        have q1 := hr 28 (.int .i64 5) rfl
        have q2 := hr 29 (.bool false) rfl
        simp only [Nat.zero_add] at q0 q1 q2
        clear hr HH1 HH9 HHC h1 h9 hc
        go_wp2
        refine bodyPost_ret (v := .agg #[.int .i64 0, .int .i64 5, .bool false]) ?_ rfl ⟨rfl, ?_⟩
        · go_light
          simp [results, Try.results24, go_sem, *]
        · exact ((HB.out.setCell (Nat.le_refl _) _).setCell (Nat.le_refl _) _).setCell (Nat.le_refl _) _
    · rcases (show c = 0 ∨ c = 1 ∨ c = 2 ∨ c = 3 ∨ c = 4 by omega) with rfl | rfl | rfl | rfl | rfl
      · have q0 := hr 30 (.int .i64 0) rfl
        have q1 := hr 31 (.int .i64 4) rfl
        have q2 := hr 32 (.bool false) rfl
        simp only [Nat.zero_add] at q0 q1 q2
        clear hr HH1 HH9 HHC h1 h9 hc
        go_wp2
        refine bodyPost_ret (v := .agg #[.int .i64 0, .int .i64 4, .bool false]) ?_ rfl ⟨rfl, ?_⟩
        · go_light
          simp [results, Try.results24, go_sem, *]
        · exact ((HB.out.setCell (Nat.le_refl _) _).setCell (Nat.le_refl _) _).setCell (Nat.le_refl _) _
      · have q0 := hr 33 (.int .i64 6) rfl
        have q1 := hr 34 (.int .i64 0) rfl
        have q2 := hr 35 (.bool false) rfl
        simp only [Nat.zero_add] at q0 q1 q2
        clear hr HH1 HH9 HHC h1 h9 hc
        go_wp2
        refine bodyPost_ret (v := .agg #[.int .i64 6, .int .i64 0, .bool false]) ?_ rfl ⟨rfl, ?_⟩
        · go_light
          simp [results, Try.results24, go_sem, *]
        · exact ((HB.out.setCell (Nat.le_refl _) _).setCell (Nat.le_refl _) _).setCell (Nat.le_refl _) _
      · have q0 := hr 36 (.int .i64 6) rfl
        have q1 := hr 37 (.int .i64 0) rfl
        have q2 := hr 38 (.bool false) rfl
        simp only [Nat.zero_add] at q0 q1 q2
        clear hr HH1 HH9 HHC h1 h9 hc
        go_wp2
        refine bodyPost_ret (v := .agg #[.int .i64 6, .int .i64 0, .bool false]) ?_ rfl ⟨rfl, ?_⟩
        · go_light
          simp [results, Try.results24, go_sem, *]
        · exact ((HB.out.setCell (Nat.le_refl _) _).setCell (Nat.le_refl _) _).setCell (Nat.le_refl _) _
      · have q0 := hr 39 (.int .i64 6) rfl
        have q1 := hr 40 (.int .i64 0) rfl
        have q2 := hr 41 (.bool false) rfl
        simp only [Nat.zero_add] at q0 q1 q2
        clear hr HH1 HH9 HHC h1 h9 hc
        go_wp2
        refine bodyPost_ret (v := .agg #[.int .i64 6, .int .i64 0, .bool false]) ?_ rfl ⟨rfl, ?_⟩
        · go_light
          simp [results, Try.results24, go_sem, *]
        · exact ((HB.out.setCell (Nat.le_refl _) _).setCell (Nat.le_refl _) _).setCell (Nat.le_refl _) _
      · have q0 := hr 42 (.int .i64 0) rfl
        have q1 := hr 43 (.int .i64 351) rfl
        have q2 := hr 44 (.bool false) rfl
        simp only [Nat.zero_add] at q0 q1 q2
        clear hr HH1 HH9 HHC h1 h9 hc
        go_wp2
        refine bodyPost_ret (v := .agg #[.int .i64 0, .int .i64 351, .bool false]) ?_ rfl ⟨rfl, ?_⟩
        · go_light
          simp [results, Try.results24, go_sem, *]
        · exact ((HB.out.setCell (Nat.le_refl _) _).setCell (Nat.le_refl _) _).setCell (Nat.le_refl _) _
    · rcases (show c = 0 ∨ c = 1 ∨ c = 2 ∨ c = 3 ∨ c = 4 by omega) with rfl | rfl | rfl | rfl | rfl
      · have q0 := hr 45 (.int .i64 0) rfl
        have q1 := hr 46 (.int .i64 4) rfl
        have q2 := hr 47 (.bool false) rfl
        simp only [Nat.zero_add] at q0 q1 q2
        clear hr HH1 HH9 HHC h1 h9 hc
        go_wp2
        refine bodyPost_ret (v := .agg #[.int .i64 0, .int .i64 4, .bool false]) ?_ rfl ⟨rfl, ?_⟩
        · go_light
          simp [results, Try.results24, go_sem, *]
        · exact ((HB.out.setCell (Nat.le_refl _) _).setCell (Nat.le_refl _) _).setCell (Nat.le_refl _) _
      · have q0 := hr 48 (.int .i64 0) rfl
        have q1 := hr 49 (.int .i64 0) rfl
        have q2 := hr 50 (.bool true) rfl
        simp only [Nat.zero_add] at q0 q1 q2
        clear hr HH1 HH9 HHC h1 h9 hc
        go_wp2
        refine bodyPost_ret (v := .agg #[.int .i64 0, .int .i64 0, .bool true]) ?_ rfl ⟨rfl, ?_⟩
        · go_light
          simp [results, Try.results24, go_sem, *]
        · exact ((HB.out.setCell (Nat.le_refl _) _).setCell (Nat.le_refl _) _).setCell (Nat.le_refl _) _
      · have q0 := hr 51 (.int .i64 0) rfl
        have q1 := hr 52 (.int .i64 0) rfl
        have q2 := hr 53 (.bool true) rfl
        simp only [Nat.zero_add] at q0 q1 q2
        clear hr HH1 HH9 HHC h1 h9 hc
        go_wp2
        refine bodyPost_ret (v := .agg #[.int .i64 0, .int .i64 0, .bool true]) ?_ rfl ⟨rfl, ?_⟩
        · go_light
          simp [results, Try.results24, go_sem, *]
        · exact ((HB.out.setCell (Nat.le_refl _) _).setCell (Nat.le_refl _) _).setCell (Nat.le_refl _) _
      · have q0 := hr 54 (.int .i64 0) rfl
        have q1 := hr 55 (.int .i64 0) rfl
        have q2 := hr 56 (.bool true) rfl
        simp only [Nat.zero_add] at q0 q1 q2
        clear hr HH1 HH9 HHC h1 h9 hc
        go_wp2
        refine bodyPost_ret (v := .agg #[.int .i64 0, .int .i64 0, .bool true]) ?_ rfl ⟨rfl, ?_⟩
        · go_light
          simp [results, Try.results24, go_sem, *]
        · exact ((HB.out.setCell (Nat.le_refl _) _).setCell (Nat.le_refl _) _).setCell (Nat.le_refl _) _
      · have q0 := hr 57 (.int .i64 0) rfl
        have q1 := hr 58 (.int .i64 351) rfl
        have q2 := hr 59 (.bool false) rfl
        simp only [Nat.zero_add] at q0 q1 q2
        clear hr HH1 HH9 HHC h1 h9 hc
        go_wp2
        refine bodyPost_ret (v := .agg #[.int .i64 0, .int .i64 351, .bool false]) ?_ rfl ⟨rfl, ?_⟩
        · go_light
          simp [results, Try.results24, go_sem, *]
        · exact ((HB.out.setCell (Nat.le_refl _) _).setCell (Nat.le_refl _) _).setCell (Nat.le_refl _) _
    · rcases (show c = 0 ∨ c = 1 ∨ c = 2 ∨ c = 3 ∨ c = 4 by omega) with rfl | rfl | rfl | rfl | rfl
      · have q0 := hr 60 (.int .i64 0) rfl
        have q1 := hr 61 (.int .i64 4) rfl
        have q2 := hr 62 (.bool false) rfl
        simp only [Nat.zero_add] at q0 q1 q2
        clear hr HH1 HH9 HHC h1 h9 hc
        go_wp2
        refine bodyPost_ret (v := .agg #[.int .i64 0, .int .i64 4, .bool false]) ?_ rfl ⟨rfl, ?_⟩
        · go_light
          simp [results, Try.results24, go_sem, *]
        · exact ((HB.out.setCell (Nat.le_refl _) _).setCell (Nat.le_refl _) _).setCell (Nat.le_refl _) _
      · have q0 := hr 63 (.int .i64 0) rfl
        have q1 := hr 64 (.int .i64 352) rfl
        have q2 := hr 65 (.bool false) rfl
        simp only [Nat.zero_add] at q0 q1 q2
        clear hr HH1 HH9 HHC h1 h9 hc
        go_wp2
        refine bodyPost_ret (v := .agg #[.int .i64 0, .int .i64 352, .bool false]) ?_ rfl ⟨rfl, ?_⟩
        · go_light
          simp [results, Try.results24, go_sem, *]
        · exact ((HB.out.setCell (Nat.le_refl _) _).setCell (Nat.le_refl _) _).setCell (Nat.le_refl _) _
      · have q0 := hr 66 (.int .i64 1) rfl
        have q1 := hr 67 (.int .i64 0) rfl
        have q2 := hr 68 (.bool false) rfl
        simp only [Nat.zero_add] at q0 q1 q2
        clear hr HH1 HH9 HHC h1 h9 hc
        go_wp2
        refine bodyPost_ret (v := .agg #[.int .i64 1, .int .i64 0, .bool false]) ?_ rfl ⟨rfl, ?_⟩
        · go_light
          simp [results, Try.results24, go_sem, *]
        · exact ((HB.out.setCell (Nat.le_refl _) _).setCell (Nat.le_refl _) _).setCell (Nat.le_refl _) _
      · have q0 := hr 69 (.int .i64 0) rfl
        have q1 := hr 70 (.int .i64 352) rfl
        have q2 := hr 71 (.bool false) rfl
        simp only [Nat.zero_add] at q0 q1 q2
        clear hr HH1 HH9 HHC h1 h9 hc
        go_wp2
        refine bodyPost_ret (v := .agg #[.int .i64 0, .int .i64 352, .bool false]) ?_ rfl ⟨rfl, ?_⟩
        · go_light
          simp [results, Try.results24, go_sem, *]
        · exact ((HB.out.setCell (Nat.le_refl _) _).setCell (Nat.le_refl _) _).setCell (Nat.le_refl _) _
      · have q0 := hr 72 (.int .i64 0) rfl
        have q1 := hr 73 (.int .i64 351) rfl
        have q2 := hr 74 (.bool false) rfl
        simp only [Nat.zero_add] at q0 q1 q2
        clear hr HH1 HH9 HHC h1 h9 hc
        go_wp2
        refine bodyPost_ret (v := .agg #[.int .i64 0, .int .i64 351, .bool false]) ?_ rfl ⟨rfl, ?_⟩
        · go_light
          simp [results, Try.results24, go_sem, *]
        · exact ((HB.out.setCell (Nat.le_refl _) _).setCell (Nat.le_refl _) _).setCell (Nat.le_refl _) _
    · rcases (show c = 0 ∨ c = 1 ∨ c = 2 ∨ c = 3 ∨ c = 4 by omega) with rfl | rfl | rfl | rfl | rfl
      · have q0 := hr 75 (.int .i64 0) rfl
        have q1 := hr 76 (.int .i64 4) rfl
        have q2 := hr 77 (.bool false) rfl
        simp only [Nat.zero_add] at q0 q1 q2
        clear hr HH1 HH9 HHC h1 h9 hc
        go_wp2
        refine bodyPost_ret (v := .agg #[.int .i64 0, .int .i64 4, .bool false]) ?_ rfl ⟨rfl, ?_⟩
        · go_light
          simp [results, Try.results24, go_sem, *]
        · exact ((HB.out.setCell (Nat.le_refl _) _).setCell (Nat.le_refl _) _).setCell (Nat.le_refl _) _
      · have q0 := hr 78 (.int .i64 3) rfl
        have q1 := hr 79 (.int .i64 0) rfl
        have q2 := hr 80 (.bool false) rfl
        simp only [Nat.zero_add] at q0 q1 q2
        clear hr HH1 HH9 HHC h1 h9 hc
        go_wp2
        refine bodyPost_ret (v := .agg #[.int .i64 3, .int .i64 0, .bool false]) ?_ rfl ⟨rfl, ?_⟩
        · go_light
          simp [results, Try.results24, go_sem, *]
        · exact ((HB.out.setCell (Nat.le_refl _) _).setCell (Nat.le_refl _) _).setCell (Nat.le_refl _) _
      · have q0 := hr 81 (.int .i64 0) rfl
        have q1 := hr 82 (.int .i64 353) rfl
        have q2 := hr 83 (.bool false) rfl
        simp only [Nat.zero_add] at q0 q1 q2
        clear hr HH1 HH9 HHC h1 h9 hc
        go_wp2
        refine bodyPost_ret (v := .agg #[.int .i64 0, .int .i64 353, .bool false]) ?_ rfl ⟨rfl, ?_⟩
        · go_light
          simp [results, Try.results24, go_sem, *]
        · exact ((HB.out.setCell (Nat.le_refl _) _).setCell (Nat.le_refl _) _).setCell (Nat.le_refl _) _
      · have q0 := hr 84 (.int .i64 0) rfl
        have q1 := hr 85 (.int .i64 5) rfl
        have q2 := hr 86 (.bool false) rfl
        simp only [Nat.zero_add] at q0 q1 q2
        clear hr HH1 HH9 HHC h1 h9 hc
        go_wp2
        refine bodyPost_ret (v := .agg #[.int .i64 0, .int .i64 5, .bool false]) ?_ rfl ⟨rfl, ?_⟩
        · go_light
          simp [results, Try.results24, go_sem, *]
        · exact ((HB.out.setCell (Nat.le_refl _) _).setCell (Nat.le_refl _) _).setCell (Nat.le_refl _) _
      · have q0 := hr 87 (.int .i64 0) rfl
        have q1 := hr 88 (.int .i64 351) rfl
        have q2 := hr 89 (.bool false) rfl
        simp only [Nat.zero_add] at q0 q1 q2
        clear hr HH1 HH9 HHC h1 h9 hc
        go_wp2
        refine bodyPost_ret (v := .agg #[.int .i64 0, .int .i64 351, .bool false]) ?_ rfl ⟨rfl, ?_⟩
        · go_light
          simp [results, Try.results24, go_sem, *]
        · exact ((HB.out.setCell (Nat.le_refl _) _).setCell (Nat.le_refl _) _).setCell (Nat.le_refl _) _
    · rcases (show c = 0 ∨ c = 1 ∨ c = 2 ∨ c = 3 ∨ c = 4 by omega) with rfl | rfl | rfl | rfl | rfl
      · have q0 := hr 90 (.int .i64 0) rfl
        have q1 := hr 91 (.int .i64 4) rfl
        have q2 := hr 92 (.bool false) rfl
        simp only [Nat.zero_add] at q0 q1 q2
        clear hr HH1 HH9 HHC h1 h9 hc
        go_wp2
        refine bodyPost_ret (v := .agg #[.int .i64 0, .int .i64 4, .bool false]) ?_ rfl ⟨rfl, ?_⟩
        · go_light
          simp [results, Try.results24, go_sem, *]
        · exact ((HB.out.setCell (Nat.le_refl _) _).setCell (Nat.le_refl _) _).setCell (Nat.le_refl _) _
      · have q0 := hr 93 (.int .i64 0) rfl
        have q1 := hr 94 (.int .i64 352) rfl
        have q2 := hr 95 (.bool false) rfl
        simp only [Nat.zero_add] at q0 q1 q2
        clear hr HH1 HH9 HHC h1 h9 hc
        go_wp2
        refine bodyPost_ret (v := .agg #[.int .i64 0, .int .i64 352, .bool false]) ?_ rfl ⟨rfl, ?_⟩
        · go_light
          simp [results, Try.results24, go_sem, *]
        · exact ((HB.out.setCell (Nat.le_refl _) _).setCell (Nat.le_refl _) _).setCell (Nat.le_refl _) _
      · have q0 := hr 96 (.int .i64 0) rfl
        have q1 := hr 97 (.int .i64 352) rfl
        have q2 := hr 98 (.bool false) rfl
        simp only [Nat.zero_add] at q0 q1 q2
        clear hr HH1 HH9 HHC h1 h9 hc
        go_wp2
        refine bodyPost_ret (v := .agg #[.int .i64 0, .int .i64 352, .bool false]) ?_ rfl ⟨rfl, ?_⟩
        · go_light
          simp [results, Try.results24, go_sem, *]
        · exact ((HB.out.setCell (Nat.le_refl _) _).setCell (Nat.le_refl _) _).setCell (Nat.le_refl _) _
      · have q0 := hr 99 (.int .i64 5) rfl
        have q1 := hr 100 (.int .i64 0) rfl
        have q2 := hr 101 (.bool false) rfl
        simp only [Nat.zero_add] at q0 q1 q2
        clear hr HH1 HH9 HHC h1 h9 hc
        go_wp2
        refine bodyPost_ret (v := .agg #[.int .i64 5, .int .i64 0, .bool false]) ?_ rfl ⟨rfl, ?_⟩
        · go_light
          simp [results, Try.results24, go_sem, *]
        · exact ((HB.out.setCell (Nat.le_refl _) _).setCell (Nat.le_refl _) _).setCell (Nat.le_refl _) _
      · have q0 := hr 102 (.int .i64 0) rfl
        have q1 := hr 103 (.int .i64 351) rfl
        have q2 := hr 104 (.bool false) rfl
        simp only [Nat.zero_add] at q0 q1 q2
        clear hr HH1 HH9 HHC h1 h9 hc
        go_wp2
        refine bodyPost_ret (v := .agg #[.int .i64 0, .int .i64 351, .bool false]) ?_ rfl ⟨rfl, ?_⟩
        · go_light
          simp [results, Try.results24, go_sem, *]
        · exact ((HB.out.setCell (Nat.le_refl _) _).setCell (Nat.le_refl _) _).setCell (Nat.le_refl _) _
    · rcases (show c = 0 ∨ c = 1 ∨ c = 2 ∨ c = 3 ∨ c = 4 by omega) with rfl | rfl | rfl | rfl | rfl
      · have q0 := hr 105 (.int .i64 0) rfl
        have q1 := hr 106 (.int .i64 4) rfl
        have q2 := hr 107 (.bool false) rfl
        simp only [Nat.zero_add] at q0 q1 q2
        clear hr HH1 HH9 HHC h1 h9 hc
        go_wp2
        refine bodyPost_ret (v := .agg #[.int .i64 0, .int .i64 4, .bool false]) ?_ rfl ⟨rfl, ?_⟩
        · go_light
          simp [results, Try.results24, go_sem, *]
        · exact ((HB.out.setCell (Nat.le_refl _) _).setCell (Nat.le_refl _) _).setCell (Nat.le_refl _) _
      · have q0 := hr 108 (.int .i64 0) rfl
        have q1 := hr 109 (.int .i64 352) rfl
        have q2 := hr 110 (.bool false) rfl
        simp only [Nat.zero_add] at q0 q1 q2
        clear hr HH1 HH9 HHC h1 h9 hc
        go_wp2
        refine bodyPost_ret (v := .agg #[.int .i64 0, .int .i64 352, .bool false]) ?_ rfl ⟨rfl, ?_⟩
        · go_light
          simp [results, Try.results24, go_sem, *]
        · exact ((HB.out.setCell (Nat.le_refl _) _).setCell (Nat.le_refl _) _).setCell (Nat.le_refl _) _
      · have q0 := hr 111 (.int .i64 0) rfl
        have q1 := hr 112 (.int .i64 352) rfl
        have q2 := hr 113 (.bool false) rfl
        simp only [Nat.zero_add] at q0 q1 q2
        clear hr HH1 HH9 HHC h1 h9 hc
        go_wp2
        refine bodyPost_ret (v := .agg #[.int .i64 0, .int .i64 352, .bool false]) ?_ rfl ⟨rfl, ?_⟩
        · go_light
          simp [results, Try.results24, go_sem, *]
        · exact ((HB.out.setCell (Nat.le_refl _) _).setCell (Nat.le_refl _) _).setCell (Nat.le_refl _) _
      · have q0 := hr 114 (.int .i64 1) rfl
        have q1 := hr 115 (.int .i64 0) rfl
        have q2 := hr 116 (.bool false) rfl
        simp only [Nat.zero_add] at q0 q1 q2
        clear hr HH1 HH9 HHC h1 h9 hc
        go_wp2
        refine bodyPost_ret (v := .agg #[.int .i64 1, .int .i64 0, .bool false]) ?_ rfl ⟨rfl, ?_⟩
        · go_light
          simp [results, Try.results24, go_sem, *]
        · exact ((HB.out.setCell (Nat.le_refl _) _).setCell (Nat.le_refl _) _).setCell (Nat.le_refl _) _
      · have q0 := hr 117 (.int .i64 0) rfl
        have q1 := hr 118 (.int .i64 351) rfl
        have q2 := hr 119 (.bool false) rfl
        simp only [Nat.zero_add] at q0 q1 q2
        clear hr HH1 HH9 HHC h1 h9 hc
        go_wp2
        refine bodyPost_ret (v := .agg #[.int .i64 0, .int .i64 351, .bool false]) ?_ rfl ⟨rfl, ?_⟩
        · go_light
          simp [results, Try.results24, go_sem, *]
        · exact ((HB.out.setCell (Nat.le_refl _) _).setCell (Nat.le_refl _) _).setCell (Nat.le_refl _) _
    · rcases (show c = 0 ∨ c = 1 ∨ c = 2 ∨ c = 3 ∨ c = 4 by omega) with rfl | rfl | rfl | rfl | rfl
      · have q0 := hr 120 (.int .i64 0) rfl
        have q1 := hr 121 (.int .i64 4) rfl
        have q2 := hr 122 (.bool false) rfl
        simp only [Nat.zero_add] at q0 q1 q2
        clear hr HH1 HH9 HHC h1 h9 hc
        go_wp2
        refine bodyPost_ret (v := .agg #[.int .i64 0, .int .i64 4, .bool false]) ?_ rfl ⟨rfl, ?_⟩
        · go_light
          simp [results, Try.results24, go_sem, *]
        · exact ((HB.out.setCell (Nat.le_refl _) _).setCell (Nat.le_refl _) _).setCell (Nat.le_refl _) _
      · have q0 := hr 123 (.int .i64 4) rfl
        have q1 := hr 124 (.int .i64 0) rfl
        have q2 := hr 125 (.bool false) rfl
        simp only [Nat.zero_add] at q0 q1 q2
        clear hr HH1 HH9 HHC h1 h9 hc
        go_wp2
        refine bodyPost_ret (v := .agg #[.int .i64 4, .int .i64 0, .bool false]) ?_ rfl ⟨rfl, ?_⟩
        · go_light
          simp [results, Try.results24, go_sem, *]
        · exact ((HB.out.setCell (Nat.le_refl _) _).setCell (Nat.le_refl _) _).setCell (Nat.le_refl _) _
      · have q0 := hr 126 (.int .i64 0) rfl
        have q1 := hr 127 (.int .i64 352) rfl
        have q2 := hr 128 (.bool false) rfl
        simp only [Nat.zero_add] at q0 q1 q2
        clear hr HH1 HH9 HHC h1 h9 hc
        go_wp2
        refine bodyPost_ret (v := .agg #[.int .i64 0, .int .i64 352, .bool false]) ?_ rfl ⟨rfl, ?_⟩
        · go_light
          simp [results, Try.results24, go_sem, *]
        · exact ((HB.out.setCell (Nat.le_refl _) _).setCell (Nat.le_refl _) _).setCell (Nat.le_refl _) _
      · have q0 := hr 129 (.int .i64 4) rfl
        have q1 := hr 130 (.int .i64 0) rfl
        have q2 := hr 131 (.bool false) rfl
        simp only [Nat.zero_add] at q0 q1 q2
        clear hr HH1 HH9 HHC h1 h9 hc
        go_wp2
        refine bodyPost_ret (v := .agg #[.int .i64 4, .int .i64 0, .bool false]) ?_ rfl ⟨rfl, ?_⟩
        · go_light
          simp [results, Try.results24, go_sem, *]
        · exact ((HB.out.setCell (Nat.le_refl _) _).setCell (Nat.le_refl _) _).setCell (Nat.le_refl _) _
      · have q0 := hr 132 (.int .i64 0) rfl
        have q1 := hr 133 (.int .i64 351) rfl
        have q2 := hr 134 (.bool false) rfl
        simp only [Nat.zero_add] at q0 q1 q2
        clear hr HH1 HH9 HHC h1 h9 hc
        go_wp2
        refine bodyPost_ret (v := .agg #[.int .i64 0, .int .i64 351, .bool false]) ?_ rfl ⟨rfl, ?_⟩
        · go_light
          simp [results, Try.results24, go_sem, *]
        · exact ((HB.out.setCell (Nat.le_refl _) _).setCell (Nat.le_refl _) _).setCell (Nat.le_refl _) _
    · rcases (show c = 0 ∨ c = 1 ∨ c = 2 ∨ c = 3 ∨ c = 4 by omega) with rfl | rfl | rfl | rfl | rfl
      · have q0 := hr 135 (.int .i64 0) rfl
        have q1 := hr 136 (.int .i64 4) rfl
        have q2 := hr 137 (.bool false) rfl
        simp only [Nat.zero_add] at q0 q1 q2
        clear hr HH1 HH9 HHC h1 h9 hc
        go_wp2
        refine bodyPost_ret (v := .agg #[.int .i64 0, .int .i64 4, .bool false]) ?_ rfl ⟨rfl, ?_⟩
        · go_light
          simp [results, Try.results24, go_sem, *]
        · exact ((HB.out.setCell (Nat.le_refl _) _).setCell (Nat.le_refl _) _).setCell (Nat.le_refl _) _
      · have q0 := hr 138 (.int .i64 7) rfl
        have q1 := hr 139 (.int .i64 0) rfl
        have q2 := hr 140 (.bool false) rfl
        simp only [Nat.zero_add] at q0 q1 q2
        clear hr HH1 HH9 HHC h1 h9 hc
        go_wp2
        refine bodyPost_ret (v := .agg #[.int .i64 7, .int .i64 0, .bool false]) ?_ rfl ⟨rfl, ?_⟩
        · go_light
          simp [results, Try.results24, go_sem, *]
        · exact ((HB.out.setCell (Nat.le_refl _) _).setCell (Nat.le_refl _) _).setCell (Nat.le_refl _) _
      · have q0 := hr 141 (.int .i64 7) rfl
        have q1 := hr 142 (.int .i64 0) rfl
        have q2 := hr 143 (.bool false) rfl
        simp only [Nat.zero_add] at q0 q1 q2
        clear hr HH1 HH9 HHC h1 h9 hc
        go_wp2
        refine bodyPost_ret (v := .agg #[.int .i64 7, .int .i64 0, .bool false]) ?_ rfl ⟨rfl, ?_⟩
        · go_light
          simp [results, Try.results24, go_sem, *]
        · exact ((HB.out.setCell (Nat.le_refl _) _).setCell (Nat.le_refl _) _).setCell (Nat.le_refl _) _
      · have q0 := hr 144 (.int .i64 7) rfl
        have q1 := hr 145 (.int .i64 0) rfl
        have q2 := hr 146 (.bool false) rfl
        simp only [Nat.zero_add] at q0 q1 q2
        clear hr HH1 HH9 HHC h1 h9 hc
        go_wp2
        refine bodyPost_ret (v := .agg #[.int .i64 7, .int .i64 0, .bool false]) ?_ rfl ⟨rfl, ?_⟩
        · go_light
          simp [results, Try.results24, go_sem, *]
        · exact ((HB.out.setCell (Nat.le_refl _) _).setCell (Nat.le_refl _) _).setCell (Nat.le_refl _) _
      · have q0 := hr 147 (.int .i64 0) rfl
        have q1 := hr 148 (.int .i64 351) rfl
        have q2 := hr 149 (.bool false) rfl
        simp only [Nat.zero_add] at q0 q1 q2
        clear hr HH1 HH9 HHC h1 h9 hc
        go_wp2
        refine bodyPost_ret (v := .agg #[.int .i64 0, .int .i64 351, .bool false]) ?_ rfl ⟨rfl, ?_⟩
        · go_light
          simp [results, Try.results24, go_sem, *]
        · exact ((HB.out.setCell (Nat.le_refl _) _).setCell (Nat.le_refl _) _).setCell (Nat.le_refl _) _

end Go.Proofs.Ytdepolfmibhojaa
