import Derived.Test.YtpnfogckdceiaaaLib3
import Derived.Test.YtpnfogckdceiaaaLib5
import Derived.Test.YtpnfogckdceiaaaLib4
namespace Go.Proofs.Ytpnfogckdceiaaa
open Go Go.RowKit Wx
set_option linter.unusedVariables false
set_option linter.unusedSimpArgs false
set_option maxHeartbeats 4000000
structure El where
  kd : Int
  src : Int
  key : Int
  val : Int
  num : Int
deriving DecidableEq
abbrev eE (x : El) : List RT := [RT.v (.int .i64 x.kd), RT.v (.int .i64 x.src), RT.v (.int .i64 x.key), RT.v (.int .i64 x.val), RT.v (.int .u64 x.num)]
abbrev cE (x : El) : List Ce := [Ce.v (.int .i64 x.kd), Ce.v (.int .i64 x.src), Ce.v (.int .i64 x.key), Ce.v (.int .i64 x.val), Ce.v (.int .u64 x.num)]
abbrev eB (z : Int) : List RT := [RT.v (.int .u8 z)]
abbrev cB (z : Int) : List Ce := [Ce.v (.int .u8 z)]
def zE : El := ⟨0, 0, 0, 0, 0⟩
theorem el_eq {x y : El} (h : (x.kd == y.kd && (x.src == y.src && (x.key == y.key && (x.val == y.val && (x.num == y.num && true))))) = true) : x = y := by
  cases x; cases y; simp_all
def okE (e : El) : Bool := decide ((e.kd = 1 ∧ (0 ≤ e.src ∧ e.src < 8 ∧ 0 ≤ e.key ∧ e.key < 32) ∧ e.num = 0) ∨ (e.kd = 2 ∧ (e.src = 0 ∧ e.key = 0 ∧ e.val = 0) ∧ 0 < e.num ∧ e.num ≤ 4611686018427387904) ∨ (e.kd = 3 ∧ (e.src = 0 ∧ e.key = 0 ∧ e.val = 0) ∧ e.num = 0))
/-- The lowest bytes of a number, the highest of these first. -/
def be : Nat → Int → List Int
  | 0, _ => []
  | n + 1, x => be n (x / 256) ++ [x % 256]
/-- The bytes of an element. -/
def encE (e : El) : List Int := if e.kd = 1 then e.kd :: e.src :: e.key :: be 8 (IntKind.u64.wrap e.val) else if e.kd = 2 then e.kd :: be 8 e.num else [e.kd]
def encs (l : List El) : List Int := l.flatMap encE
def enc (l : List El) : List Int := (l.length : Int) :: encs l
/-- The number of bytes. -/
def numR (l : List Int) : Int := l.foldl (fun x b => x * 256 + b) 0
theorem numR_snoc {l : List Int} {b : Int} : numR (l ++ [b]) = numR l * 256 + b := by unfold numR; rw [List.foldl_append]; rfl
def isB (l : List Int) : Prop := ∀ b ∈ l, 0 ≤ b ∧ b ≤ 255
theorem numR_lt : ∀ {n : Nat} {l : List Int}, l.length = n → isB l → 0 ≤ numR l ∧ numR l < 256 ^ n
  | 0, l, h, _ => by rw [List.length_eq_zero_iff.1 h]; decide
  | n + 1, l, h, hb => by
    rcases List.eq_nil_or_concat l with e | ⟨l', b, e⟩
    · subst e; simp at h
    · rw [List.concat_eq_append] at e
      subst e
      have h1 := numR_lt (n := n) (l := l') (by simpa using h) (fun x hx => hb x (List.mem_append_left _ hx))
      have h2 := hb b (by simp)
      rw [numR_snoc, Int.pow_succ]
      omega
/-- One element at the front of bytes: it, the error, what is behind it. -/
def dec1 : List Int → El × Int × List Int
  | [] => (zE, 7, [])
  | kd :: r =>
    if kd = 1 then match r with
      | [] => (zE, 7, [])
      | s :: r1 => if 8 ≤ s then (zE, 151, []) else match r1 with
        | [] => (zE, 7, [])
        | k :: r2 => if 32 ≤ k then (zE, 151, []) else if r2.length < 8 then (zE, 7, []) else (⟨1, s, k, IntKind.i64.wrap (numR (r2.take 8)), 0⟩, 0, r2.drop 8)
    else if kd = 2 then (if r.length < 8 then (zE, 7, []) else if 1 ≤ numR (r.take 8) ∧ numR (r.take 8) ≤ 4611686018427387904 then (⟨2, 0, 0, 0, numR (r.take 8)⟩, 0, r.drop 8) else (zE, 151, []))
    else if kd = 3 then (⟨3, 0, 0, 0, 0⟩, 0, r)
    else (zE, 151, [])
/-- So many elements at the front of bytes. -/
def decN : Nat → List Int → List El × Int × List Int
  | 0, b => ([], 0, b)
  | n + 1, b => if (dec1 b).2.1 = 0 then
      if (decN n (dec1 b).2.2).2.1 = 0 then ((dec1 b).1 :: (decN n (dec1 b).2.2).1, 0, (decN n (dec1 b).2.2).2.2) else ([], (decN n (dec1 b).2.2).2.1, [])
    else ([], (dec1 b).2.1, [])
def decR : List Int → List El × Int
  | [] => ([], 7)
  | n :: r => if 200 < n then ([], 3) else if (decN n.toNat r).2.1 = 0 then (if (decN n.toNat r).2.2 = [] then ((decN n.toNat r).1, 0) else ([], 151)) else ([], (decN n.toNat r).2.1)
theorem u8_mod (z : Int) : IntKind.u8.wrap z = z % 256 := by
  simp [IntKind.wrap, IntKind.bits, IntKind.signed]
theorem u64_mod (z : Int) : IntKind.u64.wrap z = z % 18446744073709551616 := by
  simp [IntKind.wrap, IntKind.bits, IntKind.signed]
theorem or256 {x b : Int} (h : 0 ≤ x ∧ x < 72057594037927936) (hb : 0 ≤ b ∧ b ≤ 255) : IntKind.u64.wrap ((BitVec.ofInt IntKind.u64.bits (IntKind.u64.wrap (x * 2 ^ 8)) ||| BitVec.ofInt IntKind.u64.bits (IntKind.u64.wrap b)).toNat : Int) = x * 256 + b := by
  obtain ⟨n, rfl⟩ := Int.eq_ofNat_of_zero_le h.1
  obtain ⟨c, rfl⟩ := Int.eq_ofNat_of_zero_le hb.1
  rw [u64_mod, u64_mod, u64_mod]
  have a1 : ((n : Int) * 2 ^ 8) % 18446744073709551616 = ((n * 256 : Nat) : Int) := by omega
  have a2 : (c : Int) % 18446744073709551616 = ((c : Nat) : Int) := by omega
  rw [a1, a2]
  show ((BitVec.ofInt 64 ((n * 256 : Nat) : Int) ||| BitVec.ofInt 64 (c : Int)).toNat : Int) % 18446744073709551616 = _
  rw [BitVec.toNat_or]
  have e1 : (BitVec.ofInt 64 ((n * 256 : Nat) : Int)).toNat = n * 256 := by simp [BitVec.toNat_ofInt]; omega
  have e2 : (BitVec.ofInt 64 (c : Int)).toNat = c := by simp [BitVec.toNat_ofInt]; omega
  have e3 : n * 256 ||| c = n * 256 + c := by
    rw [show n * 256 = n <<< 8 by rw [Nat.shiftLeft_eq]]
    exact (Nat.shiftLeft_add_eq_or_of_lt (by omega) n).symm
  rw [e1, e2, e3]
  omega
end Go.Proofs.Ytpnfogckdceiaaa
namespace Go.Proofs.Ytpnfogckdceiaaa
open Go Go.RowKit Wx
set_option linter.unusedVariables false
set_option linter.unusedSimpArgs false
set_option maxHeartbeats 4000000
theorem checkE_con (e : El) (hu : 0 ≤ e.num) : Con Try.prog 10 [.agg [.v (.int .i64 e.kd), .v (.int .i64 e.src), .v (.int .i64 e.key), .v (.int .i64 e.val), .v (.int .u64 e.num)]] (fun rx rK rt => rx = .val (.int .i64 (bif okE e then 0 else 151)) ∧ rK = [] ∧ rt = 0) := by
  refine Z.con_ofF tabOk 40 Try.f10 _ Try.func10 (by kernel_rfl) rfl rfl rfl rfl ?_
  repeat' ((conv => whnf); first
    | with_reducible first | refine spB_t ?_
    | ((with_reducible apply spB_cong); (focus (simp only [beq_self_eq_true, bne_self_eq_false, Bool.true_bne, Bool.false_bne, Bool.bne_true, Bool.bne_false, Bool.true_beq, Bool.false_beq, Bool.not_true, Bool.not_false, Bool.not_not, Int.reduceBEq, Int.reduceBNe, Int.reduceLE, Int.reduceLT, Int.reduceEq, decide_true, decide_false]; rfl)))
    | with_reducible first | refine spB_no (by decide) ?_ | refine spB_not ?_
    | (with_reducible refine spB_dec ?_ ?_ <;> intro _ <;> (try (exfalso; first | contradiction | omega | (rename_i hz; with_reducible exact absurd rfl hz))))
    | (with_reducible refine spB_beq ?_ ?_ <;> intro _ <;> (try (exfalso; first | contradiction | omega | (rename_i hz; with_reducible exact absurd rfl hz))))
    | (with_reducible refine spB_mk ?_ ?_ <;> intro _ <;> (try (exfalso; first | contradiction | omega | (rename_i hz; with_reducible exact absurd rfl hz))))
    | with_reducible first | refine Z.callZ_in tabOk 21 Try.f9 _ Try.func9 (by kernel_rfl) rfl rfl rfl ?_
    | ((with_reducible apply ex_and); exact rfl))
  all_goals (try (conv => whnf))
  all_goals first
    | ((first | (with_reducible apply Z.retF1)); (focus (exact rfl)); (repeat' (first | exact trivial | (with_reducible apply Z.frz_one) | (with_reducible apply Z.fq_int) | apply And.intro)); (all_goals (try exact (fun _ => none))); all_goals (first | (rw [show okE e = true by (unfold okE; (try simp only [Bool.and_eq_true, Bool.and_eq_false_iff, Bool.and_true, beq_iff_eq, beq_eq_false_iff_ne, bne_iff_ne, Bool.not_eq_true, Bool.not_eq_false, ne_eq, Bool.false_eq_true, or_false] at *); first | exact decide_eq_true (by omega) | exact decide_eq_false (by omega))]; rfl) | (rw [show okE e = false by (unfold okE; (try simp only [Bool.and_eq_true, Bool.and_eq_false_iff, Bool.and_true, beq_iff_eq, beq_eq_false_iff_ne, bne_iff_ne, Bool.not_eq_true, Bool.not_eq_false, ne_eq, Bool.false_eq_true, or_false] at *); first | exact decide_eq_true (by omega) | exact decide_eq_false (by omega))]; rfl)))

theorem rightE_con (e : El) (hu : 0 ≤ e.num) : Con Try.prog 12 [.agg [.v (.int .i64 e.kd), .v (.int .i64 e.src), .v (.int .i64 e.key), .v (.int .i64 e.val), .v (.int .u64 e.num)]] (fun rx rK rt => rx = .val (.bool (okE e)) ∧ rK = [] ∧ rt = 0) := by
  refine Z.con_ofF tabOk 41 Try.f12 _ Try.func12 (by kernel_rfl) rfl rfl rfl rfl ?_
  repeat' ((conv => whnf); first
    | with_reducible first | refine spB_t ?_
    | with_reducible first | refine spB_no (by decide) ?_ | refine spB_not ?_
    | (with_reducible refine spB_dec ?_ ?_ <;> intro _ <;> (try (exfalso; first | contradiction | omega | (rename_i hz; with_reducible exact absurd rfl hz))))
    | (with_reducible refine spB_beq ?_ ?_ <;> intro _ <;> (try (exfalso; first | contradiction | omega | (rename_i hz; with_reducible exact absurd rfl hz))))
    | (with_reducible refine spB_mk ?_ ?_ <;> intro _ <;> (try (exfalso; first | contradiction | omega | (rename_i hz; with_reducible exact absurd rfl hz))))
    | with_reducible first | refine Z.callZ_in tabOk 21 Try.f11 _ Try.func11 (by kernel_rfl) rfl rfl rfl ?_
    | ((with_reducible apply ex_and); exact rfl))
  all_goals (try (conv => whnf))
  all_goals first
    | ((first | (with_reducible apply Z.retF1)); (focus (exact rfl)); (repeat' (first | exact trivial | (with_reducible apply Z.frz_one) | (with_reducible apply Z.fq_bool) | apply And.intro)); (all_goals (try exact (fun _ => none))); all_goals (first | (rw [show okE e = true by (unfold okE; (try simp only [Bool.and_eq_true, Bool.and_eq_false_iff, Bool.and_true, beq_iff_eq, beq_eq_false_iff_ne, bne_iff_ne, Bool.not_eq_true, Bool.not_eq_false, ne_eq, Bool.false_eq_true, or_false] at *); first | exact decide_eq_true (by omega) | exact decide_eq_false (by omega))]) | (rw [show okE e = false by (unfold okE; (try simp only [Bool.and_eq_true, Bool.and_eq_false_iff, Bool.and_true, beq_iff_eq, beq_eq_false_iff_ne, bne_iff_ne, Bool.not_eq_true, Bool.not_eq_false, ne_eq, Bool.false_eq_true, or_false] at *); first | exact decide_eq_true (by omega) | exact decide_eq_false (by omega))]) | (by_cases hz : e.num = 0; (focus (rw [show (e.num == 0) = true by simpa using hz, show okE e = true by (unfold okE; (try simp only [Bool.and_eq_true, Bool.and_eq_false_iff, Bool.and_true, beq_iff_eq, beq_eq_false_iff_ne, bne_iff_ne, Bool.not_eq_true, Bool.not_eq_false, ne_eq, Bool.false_eq_true, or_false] at *); first | exact decide_eq_true (by omega) | exact decide_eq_false (by omega))])); (rw [show (e.num == 0) = false by simpa using hz, show okE e = false by (unfold okE; (try simp only [Bool.and_eq_true, Bool.and_eq_false_iff, Bool.and_true, beq_iff_eq, beq_eq_false_iff_ne, bne_iff_ne, Bool.not_eq_true, Bool.not_eq_false, ne_eq, Bool.false_eq_true, or_false] at *); first | exact decide_eq_true (by omega) | exact decide_eq_false (by omega))]))))

end Go.Proofs.Ytpnfogckdceiaaa
namespace Go.Proofs.Ytpnfogckdceiaaa
open Go Go.RowKit Wx
set_option linter.unusedVariables false
set_option linter.unusedSimpArgs false
set_option maxHeartbeats 4000000
end Go.Proofs.Ytpnfogckdceiaaa
namespace Go.Proofs.Ytpnfogckdceiaaa
open Go Go.RowKit Wx
set_option linter.unusedVariables false
set_option linter.unusedSimpArgs false
set_option maxHeartbeats 4000000
end Go.Proofs.Ytpnfogckdceiaaa
namespace Go.Proofs.Ytpnfogckdceiaaa
open Go Go.RowKit Wx
set_option linter.unusedVariables false
set_option linter.unusedSimpArgs false
set_option maxHeartbeats 4000000
end Go.Proofs.Ytpnfogckdceiaaa
namespace Go.Proofs.Ytpnfogckdceiaaa
open Go Go.RowKit Wx
set_option linter.unusedVariables false
set_option linter.unusedSimpArgs false
set_option maxHeartbeats 4000000
end Go.Proofs.Ytpnfogckdceiaaa
namespace Go.Proofs.Ytpnfogckdceiaaa
open Go Go.RowKit Wx
set_option linter.unusedVariables false
set_option linter.unusedSimpArgs false
set_option maxHeartbeats 4000000
end Go.Proofs.Ytpnfogckdceiaaa
namespace Go.Proofs.Ytpnfogckdceiaaa
open Go Go.RowKit Wx
set_option linter.unusedVariables false
set_option linter.unusedSimpArgs false
set_option maxHeartbeats 4000000
end Go.Proofs.Ytpnfogckdceiaaa
namespace Go.Proofs.Ytpnfogckdceiaaa
open Go Go.RowKit Wx
set_option linter.unusedVariables false
set_option linter.unusedSimpArgs false
set_option maxHeartbeats 4000000
end Go.Proofs.Ytpnfogckdceiaaa
namespace Go.Proofs.Ytpnfogckdceiaaa
open Go Go.RowKit Wx
set_option linter.unusedVariables false
set_option linter.unusedSimpArgs false
set_option maxHeartbeats 4000000
end Go.Proofs.Ytpnfogckdceiaaa
namespace Go.Proofs.Ytpnfogckdceiaaa
open Go Go.RowKit Wx
set_option linter.unusedVariables false
set_option linter.unusedSimpArgs false
set_option maxHeartbeats 4000000
theorem loopZ_unr1 {P : Program} {T : Tab} {n m : Nat} {rd : Option Nat} {s : Z.S} {c : Code} {Q : Exit → Z.S → Prop} (hT : TabOk P T) (hs : Wx.get s.F 5 = some (.val (.int .i64 1))) (h : Z.loopU P T n m rd c Q 2 s) : Z.LoopZ P n m rd c s Q := Z.loopZ_unroll hT 2 h
theorem wr_shl8 {x : Int} {A : Int → Prop} (h : 0 ≤ x ∧ x < 72057594037927936) (k : A (x * 256)) : wr .u64 (x * 2 ^ (min (Int.toNat 8) IntKind.u64.bits)) A := ⟨x * 256, by
  show IntKind.u64.wrap (x * 2 ^ 8) = _
  rw [u64_in _ (by omega)]; omega, k⟩
theorem or_add {x b : Int} (h : 0 ≤ x ∧ x < 72057594037927936) (hb : 0 ≤ b ∧ b ≤ 255) : IntKind.u64.wrap ((BitVec.ofInt IntKind.u64.bits (x * 256) ||| BitVec.ofInt IntKind.u64.bits b).toNat : Int) = x * 256 + b := by
  have e := or256 h hb
  rw [u64_in (x * 2 ^ 8) (by omega), u64_in b (by omega), show x * 2 ^ 8 = x * 256 by omega] at e
  exact e
theorem wr_or0 {b : Int} {A : Int → Prop} (hb : 0 ≤ b ∧ b ≤ 255) (k : A b) : wr .u8 (IntKind.u64.wrap ((BitVec.ofInt IntKind.u64.bits (0 * 256) ||| BitVec.ofInt IntKind.u64.bits b).toNat : Int)) A := ⟨b, by
  rw [or_add (by decide) hb, u8_mod]; omega, k⟩
theorem copy_rows {l : List Int} {m k n : Nat} {z : List Ce} {fl : Bool} (hm : m = l.length) (hk : l.length ≤ k) (hn : n = l.length) : (lay (List.replicate m z) 0 (List.take k ((l.map eB).map (List.map (RT.ce fl))))).take n = l.map cB := by
  subst hn
  rw [Z.lay_copy hm hk (fun _ => rfl)]
  exact List.take_of_length_le (by simp)
theorem tk_map {r : List Int} : List.take r.length (List.map eB r) = List.map eB r := List.take_of_length_le (by simp)
theorem loopQ3 {P : Program} {n m : Nat} {rd : Option Nat} {s : Z.S} {c : Code} {Q : Exit → Z.S → Prop} {s9 : Z.S} (h : ∀ Q0 : Exit → Z.S → Prop, Q0 (.exit 0) s9 → Z.LoopZ P n m rd c s Q0) (k : Q (.exit 0) s9) : Z.LoopZ P n m rd c s Q := h Q k
theorem copied_con (l : List Int) (hl : l.length ≤ 1099511627776) : Con Try.prog 40 [.one (.ro false 1 (l.map eB))] (fun rx rK rt => rx = .c (.ro true 1 (l.map eB)) ∧ rK = [] ∧ rt = 0) := by
  refine Z.con_ofF tabOk 11 Try.f40 _ Try.func40 (by kernel_rfl) rfl rfl rfl rfl ?_
  repeat' ((conv => whnf); first
    | with_reducible first | refine spB_t ?_
    | ((with_reducible apply spB_cong); (focus (simp only [beq_self_eq_true, bne_self_eq_false, Bool.true_bne, Bool.false_bne, Bool.bne_true, Bool.bne_false, Bool.true_beq, Bool.false_beq, Bool.not_true, Bool.not_false, Bool.not_not, Int.reduceBEq, Int.reduceBNe, Int.reduceLE, Int.reduceLT, Int.reduceEq, decide_true, decide_false]; rfl)))
    | with_reducible first | refine spB_yes (by decide) ?_ | refine spB_no (by decide) ?_ | refine spB_f ?_ | refine spB_not ?_ | refine spB_yes (by assumption) ?_ | refine spB_no (by assumption) ?_
    | (with_reducible refine spB_dec ?_ ?_ <;> intro _ <;> (try (exfalso; first | contradiction | omega | (rename_i hz; refine hz ?_; simp; done) | (rename_i hz; simp at hz; done) | (simp only [LN] at *; omega))))
    | (with_reducible refine spB_beq ?_ ?_ <;> intro _ <;> (try (exfalso; first | contradiction | omega | (rename_i hz; refine hz ?_; simp; done) | (rename_i hz; simp at hz; done) | (simp only [LN] at *; omega))))
    | (with_reducible refine spB_bne ?_ ?_ <;> intro _ <;> (try (exfalso; first | contradiction | omega | (rename_i hz; refine hz ?_; simp; done) | (rename_i hz; simp at hz; done) | (simp only [LN] at *; omega))))
    | (with_reducible refine spB_mk ?_ ?_ <;> intro _ <;> (try (exfalso; first | contradiction | omega | (rename_i hz; refine hz ?_; simp; done) | (rename_i hz; simp at hz; done) | (simp only [LN] at *; omega))))
    | ((with_reducible apply rowN_mk); (focus rfl))
    | ((with_reducible apply ixN_lit); (focus (exact rfl)); (focus (exact rfl)))
    | ((with_reducible apply ixN_litp); (focus (exact rfl)); (focus ((try simp only [LN] at *) <;> omega)))
    | ((with_reducible refine eqN_mk2 ?_ ?_); (focus rfl))
    | ((with_reducible refine cpyN.mk ?_ ?_ ?_ ?_); (focus (first | rfl | (simp; done))); (focus (first | exact one_all (by rfl) | exact one_map (fun _ => rfl) | exact one_map2 (fun _ => rfl))); (focus ((try simp only [LN] at *) <;> omega)))
    | with_reducible refine wr_i64 (by first | omega | (simp only [LN] at *; omega)) ?_
    | with_reducible refine wr_u64 (by omega) ?_
    | with_reducible first | refine wr_mk _ rfl ?_
    | ((with_reducible refine ixN_nat ?_ ?_); (focus ((try simp only [LN] at *) <;> omega)))
    | ((with_reducible refine rowN_map ?_ ?_); (focus ((try simp only [LN] at *) <;> omega)); intro x hx)
    | with_reducible refine eqN_dec (by omega) ?_
    | with_reducible first | refine apN_mk (by kernel_rfl) ?_
    | ((with_reducible refine eqN_mk2 ?_ ?_); (focus (exact Z.kb_some rfl)))
    | ((with_reducible apply ex_and); exact rfl)
    | ((with_reducible refine Z.mkN_nat ?_ ?_ ?_ ?_); (focus ((try simp only [LN] at *) <;> omega)); (focus ((try simp only [LN] at *) <;> omega)); (focus ((try simp only [LN] at *) <;> omega))))
  all_goals (try (conv => whnf))
  all_goals try (show Nat.ble _ _ = true; rfl)
  all_goals try (exfalso; rename_i hz; cases hz; done)
  all_goals try (exfalso; (try simp only [LN] at *) <;> omega)
  all_goals first
    | ((first | (with_reducible apply Z.retF1) | (with_reducible apply Z.retF2) | (with_reducible apply Z.retF0)); (focus (exact rfl)); (repeat' (first | exact trivial | (refine Z.frz_oslw (l := l) (f := cB) (ty := 5) (bx := false) rfl ?_ ?_ (fun _ => rfl); (focus (simp; done)); exact copy_rows (by simp) (by simp) (by simp)) | (with_reducible apply Z.frz_one) | (with_reducible apply Z.frz_agg) | (with_reducible apply Z.fq_int) | (with_reducible apply Z.fq_bool) | (exact Z.frz_nil) | (exact Z.frz_osl0 rfl rfl rfl) | (with_reducible apply Z.fq_nil) | (with_reducible apply Z.fq_ro) | ((with_reducible apply Z.fq_gsl); (focus (first | rfl | exact Z.isB_map _ | exact Z.gB_snoc.symm)); (focus (exact fun _ => rfl))) | ((with_reducible apply Z.fq_osl); (focus (exact rfl)); (focus (first | exact rfl | (simp only [List.length_map, Nat.zero_add]; done) | ((try simp only [LN] at *) <;> omega))); (focus (exact fun _ => rfl))) | ((with_reducible apply Z.fq_src); (focus (exact rfl)); (focus (first | exact rfl | (simp only [List.length_map, Nat.zero_add]; done) | ((try simp only [LN] at *) <;> omega))); (focus (exact fun _ => rfl))) | exact rfl | ((apply Z.fq_osl); (focus (exact rfl)); (focus (first | exact rfl | (simp only [List.length_map, Nat.zero_add]; done) | ((try simp only [LN] at *) <;> omega))); (focus (exact fun _ => rfl))) | ((apply Z.fq_src); (focus (exact rfl)); (focus (first | exact rfl | (simp only [List.length_map, Nat.zero_add]; done) | ((try simp only [LN] at *) <;> omega))); (focus (exact fun _ => rfl))) | (apply Z.fq_ro) | (apply Z.fq_int) | (apply Z.fq_bool) | apply And.intro)); (all_goals (try exact (fun _ => none))); all_goals (first | rfl | (simp; done)))
    | (exfalso; rename_i hz; cases hz; done)
    | (exfalso; (try simp only [LN] at *) <;> omega)
    | (fail)

end Go.Proofs.Ytpnfogckdceiaaa
namespace Go.Proofs.Ytpnfogckdceiaaa
open Go Go.RowKit Wx
set_option linter.unusedVariables false
set_option linter.unusedSimpArgs false
set_option maxHeartbeats 4000000
/-- The bodies of a code's loops. -/
def lbs : Code → List Code
  | .loop b => b :: lbs b
  | .seq a b => lbs a ++ lbs b
  | .cond _ a b => lbs a ++ lbs b
  | .block _ b => lbs b
  | .rangeFunc _ _ a b => lbs a ++ lbs b
  | .scope b => lbs b
  | _ => []
def lbody (f : Func) : Code := ((f.body.map lbs).getD []).headD .skip
def loopPost (R : Z.S → Prop) (Q : Exit → Z.S → Prop) : Exit → Z.S → Prop := fun e s' => match e with
  | .normal => R s'
  | e => Q e s'
abbrev dG := Nat × List Int × List El
abbrev dCH (zq : dG) : Fr := [(22, .val (.int .i64 (zq.1 : Int))), (7, .c (.gsl 6 (zq.2.2.map cE)))]
abbrev dCK (zq : dG) : Z.Kr := [(0, some (Z.Ob.b ⟨[[.ro true 1 (zq.2.1.map eB), .v (.int .i64 0)]], 2, 77, true⟩)), (6, (gB 5 26 (zq.2.2.map cE)).map Z.Ob.b)]
abbrev dFk (N : Nat) : Fr := [(2, .c (.own 4 0 0)), (6, .c (.mpv 5)), (21, .val (.int .i64 (N : Int)))]
abbrev dKk : Z.Kr := [(1, some (Z.Ob.b ⟨[[.own 0 0 0]], 1, 63, true⟩)), (4, some (Z.Ob.b ⟨[[.own 0 0 0]], 1, 63, true⟩)), (5, some (Z.Ob.m ⟨[(Value.int .u8 1, 0, A0.one (Ce.mf 42 [Pt.ag [Pa.own 0 0 0]])), (Value.int .u8 2, 1, A0.one (Ce.mf 43 [Pt.ag [Pa.own 0 0 0]])), (Value.int .u8 3, 2, A0.one (Ce.mf 44 [Pt.ag [Pa.own 0 0 0]]))], 3⟩))]
/-- What was read so far, and what is to be read yet. -/
def preD (acc : List El) (x : List El × Int × List Int) : List El × Int × List Int := if x.2.1 = 0 then (acc ++ x.1, 0, x.2.2) else ([], x.2.1, [])
abbrev dInv (b : List Int) (N : Nat) (zq : dG) : Prop := zq.1 ≤ N ∧ (isB zq.2.1 ∧ zq.2.1.length ≤ 1099511627776) ∧ zq.2.2.length = zq.1 ∧ decN N b = preD zq.2.2 (decN (N - zq.1) zq.2.1)
abbrev dRnd (b : List Int) (N : Nat) (p : dG) (s' : Z.S) : Prop := Z.rndZ 4 (fun zq => (⟨dCH zq ++ dFk N, dCK zq ++ dKk, 7⟩ : Z.S)) (dInv b N) (fun zq => N - zq.1) p s'
theorem preD_step {acc : List El} {n : Nat} {b : List Int} {e : El} {r : List Int} (h : dec1 b = (e, 0, r)) : preD acc (decN (n + 1) b) = preD (acc ++ [e]) (decN n r) := by
  unfold preD
  simp only [decN, h, if_true]
  by_cases h2 : (decN n r).2.1 = 0
  · simp [h2]
  · simp [h2]
theorem preD_bad {acc : List El} {n : Nat} {b : List Int} {er : Int} (h : (dec1 b).2.1 = er) (h0 : er ≠ 0) : preD acc (decN (n + 1) b) = ([], er, []) := by
  unfold preD
  simp only [decN, h, if_neg h0]
theorem isB_take {l : List Int} {n : Nat} (h : isB l) : isB (l.take n) := fun b hb => h b (List.mem_of_mem_take hb)
theorem isB_drop {l : List Int} {n : Nat} (h : isB l) : isB (l.drop n) := fun b hb => h b (List.mem_of_mem_drop hb)
theorem dec1_b {r : List Int} (h4 : 8 ≤ r.length) (h5 : 1 ≤ numR (r.take 8) ∧ numR (r.take 8) ≤ 4611686018427387904) : dec1 (2 :: r) = (⟨2, 0, 0, 0, numR (r.take 8)⟩, 0, r.drop 8) := by
  unfold dec1
  simp only [show (2 : Int) ≠ 1 by decide, if_false, if_true]
  rw [if_neg (by omega), if_pos h5]
theorem dec1_r {r : List Int} {s k : Int} (hs : s < 8) (hk : k < 32) (h4 : 8 ≤ r.length) : dec1 (1 :: s :: k :: r) = (⟨1, s, k, IntKind.i64.wrap (numR (r.take 8)), 0⟩, 0, r.drop 8) := by
  unfold dec1
  simp only [if_true]
  rw [if_neg (by omega), if_neg (by omega), if_neg (by omega)]
theorem rest_at {R : List (List RT)} {l : List Int} {j : Nat} {z : Int} (hR : R = l.map eB) (h : l[j]? = some z) : R[j]? = some (eB z) := by
  rw [hR, List.getElem?_map, h]; rfl
theorem same_nw {k a : Int} : Instr.sameNow (.int .u8) (.int .u8 k) (.int .u8 a) = some (decide (k = a)) := by
  simp only [Instr.sameNow, if_true]; congr 1
theorem lookN_none {kd : Int} {z : Value} {a b c : A0} {n1 n2 n3 n4 : Nat} {A : A0 → Bool → Prop} (h1 : kd ≠ 1) (h2 : kd ≠ 2) (h3 : kd ≠ 3) (h : A (Y.zeroA z) false) : Z.lookN .u8 z ⟨[(Value.int .u8 1, n1, a), (Value.int .u8 2, n2, b), (Value.int .u8 3, n3, c)], n4⟩ kd A :=
  ⟨_, _, by simp [Y.lookM, Y.posE, same_nw, h1, h2, h3], h⟩
theorem pow_le7 {j : Nat} (h : j ≤ 7) : (256 : Int) ^ j ≤ 256 ^ 7 := by
  have : ∀ j : Fin 8, (256 : Int) ^ j.1 ≤ 256 ^ 7 := by decide
  exact this ⟨j, by omega⟩
theorem num_lt {l : List Int} {i : Nat} (hi : i < 8) (hl : i ≤ l.length) (hB : isB l) : 0 ≤ numR (l.take i) ∧ numR (l.take i) < 72057594037927936 := by
  have h1 := numR_lt (n := i) (l := l.take i) (by simp; omega) (isB_take hB)
  have h2 := pow_le7 (j := i) (by omega)
  have h3 : (256 : Int) ^ 7 = 72057594037927936 := by decide
  rw [h3] at h2
  exact ⟨h1.1, Int.lt_of_lt_of_le h1.2 h2⟩
end Go.Proofs.Ytpnfogckdceiaaa
namespace Go.Proofs.Ytpnfogckdceiaaa
open Go Go.RowKit Wx
set_option linter.unusedVariables false
set_option linter.unusedSimpArgs false
set_option maxHeartbeats 40000000
theorem dec_e (b : List Int) (N i : Nat) (acc : List El)  (hB : isB []) (hL : ([] : List Int).length ≤ 1099511627776) (HC : acc.length = i) (HD : decN N b = preD acc (decN (N - i) [])) (hi : i < N) (hN : N ≤ 200)  {Q : Exit → Z.S → Prop} (hQ : ∀ F' K' t', Wx.get F' 4 = some (.val (.slice none 0 0)) → Wx.get F' 5 = some (.val (.int .i64 7)) → Q .ret ⟨F', K', t'⟩) : Z.codeZ Try.prog tab 56 4 none (lbody Try.f34) ⟨dCH (i, [], acc) ++ dFk N, dCK (i, [], acc) ++ dKk, 7⟩ (loopPost (dRnd b N (i, [], acc)) Q) := by
  dsimp only [dCH, dFk, dCK, dKk, dRnd]
  repeat' ((conv => whnf); first
    | with_reducible first | refine spB_t ?_
    | ((with_reducible apply spB_cong); (focus (simp only [beq_self_eq_true, bne_self_eq_false, Bool.true_bne, Bool.false_bne, Bool.bne_true, Bool.bne_false, Bool.true_beq, Bool.false_beq, Bool.not_true, Bool.not_false, Bool.not_not, Int.reduceBEq, Int.reduceBNe, Int.reduceLE, Int.reduceLT, Int.reduceEq, decide_true, decide_false]; rfl)))
    | with_reducible first | refine spB_yes (by decide) ?_ | refine spB_no (by decide) ?_ | refine spB_f ?_ | refine spB_not ?_ | refine spB_yes (by assumption) ?_ | refine spB_no (by assumption) ?_
    | (with_reducible refine spB_dec ?_ ?_ <;> intro _ <;> (try (exfalso; first | contradiction | omega | (rename_i hz; refine hz ?_; simp; done) | (rename_i hz; simp at hz; done) | (simp only [LN] at *; omega))))
    | (with_reducible refine spB_beq ?_ ?_ <;> intro _ <;> (try (exfalso; first | contradiction | omega | (rename_i hz; refine hz ?_; simp; done) | (rename_i hz; simp at hz; done) | (simp only [LN] at *; omega))))
    | (with_reducible refine spB_bne ?_ ?_ <;> intro _ <;> (try (exfalso; first | contradiction | omega | (rename_i hz; refine hz ?_; simp; done) | (rename_i hz; simp at hz; done) | (simp only [LN] at *; omega))))
    | (with_reducible refine spB_mk ?_ ?_ <;> intro _ <;> (try (exfalso; first | contradiction | omega | (rename_i hz; refine hz ?_; simp; done) | (rename_i hz; simp at hz; done) | (simp only [LN] at *; omega))))
    | (refine Z.updN.mk ⟨_, rfl, ?_⟩)
    | (refine Z.lookN.mk ⟨_, _, rfl, ?_⟩)
    | with_reducible first | refine Z.callZ_mfa ?_
    | ((refine sl3N_mk 0 1 1 rfl rfl rfl ?_ ?_ ?_ ?_ ?_); (iterate 4 (focus (first | exact .inl rfl | ((try simp only [LN] at *) <;> omega)))))
    | ((refine sl3N_mk 0 8 8 rfl rfl rfl ?_ ?_ ?_ ?_ ?_); (iterate 4 (focus (first | exact .inl rfl | ((try simp only [LN] at *) <;> omega)))))
    | ((with_reducible refine Z.slN_lo 1 ?_ ?_ ?_); (focus rfl); (focus ((try simp only [LN] at *) <;> omega)))
    | ((with_reducible refine Z.slN_lo 8 ?_ ?_ ?_); (focus rfl); (focus ((try simp only [LN] at *) <;> omega)))
    | (refine loopZ_unr1 tabOk rfl ?_)
    | ((with_reducible refine wr_shl8 ?_ ?_); (focus omega))
    | ((with_reducible refine wr_or0 ?_ ?_); (focus omega))
    | with_reducible first | refine rowN_mk _ rfl ?_
    | (refine wr_mk (IntKind.i64.wrap (numR (r.take 8))) rfl ?_)
    | ((with_reducible refine posE_pos ?_ ?_); (focus ((try simp only [LN] at *) <;> omega)))
    | ((with_reducible refine posE_nil ?_ ?_); (focus rfl))
    | ((with_reducible apply rowN_mk); (focus rfl))
    | ((with_reducible apply ixN_lit); (focus (exact rfl)); (focus (exact rfl)))
    | ((with_reducible apply ixN_litp); (focus (exact rfl)); (focus ((try simp only [LN] at *) <;> omega)))
    | ((with_reducible refine eqN_mk2 ?_ ?_); (focus rfl))
    | ((with_reducible refine posN_mk2 ?_ ?_); (focus (first | decide | ((try simp only [LN] at *) <;> omega))))
    | ((with_reducible refine apdE_r ?_); (with_reducible refine aprN.mk ⟨_, rfl, ?_⟩ ?_ ?_ ?_ ?_); (focus ((try simp only [LN] at *) <;> omega)); (focus (first | rfl | (simp; done) | ((try simp only [LN] at *) <;> omega))); (focus (first | exact one_all (by rfl) | exact one_map (fun _ => rfl) | exact one_map2 (fun _ => rfl) | exact one_drop (fun _ => rfl))); (focus ((try simp only [LN] at *) <;> omega)))
    | ((with_reducible refine apdE_k ?_); (with_reducible refine apkN.mk ⟨_, rfl, ?_⟩ ?_); (focus ((try simp only [LN] at *) <;> omega)))
    | with_reducible first | refine apdE_n ?_
    | ((with_reducible refine slE_a ?_ ?_); (focus ((try simp only [LN] at *) <;> omega)))
    | ((with_reducible refine slE_b ?_ ?_); (focus ((try simp only [LN] at *) <;> omega)))
    | ((with_reducible refine slE_split ?_ ?_ ?_); (focus ((try simp only [LN] at *) <;> omega)); (all_goals intro _))
    | ((with_reducible apply sl3N_mk); (focus (exact rfl)); (focus (exact rfl)); (focus (exact rfl)); (focus ((try simp only [LN] at *) <;> omega)); (focus ((try simp only [LN] at *) <;> omega)); (focus ((try simp only [LN] at *) <;> omega)); (focus ((try simp only [LN] at *) <;> omega)))
    | ((with_reducible refine apdN.mk ?_ ?_ ?_ ?_ ?_ ?_); (focus (first | rfl | (simp; done))); (focus (first | exact one_all (by rfl) | exact one_map (fun _ => rfl) | exact one_map2 (fun _ => rfl))); (focus ((try simp only [LN] at *) <;> omega)); (focus ((try simp only [LN] at *) <;> omega)); (focus ((try simp only [LN] at *) <;> omega)))
    | with_reducible refine wr_i64 (by first | omega | (simp only [LN] at *; omega)) ?_
    | with_reducible refine wr_u64 (by omega) ?_
    | with_reducible refine wr_u8 (by omega) ?_
    | with_reducible refine wr_u32 (by omega) ?_
    | with_reducible first | refine wr_mk _ rfl ?_
    | ((with_reducible refine ixN_nat ?_ ?_); (focus ((try simp only [LN] at *) <;> omega)))
    | ((with_reducible refine rowN_map ?_ ?_); (focus ((try simp only [LN] at *) <;> omega)); intro x hx)
    | ((with_reducible refine posE_nil (by rfl) ?_))
    | ((with_reducible refine posE_pos (by decide) ?_))
    | with_reducible refine vN_mod (by omega) ?_
    | with_reducible first | refine vN_mk ?_
    | with_reducible refine nzN_mk (by omega) ?_
    | with_reducible refine eqN_dec (by omega) ?_
    | with_reducible first | refine apN_mk (by kernel_rfl) ?_ | refine Z.callZ_in tabOk 38 Try.f42 _ Try.func42 (by kernel_rfl) rfl rfl rfl ?_ | refine Z.callZ_in tabOk 20 Try.f43 _ Try.func43 (by kernel_rfl) rfl rfl rfl ?_ | refine Z.callZ_in tabOk 5 Try.f44 _ Try.func44 (by kernel_rfl) rfl rfl rfl ?_ | refine Z.callZ_in tabOk 18 Try.f47 _ Try.func47 (by kernel_rfl) rfl rfl rfl ?_ | refine Z.callZ_in tabOk 10 Try.f35 _ Try.func35 (by kernel_rfl) rfl rfl rfl ?_ | refine Z.callZ_in tabOk 5 Try.f49 _ Try.func49 (by kernel_rfl) rfl rfl rfl ?_ | refine Z.callZ_in tabOk 10 Try.f41 _ Try.func41 (by kernel_rfl) rfl rfl rfl ?_ | refine Z.callZ_in tabOk 58 Try.f46 _ Try.func46 (by kernel_rfl) rfl rfl rfl ?_ | refine Z.callZ_in tabOk 18 Try.f48 _ Try.func48 (by kernel_rfl) rfl rfl rfl ?_ | refine Z.callZ_in tabOk 6 Try.f33 _ Try.func33 (by kernel_rfl) rfl rfl rfl ?_
    | ((first | (with_reducible refine Z.conZ_mz ?_ (ce) ?_) | (with_reducible refine Z.callZ_mk ?_ (ce) ?_)); (focus ((repeat' (first | exact trivial | exact rfl | exact Z.low_nil | exact Z.low_nil2 | exact low_osl (fun _ => rfl) | (refine Z.low_osln ?_ (fun _ => rfl); (simp only [List.length_map]; done)) | exact low_oslr (fun _ => rfl) | exact Z.low_gslm (by first | rfl | exact Z.kb_some rfl) (fun _ => rfl) | exact .inl rfl | exact .inr ⟨_, rfl⟩ | apply And.intro)); done)))
    | ((with_reducible refine eqN_mk2 ?_ ?_); (focus (exact Z.kb_some rfl)))
    | ((with_reducible apply ex_and); exact rfl)
    | with_reducible first | refine Z.drawZ_rule tabOk mixOk ?_ | refine Z.apZ_mk (by kernel_rfl) ?_
    | ((with_reducible refine Z.ConZ.red ?_); (try subst hlb); (apply Z.conZ_all); (focus (repeat (first | exact Z.FK.nil | (apply Z.FK.keep; exact rfl)))); (focus rfl); (focus rfl); (focus (repeat (first | exact trivial | (refine ⟨(fun o ho => (by first | (cases ho; rfl) | (cases ho; exact Z.inL_map fun _ => rfl) | (cases ho; exact Z.inL_mapr fun _ => rfl) | exact Z.inL_gB ho fun _ => rfl)), ?_⟩)))))
    | ((refine ⟨rfl, ?_, rfl⟩); (focus (repeat (first | exact Z.DK.nil | apply Z.DK.cons))))
    | (focus (exact (rfl : Nat.ble _ _ = true))))
  all_goals (try (conv => whnf))
  all_goals try (show Nat.ble _ _ = true; rfl)
  all_goals try (exfalso; rename_i hz; cases hz; done)
  all_goals try (exfalso; (try simp only [LN] at *) <;> omega)
  all_goals first
    | exact hQ _ _ _ rfl rfl
    | (exfalso; rename_i hz; cases hz; done)
    | (exfalso; (try simp only [LN] at *) <;> omega)
    | (fail)
end Go.Proofs.Ytpnfogckdceiaaa
namespace Go.Proofs.Ytpnfogckdceiaaa
open Go Go.RowKit Wx
set_option linter.unusedVariables false
set_option linter.unusedSimpArgs false
set_option maxHeartbeats 40000000
theorem dec_x (b : List Int) (N i : Nat) (acc : List El) (kd : Int) (r : List Int) (hB : isB (kd :: r)) (hL : ((kd :: r) : List Int).length ≤ 1099511627776) (HC : acc.length = i) (HD : decN N b = preD acc (decN (N - i) (kd :: r))) (hi : i < N) (hN : N ≤ 200) (hk1 : kd ≠ 1) (hk2 : kd ≠ 2) (hk3 : kd ≠ 3) {Q : Exit → Z.S → Prop} (hQ : ∀ F' K' t', Wx.get F' 4 = some (.val (.slice none 0 0)) → Wx.get F' 5 = some (.val (.int .i64 151)) → Q .ret ⟨F', K', t'⟩) : Z.codeZ Try.prog tab 56 4 none (lbody Try.f34) ⟨dCH (i, (kd :: r), acc) ++ dFk N, dCK (i, (kd :: r), acc) ++ dKk, 7⟩ (loopPost (dRnd b N (i, (kd :: r), acc)) Q) := by
  dsimp only [dCH, dFk, dCK, dKk, dRnd]
  have hb_kd := hB kd (by simp)
  have hBr : isB r := fun x hx => hB x (by simp [hx])
  repeat' ((conv => whnf); first
    | with_reducible first | refine spB_t ?_
    | ((with_reducible apply spB_cong); (focus (simp only [beq_self_eq_true, bne_self_eq_false, Bool.true_bne, Bool.false_bne, Bool.bne_true, Bool.bne_false, Bool.true_beq, Bool.false_beq, Bool.not_true, Bool.not_false, Bool.not_not, Int.reduceBEq, Int.reduceBNe, Int.reduceLE, Int.reduceLT, Int.reduceEq, decide_true, decide_false]; rfl)))
    | with_reducible first | refine spB_yes (by decide) ?_ | refine spB_no (by decide) ?_ | refine spB_f ?_ | refine spB_not ?_ | refine spB_yes (by assumption) ?_ | refine spB_no (by assumption) ?_
    | (with_reducible refine spB_dec ?_ ?_ <;> intro _ <;> (try (exfalso; first | contradiction | omega | (rename_i hz; refine hz ?_; simp; done) | (rename_i hz; simp at hz; done) | (simp only [LN] at *; omega))))
    | (with_reducible refine spB_beq ?_ ?_ <;> intro _ <;> (try (exfalso; first | contradiction | omega | (rename_i hz; refine hz ?_; simp; done) | (rename_i hz; simp at hz; done) | (simp only [LN] at *; omega))))
    | (with_reducible refine spB_bne ?_ ?_ <;> intro _ <;> (try (exfalso; first | contradiction | omega | (rename_i hz; refine hz ?_; simp; done) | (rename_i hz; simp at hz; done) | (simp only [LN] at *; omega))))
    | (with_reducible refine spB_mk ?_ ?_ <;> intro _ <;> (try (exfalso; first | contradiction | omega | (rename_i hz; refine hz ?_; simp; done) | (rename_i hz; simp at hz; done) | (simp only [LN] at *; omega))))
    | (refine Z.updN.mk ⟨_, rfl, ?_⟩)
    | (refine Z.lookN.mk ⟨_, _, rfl, ?_⟩)
    | with_reducible first | refine Z.callZ_mfa ?_
    | ((refine sl3N_mk 0 1 1 rfl rfl rfl ?_ ?_ ?_ ?_ ?_); (iterate 4 (focus (first | exact .inl rfl | ((try simp only [LN] at *) <;> omega)))))
    | ((refine sl3N_mk 0 8 8 rfl rfl rfl ?_ ?_ ?_ ?_ ?_); (iterate 4 (focus (first | exact .inl rfl | ((try simp only [LN] at *) <;> omega)))))
    | ((with_reducible refine Z.slN_lo 1 ?_ ?_ ?_); (focus rfl); (focus ((try simp only [LN] at *) <;> omega)))
    | ((with_reducible refine Z.slN_lo 8 ?_ ?_ ?_); (focus rfl); (focus ((try simp only [LN] at *) <;> omega)))
    | (refine loopZ_unr1 tabOk rfl ?_)
    | ((with_reducible refine wr_shl8 ?_ ?_); (focus omega))
    | ((with_reducible refine wr_or0 ?_ ?_); (focus omega))
    | with_reducible first | refine rowN_mk _ rfl ?_
    | (refine lookN_none hk1 hk2 hk3 ?_)
    | (refine wr_mk (IntKind.i64.wrap (numR (r.take 8))) rfl ?_)
    | ((with_reducible refine posE_pos ?_ ?_); (focus ((try simp only [LN] at *) <;> omega)))
    | ((with_reducible refine posE_nil ?_ ?_); (focus rfl))
    | ((with_reducible apply rowN_mk); (focus rfl))
    | ((with_reducible apply ixN_lit); (focus (exact rfl)); (focus (exact rfl)))
    | ((with_reducible apply ixN_litp); (focus (exact rfl)); (focus ((try simp only [LN] at *) <;> omega)))
    | ((with_reducible refine eqN_mk2 ?_ ?_); (focus rfl))
    | ((with_reducible refine posN_mk2 ?_ ?_); (focus (first | decide | ((try simp only [LN] at *) <;> omega))))
    | ((with_reducible refine apdE_r ?_); (with_reducible refine aprN.mk ⟨_, rfl, ?_⟩ ?_ ?_ ?_ ?_); (focus ((try simp only [LN] at *) <;> omega)); (focus (first | rfl | (simp; done) | ((try simp only [LN] at *) <;> omega))); (focus (first | exact one_all (by rfl) | exact one_map (fun _ => rfl) | exact one_map2 (fun _ => rfl) | exact one_drop (fun _ => rfl))); (focus ((try simp only [LN] at *) <;> omega)))
    | ((with_reducible refine apdE_k ?_); (with_reducible refine apkN.mk ⟨_, rfl, ?_⟩ ?_); (focus ((try simp only [LN] at *) <;> omega)))
    | with_reducible first | refine apdE_n ?_
    | ((with_reducible refine slE_a ?_ ?_); (focus ((try simp only [LN] at *) <;> omega)))
    | ((with_reducible refine slE_b ?_ ?_); (focus ((try simp only [LN] at *) <;> omega)))
    | ((with_reducible refine slE_split ?_ ?_ ?_); (focus ((try simp only [LN] at *) <;> omega)); (all_goals intro _))
    | ((with_reducible apply sl3N_mk); (focus (exact rfl)); (focus (exact rfl)); (focus (exact rfl)); (focus ((try simp only [LN] at *) <;> omega)); (focus ((try simp only [LN] at *) <;> omega)); (focus ((try simp only [LN] at *) <;> omega)); (focus ((try simp only [LN] at *) <;> omega)))
    | ((with_reducible refine apdN.mk ?_ ?_ ?_ ?_ ?_ ?_); (focus (first | rfl | (simp; done))); (focus (first | exact one_all (by rfl) | exact one_map (fun _ => rfl) | exact one_map2 (fun _ => rfl))); (focus ((try simp only [LN] at *) <;> omega)); (focus ((try simp only [LN] at *) <;> omega)); (focus ((try simp only [LN] at *) <;> omega)))
    | with_reducible refine wr_i64 (by first | omega | (simp only [LN] at *; omega)) ?_
    | with_reducible refine wr_u64 (by omega) ?_
    | with_reducible refine wr_u8 (by omega) ?_
    | with_reducible refine wr_u32 (by omega) ?_
    | with_reducible first | refine wr_mk _ rfl ?_
    | ((with_reducible refine ixN_nat ?_ ?_); (focus ((try simp only [LN] at *) <;> omega)))
    | ((with_reducible refine rowN_map ?_ ?_); (focus ((try simp only [LN] at *) <;> omega)); intro x hx)
    | ((with_reducible refine posE_nil (by rfl) ?_))
    | ((with_reducible refine posE_pos (by decide) ?_))
    | with_reducible refine vN_mod (by omega) ?_
    | with_reducible first | refine vN_mk ?_
    | with_reducible refine nzN_mk (by omega) ?_
    | with_reducible refine eqN_dec (by omega) ?_
    | with_reducible first | refine apN_mk (by kernel_rfl) ?_ | refine Z.callZ_in tabOk 38 Try.f42 _ Try.func42 (by kernel_rfl) rfl rfl rfl ?_ | refine Z.callZ_in tabOk 20 Try.f43 _ Try.func43 (by kernel_rfl) rfl rfl rfl ?_ | refine Z.callZ_in tabOk 5 Try.f44 _ Try.func44 (by kernel_rfl) rfl rfl rfl ?_ | refine Z.callZ_in tabOk 18 Try.f47 _ Try.func47 (by kernel_rfl) rfl rfl rfl ?_ | refine Z.callZ_in tabOk 10 Try.f35 _ Try.func35 (by kernel_rfl) rfl rfl rfl ?_ | refine Z.callZ_in tabOk 5 Try.f49 _ Try.func49 (by kernel_rfl) rfl rfl rfl ?_ | refine Z.callZ_in tabOk 10 Try.f41 _ Try.func41 (by kernel_rfl) rfl rfl rfl ?_ | refine Z.callZ_in tabOk 58 Try.f46 _ Try.func46 (by kernel_rfl) rfl rfl rfl ?_ | refine Z.callZ_in tabOk 18 Try.f48 _ Try.func48 (by kernel_rfl) rfl rfl rfl ?_ | refine Z.callZ_in tabOk 6 Try.f33 _ Try.func33 (by kernel_rfl) rfl rfl rfl ?_
    | ((first | (with_reducible refine Z.conZ_mz ?_ (ce) ?_) | (with_reducible refine Z.callZ_mk ?_ (ce) ?_)); (focus ((repeat' (first | exact trivial | exact rfl | exact Z.low_nil | exact Z.low_nil2 | exact low_osl (fun _ => rfl) | (refine Z.low_osln ?_ (fun _ => rfl); (simp only [List.length_map]; done)) | exact low_oslr (fun _ => rfl) | exact Z.low_gslm (by first | rfl | exact Z.kb_some rfl) (fun _ => rfl) | exact .inl rfl | exact .inr ⟨_, rfl⟩ | apply And.intro)); done)))
    | ((with_reducible refine eqN_mk2 ?_ ?_); (focus (exact Z.kb_some rfl)))
    | ((with_reducible apply ex_and); exact rfl)
    | with_reducible first | refine Z.drawZ_rule tabOk mixOk ?_ | refine Z.apZ_mk (by kernel_rfl) ?_
    | ((with_reducible refine Z.ConZ.red ?_); (try subst hlb); (apply Z.conZ_all); (focus (repeat (first | exact Z.FK.nil | (apply Z.FK.keep; exact rfl)))); (focus rfl); (focus rfl); (focus (repeat (first | exact trivial | (refine ⟨(fun o ho => (by first | (cases ho; rfl) | (cases ho; exact Z.inL_map fun _ => rfl) | (cases ho; exact Z.inL_mapr fun _ => rfl) | exact Z.inL_gB ho fun _ => rfl)), ?_⟩)))))
    | ((refine ⟨rfl, ?_, rfl⟩); (focus (repeat (first | exact Z.DK.nil | apply Z.DK.cons))))
    | (focus (exact (rfl : Nat.ble _ _ = true))))
  all_goals (try (conv => whnf))
  all_goals try (show Nat.ble _ _ = true; rfl)
  all_goals try (exfalso; rename_i hz; cases hz; done)
  all_goals try (exfalso; (try simp only [LN] at *) <;> omega)
  all_goals first
    | exact hQ _ _ _ rfl rfl
    | (exfalso; rename_i hz; cases hz; done)
    | (exfalso; (try simp only [LN] at *) <;> omega)
    | (fail)
end Go.Proofs.Ytpnfogckdceiaaa
namespace Go.Proofs.Ytpnfogckdceiaaa
open Go Go.RowKit Wx
set_option linter.unusedVariables false
set_option linter.unusedSimpArgs false
set_option maxHeartbeats 40000000
theorem dec_r0 (b : List Int) (N i : Nat) (acc : List El)  (hB : isB [1]) (hL : ([1] : List Int).length ≤ 1099511627776) (HC : acc.length = i) (HD : decN N b = preD acc (decN (N - i) [1])) (hi : i < N) (hN : N ≤ 200)  {Q : Exit → Z.S → Prop} (hQ : ∀ F' K' t', Wx.get F' 4 = some (.val (.slice none 0 0)) → Wx.get F' 5 = some (.val (.int .i64 7)) → Q .ret ⟨F', K', t'⟩) : Z.codeZ Try.prog tab 56 4 none (lbody Try.f34) ⟨dCH (i, [1], acc) ++ dFk N, dCK (i, [1], acc) ++ dKk, 7⟩ (loopPost (dRnd b N (i, [1], acc)) Q) := by
  dsimp only [dCH, dFk, dCK, dKk, dRnd]
  repeat' ((conv => whnf); first
    | with_reducible first | refine spB_t ?_
    | ((with_reducible apply spB_cong); (focus (simp only [beq_self_eq_true, bne_self_eq_false, Bool.true_bne, Bool.false_bne, Bool.bne_true, Bool.bne_false, Bool.true_beq, Bool.false_beq, Bool.not_true, Bool.not_false, Bool.not_not, Int.reduceBEq, Int.reduceBNe, Int.reduceLE, Int.reduceLT, Int.reduceEq, decide_true, decide_false]; rfl)))
    | with_reducible first | refine spB_yes (by decide) ?_ | refine spB_no (by decide) ?_ | refine spB_f ?_ | refine spB_not ?_ | refine spB_yes (by assumption) ?_ | refine spB_no (by assumption) ?_
    | (with_reducible refine spB_dec ?_ ?_ <;> intro _ <;> (try (exfalso; first | contradiction | omega | (rename_i hz; refine hz ?_; simp; done) | (rename_i hz; simp at hz; done) | (simp only [LN] at *; omega))))
    | (with_reducible refine spB_beq ?_ ?_ <;> intro _ <;> (try (exfalso; first | contradiction | omega | (rename_i hz; refine hz ?_; simp; done) | (rename_i hz; simp at hz; done) | (simp only [LN] at *; omega))))
    | (with_reducible refine spB_bne ?_ ?_ <;> intro _ <;> (try (exfalso; first | contradiction | omega | (rename_i hz; refine hz ?_; simp; done) | (rename_i hz; simp at hz; done) | (simp only [LN] at *; omega))))
    | (with_reducible refine spB_mk ?_ ?_ <;> intro _ <;> (try (exfalso; first | contradiction | omega | (rename_i hz; refine hz ?_; simp; done) | (rename_i hz; simp at hz; done) | (simp only [LN] at *; omega))))
    | (refine Z.updN.mk ⟨_, rfl, ?_⟩)
    | (refine Z.lookN.mk ⟨_, _, rfl, ?_⟩)
    | with_reducible first | refine Z.callZ_mfa ?_
    | ((refine sl3N_mk 0 1 1 rfl rfl rfl ?_ ?_ ?_ ?_ ?_); (iterate 4 (focus (first | exact .inl rfl | ((try simp only [LN] at *) <;> omega)))))
    | ((refine sl3N_mk 0 8 8 rfl rfl rfl ?_ ?_ ?_ ?_ ?_); (iterate 4 (focus (first | exact .inl rfl | ((try simp only [LN] at *) <;> omega)))))
    | ((with_reducible refine Z.slN_lo 1 ?_ ?_ ?_); (focus rfl); (focus ((try simp only [LN] at *) <;> omega)))
    | ((with_reducible refine Z.slN_lo 8 ?_ ?_ ?_); (focus rfl); (focus ((try simp only [LN] at *) <;> omega)))
    | (refine loopZ_unr1 tabOk rfl ?_)
    | ((with_reducible refine wr_shl8 ?_ ?_); (focus omega))
    | ((with_reducible refine wr_or0 ?_ ?_); (focus omega))
    | with_reducible first | refine rowN_mk _ rfl ?_
    | (refine wr_mk (IntKind.i64.wrap (numR (r.take 8))) rfl ?_)
    | ((with_reducible refine posE_pos ?_ ?_); (focus ((try simp only [LN] at *) <;> omega)))
    | ((with_reducible refine posE_nil ?_ ?_); (focus rfl))
    | ((with_reducible apply rowN_mk); (focus rfl))
    | ((with_reducible apply ixN_lit); (focus (exact rfl)); (focus (exact rfl)))
    | ((with_reducible apply ixN_litp); (focus (exact rfl)); (focus ((try simp only [LN] at *) <;> omega)))
    | ((with_reducible refine eqN_mk2 ?_ ?_); (focus rfl))
    | ((with_reducible refine posN_mk2 ?_ ?_); (focus (first | decide | ((try simp only [LN] at *) <;> omega))))
    | ((with_reducible refine apdE_r ?_); (with_reducible refine aprN.mk ⟨_, rfl, ?_⟩ ?_ ?_ ?_ ?_); (focus ((try simp only [LN] at *) <;> omega)); (focus (first | rfl | (simp; done) | ((try simp only [LN] at *) <;> omega))); (focus (first | exact one_all (by rfl) | exact one_map (fun _ => rfl) | exact one_map2 (fun _ => rfl) | exact one_drop (fun _ => rfl))); (focus ((try simp only [LN] at *) <;> omega)))
    | ((with_reducible refine apdE_k ?_); (with_reducible refine apkN.mk ⟨_, rfl, ?_⟩ ?_); (focus ((try simp only [LN] at *) <;> omega)))
    | with_reducible first | refine apdE_n ?_
    | ((with_reducible refine slE_a ?_ ?_); (focus ((try simp only [LN] at *) <;> omega)))
    | ((with_reducible refine slE_b ?_ ?_); (focus ((try simp only [LN] at *) <;> omega)))
    | ((with_reducible refine slE_split ?_ ?_ ?_); (focus ((try simp only [LN] at *) <;> omega)); (all_goals intro _))
    | ((with_reducible apply sl3N_mk); (focus (exact rfl)); (focus (exact rfl)); (focus (exact rfl)); (focus ((try simp only [LN] at *) <;> omega)); (focus ((try simp only [LN] at *) <;> omega)); (focus ((try simp only [LN] at *) <;> omega)); (focus ((try simp only [LN] at *) <;> omega)))
    | ((with_reducible refine apdN.mk ?_ ?_ ?_ ?_ ?_ ?_); (focus (first | rfl | (simp; done))); (focus (first | exact one_all (by rfl) | exact one_map (fun _ => rfl) | exact one_map2 (fun _ => rfl))); (focus ((try simp only [LN] at *) <;> omega)); (focus ((try simp only [LN] at *) <;> omega)); (focus ((try simp only [LN] at *) <;> omega)))
    | with_reducible refine wr_i64 (by first | omega | (simp only [LN] at *; omega)) ?_
    | with_reducible refine wr_u64 (by omega) ?_
    | with_reducible refine wr_u8 (by omega) ?_
    | with_reducible refine wr_u32 (by omega) ?_
    | with_reducible first | refine wr_mk _ rfl ?_
    | ((with_reducible refine ixN_nat ?_ ?_); (focus ((try simp only [LN] at *) <;> omega)))
    | ((with_reducible refine rowN_map ?_ ?_); (focus ((try simp only [LN] at *) <;> omega)); intro x hx)
    | ((with_reducible refine posE_nil (by rfl) ?_))
    | ((with_reducible refine posE_pos (by decide) ?_))
    | with_reducible refine vN_mod (by omega) ?_
    | with_reducible first | refine vN_mk ?_
    | with_reducible refine nzN_mk (by omega) ?_
    | with_reducible refine eqN_dec (by omega) ?_
    | with_reducible first | refine apN_mk (by kernel_rfl) ?_ | refine Z.callZ_in tabOk 38 Try.f42 _ Try.func42 (by kernel_rfl) rfl rfl rfl ?_ | refine Z.callZ_in tabOk 20 Try.f43 _ Try.func43 (by kernel_rfl) rfl rfl rfl ?_ | refine Z.callZ_in tabOk 5 Try.f44 _ Try.func44 (by kernel_rfl) rfl rfl rfl ?_ | refine Z.callZ_in tabOk 18 Try.f47 _ Try.func47 (by kernel_rfl) rfl rfl rfl ?_ | refine Z.callZ_in tabOk 10 Try.f35 _ Try.func35 (by kernel_rfl) rfl rfl rfl ?_ | refine Z.callZ_in tabOk 5 Try.f49 _ Try.func49 (by kernel_rfl) rfl rfl rfl ?_ | refine Z.callZ_in tabOk 10 Try.f41 _ Try.func41 (by kernel_rfl) rfl rfl rfl ?_ | refine Z.callZ_in tabOk 58 Try.f46 _ Try.func46 (by kernel_rfl) rfl rfl rfl ?_ | refine Z.callZ_in tabOk 18 Try.f48 _ Try.func48 (by kernel_rfl) rfl rfl rfl ?_ | refine Z.callZ_in tabOk 6 Try.f33 _ Try.func33 (by kernel_rfl) rfl rfl rfl ?_
    | ((first | (with_reducible refine Z.conZ_mz ?_ (ce) ?_) | (with_reducible refine Z.callZ_mk ?_ (ce) ?_)); (focus ((repeat' (first | exact trivial | exact rfl | exact Z.low_nil | exact Z.low_nil2 | exact low_osl (fun _ => rfl) | (refine Z.low_osln ?_ (fun _ => rfl); (simp only [List.length_map]; done)) | exact low_oslr (fun _ => rfl) | exact Z.low_gslm (by first | rfl | exact Z.kb_some rfl) (fun _ => rfl) | exact .inl rfl | exact .inr ⟨_, rfl⟩ | apply And.intro)); done)))
    | ((with_reducible refine eqN_mk2 ?_ ?_); (focus (exact Z.kb_some rfl)))
    | ((with_reducible apply ex_and); exact rfl)
    | with_reducible first | refine Z.drawZ_rule tabOk mixOk ?_ | refine Z.apZ_mk (by kernel_rfl) ?_
    | ((with_reducible refine Z.ConZ.red ?_); (try subst hlb); (apply Z.conZ_all); (focus (repeat (first | exact Z.FK.nil | (apply Z.FK.keep; exact rfl)))); (focus rfl); (focus rfl); (focus (repeat (first | exact trivial | (refine ⟨(fun o ho => (by first | (cases ho; rfl) | (cases ho; exact Z.inL_map fun _ => rfl) | (cases ho; exact Z.inL_mapr fun _ => rfl) | exact Z.inL_gB ho fun _ => rfl)), ?_⟩)))))
    | ((refine ⟨rfl, ?_, rfl⟩); (focus (repeat (first | exact Z.DK.nil | apply Z.DK.cons))))
    | (focus (exact (rfl : Nat.ble _ _ = true))))
  all_goals (try (conv => whnf))
  all_goals try (show Nat.ble _ _ = true; rfl)
  all_goals try (exfalso; rename_i hz; cases hz; done)
  all_goals try (exfalso; (try simp only [LN] at *) <;> omega)
  all_goals first
    | exact hQ _ _ _ rfl rfl
    | (exfalso; rename_i hz; cases hz; done)
    | (exfalso; (try simp only [LN] at *) <;> omega)
    | (fail)
end Go.Proofs.Ytpnfogckdceiaaa
namespace Go.Proofs.Ytpnfogckdceiaaa
open Go Go.RowKit Wx
set_option linter.unusedVariables false
set_option linter.unusedSimpArgs false
set_option maxHeartbeats 40000000
theorem dec_r1 (b : List Int) (N i : Nat) (acc : List El) (s : Int) (r : List Int) (hB : isB (1 :: s :: r)) (hL : ((1 :: s :: r) : List Int).length ≤ 1099511627776) (HC : acc.length = i) (HD : decN N b = preD acc (decN (N - i) (1 :: s :: r))) (hi : i < N) (hN : N ≤ 200) (hs : 8 ≤ s) {Q : Exit → Z.S → Prop} (hQ : ∀ F' K' t', Wx.get F' 4 = some (.val (.slice none 0 0)) → Wx.get F' 5 = some (.val (.int .i64 151)) → Q .ret ⟨F', K', t'⟩) : Z.codeZ Try.prog tab 56 4 none (lbody Try.f34) ⟨dCH (i, (1 :: s :: r), acc) ++ dFk N, dCK (i, (1 :: s :: r), acc) ++ dKk, 7⟩ (loopPost (dRnd b N (i, (1 :: s :: r), acc)) Q) := by
  dsimp only [dCH, dFk, dCK, dKk, dRnd]
  have hb_s := hB s (by simp)
  have hBr : isB r := fun x hx => hB x (by simp [hx])
  repeat' ((conv => whnf); first
    | with_reducible first | refine spB_t ?_
    | ((with_reducible apply spB_cong); (focus (simp only [beq_self_eq_true, bne_self_eq_false, Bool.true_bne, Bool.false_bne, Bool.bne_true, Bool.bne_false, Bool.true_beq, Bool.false_beq, Bool.not_true, Bool.not_false, Bool.not_not, Int.reduceBEq, Int.reduceBNe, Int.reduceLE, Int.reduceLT, Int.reduceEq, decide_true, decide_false]; rfl)))
    | with_reducible first | refine spB_yes (by decide) ?_ | refine spB_no (by decide) ?_ | refine spB_f ?_ | refine spB_not ?_ | refine spB_yes (by assumption) ?_ | refine spB_no (by assumption) ?_
    | (with_reducible refine spB_dec ?_ ?_ <;> intro _ <;> (try (exfalso; first | contradiction | omega | (rename_i hz; refine hz ?_; simp; done) | (rename_i hz; simp at hz; done) | (simp only [LN] at *; omega))))
    | (with_reducible refine spB_beq ?_ ?_ <;> intro _ <;> (try (exfalso; first | contradiction | omega | (rename_i hz; refine hz ?_; simp; done) | (rename_i hz; simp at hz; done) | (simp only [LN] at *; omega))))
    | (with_reducible refine spB_bne ?_ ?_ <;> intro _ <;> (try (exfalso; first | contradiction | omega | (rename_i hz; refine hz ?_; simp; done) | (rename_i hz; simp at hz; done) | (simp only [LN] at *; omega))))
    | (with_reducible refine spB_mk ?_ ?_ <;> intro _ <;> (try (exfalso; first | contradiction | omega | (rename_i hz; refine hz ?_; simp; done) | (rename_i hz; simp at hz; done) | (simp only [LN] at *; omega))))
    | (refine Z.updN.mk ⟨_, rfl, ?_⟩)
    | (refine Z.lookN.mk ⟨_, _, rfl, ?_⟩)
    | with_reducible first | refine Z.callZ_mfa ?_
    | ((refine sl3N_mk 0 1 1 rfl rfl rfl ?_ ?_ ?_ ?_ ?_); (iterate 4 (focus (first | exact .inl rfl | ((try simp only [LN] at *) <;> omega)))))
    | ((refine sl3N_mk 0 8 8 rfl rfl rfl ?_ ?_ ?_ ?_ ?_); (iterate 4 (focus (first | exact .inl rfl | ((try simp only [LN] at *) <;> omega)))))
    | ((with_reducible refine Z.slN_lo 1 ?_ ?_ ?_); (focus rfl); (focus ((try simp only [LN] at *) <;> omega)))
    | ((with_reducible refine Z.slN_lo 8 ?_ ?_ ?_); (focus rfl); (focus ((try simp only [LN] at *) <;> omega)))
    | (refine loopZ_unr1 tabOk rfl ?_)
    | ((with_reducible refine wr_shl8 ?_ ?_); (focus omega))
    | ((with_reducible refine wr_or0 ?_ ?_); (focus omega))
    | with_reducible first | refine rowN_mk _ rfl ?_
    | (refine wr_mk (IntKind.i64.wrap (numR (r.take 8))) rfl ?_)
    | ((with_reducible refine posE_pos ?_ ?_); (focus ((try simp only [LN] at *) <;> omega)))
    | ((with_reducible refine posE_nil ?_ ?_); (focus rfl))
    | ((with_reducible apply rowN_mk); (focus rfl))
    | ((with_reducible apply ixN_lit); (focus (exact rfl)); (focus (exact rfl)))
    | ((with_reducible apply ixN_litp); (focus (exact rfl)); (focus ((try simp only [LN] at *) <;> omega)))
    | ((with_reducible refine eqN_mk2 ?_ ?_); (focus rfl))
    | ((with_reducible refine posN_mk2 ?_ ?_); (focus (first | decide | ((try simp only [LN] at *) <;> omega))))
    | ((with_reducible refine apdE_r ?_); (with_reducible refine aprN.mk ⟨_, rfl, ?_⟩ ?_ ?_ ?_ ?_); (focus ((try simp only [LN] at *) <;> omega)); (focus (first | rfl | (simp; done) | ((try simp only [LN] at *) <;> omega))); (focus (first | exact one_all (by rfl) | exact one_map (fun _ => rfl) | exact one_map2 (fun _ => rfl) | exact one_drop (fun _ => rfl))); (focus ((try simp only [LN] at *) <;> omega)))
    | ((with_reducible refine apdE_k ?_); (with_reducible refine apkN.mk ⟨_, rfl, ?_⟩ ?_); (focus ((try simp only [LN] at *) <;> omega)))
    | with_reducible first | refine apdE_n ?_
    | ((with_reducible refine slE_a ?_ ?_); (focus ((try simp only [LN] at *) <;> omega)))
    | ((with_reducible refine slE_b ?_ ?_); (focus ((try simp only [LN] at *) <;> omega)))
    | ((with_reducible refine slE_split ?_ ?_ ?_); (focus ((try simp only [LN] at *) <;> omega)); (all_goals intro _))
    | ((with_reducible apply sl3N_mk); (focus (exact rfl)); (focus (exact rfl)); (focus (exact rfl)); (focus ((try simp only [LN] at *) <;> omega)); (focus ((try simp only [LN] at *) <;> omega)); (focus ((try simp only [LN] at *) <;> omega)); (focus ((try simp only [LN] at *) <;> omega)))
    | ((with_reducible refine apdN.mk ?_ ?_ ?_ ?_ ?_ ?_); (focus (first | rfl | (simp; done))); (focus (first | exact one_all (by rfl) | exact one_map (fun _ => rfl) | exact one_map2 (fun _ => rfl))); (focus ((try simp only [LN] at *) <;> omega)); (focus ((try simp only [LN] at *) <;> omega)); (focus ((try simp only [LN] at *) <;> omega)))
    | with_reducible refine wr_i64 (by first | omega | (simp only [LN] at *; omega)) ?_
    | with_reducible refine wr_u64 (by omega) ?_
    | with_reducible refine wr_u8 (by omega) ?_
    | with_reducible refine wr_u32 (by omega) ?_
    | with_reducible first | refine wr_mk _ rfl ?_
    | ((with_reducible refine ixN_nat ?_ ?_); (focus ((try simp only [LN] at *) <;> omega)))
    | ((with_reducible refine rowN_map ?_ ?_); (focus ((try simp only [LN] at *) <;> omega)); intro x hx)
    | ((with_reducible refine posE_nil (by rfl) ?_))
    | ((with_reducible refine posE_pos (by decide) ?_))
    | with_reducible refine vN_mod (by omega) ?_
    | with_reducible first | refine vN_mk ?_
    | with_reducible refine nzN_mk (by omega) ?_
    | with_reducible refine eqN_dec (by omega) ?_
    | with_reducible first | refine apN_mk (by kernel_rfl) ?_ | refine Z.callZ_in tabOk 38 Try.f42 _ Try.func42 (by kernel_rfl) rfl rfl rfl ?_ | refine Z.callZ_in tabOk 20 Try.f43 _ Try.func43 (by kernel_rfl) rfl rfl rfl ?_ | refine Z.callZ_in tabOk 5 Try.f44 _ Try.func44 (by kernel_rfl) rfl rfl rfl ?_ | refine Z.callZ_in tabOk 18 Try.f47 _ Try.func47 (by kernel_rfl) rfl rfl rfl ?_ | refine Z.callZ_in tabOk 10 Try.f35 _ Try.func35 (by kernel_rfl) rfl rfl rfl ?_ | refine Z.callZ_in tabOk 5 Try.f49 _ Try.func49 (by kernel_rfl) rfl rfl rfl ?_ | refine Z.callZ_in tabOk 10 Try.f41 _ Try.func41 (by kernel_rfl) rfl rfl rfl ?_ | refine Z.callZ_in tabOk 58 Try.f46 _ Try.func46 (by kernel_rfl) rfl rfl rfl ?_ | refine Z.callZ_in tabOk 18 Try.f48 _ Try.func48 (by kernel_rfl) rfl rfl rfl ?_ | refine Z.callZ_in tabOk 6 Try.f33 _ Try.func33 (by kernel_rfl) rfl rfl rfl ?_
    | ((first | (with_reducible refine Z.conZ_mz ?_ (ce) ?_) | (with_reducible refine Z.callZ_mk ?_ (ce) ?_)); (focus ((repeat' (first | exact trivial | exact rfl | exact Z.low_nil | exact Z.low_nil2 | exact low_osl (fun _ => rfl) | (refine Z.low_osln ?_ (fun _ => rfl); (simp only [List.length_map]; done)) | exact low_oslr (fun _ => rfl) | exact Z.low_gslm (by first | rfl | exact Z.kb_some rfl) (fun _ => rfl) | exact .inl rfl | exact .inr ⟨_, rfl⟩ | apply And.intro)); done)))
    | ((with_reducible refine eqN_mk2 ?_ ?_); (focus (exact Z.kb_some rfl)))
    | ((with_reducible apply ex_and); exact rfl)
    | with_reducible first | refine Z.drawZ_rule tabOk mixOk ?_ | refine Z.apZ_mk (by kernel_rfl) ?_
    | ((with_reducible refine Z.ConZ.red ?_); (try subst hlb); (apply Z.conZ_all); (focus (repeat (first | exact Z.FK.nil | (apply Z.FK.keep; exact rfl)))); (focus rfl); (focus rfl); (focus (repeat (first | exact trivial | (refine ⟨(fun o ho => (by first | (cases ho; rfl) | (cases ho; exact Z.inL_map fun _ => rfl) | (cases ho; exact Z.inL_mapr fun _ => rfl) | exact Z.inL_gB ho fun _ => rfl)), ?_⟩)))))
    | ((refine ⟨rfl, ?_, rfl⟩); (focus (repeat (first | exact Z.DK.nil | apply Z.DK.cons))))
    | (focus (exact (rfl : Nat.ble _ _ = true))))
  all_goals (try (conv => whnf))
  all_goals try (show Nat.ble _ _ = true; rfl)
  all_goals try (exfalso; rename_i hz; cases hz; done)
  all_goals try (exfalso; (try simp only [LN] at *) <;> omega)
  all_goals first
    | exact hQ _ _ _ rfl rfl
    | (exfalso; rename_i hz; cases hz; done)
    | (exfalso; (try simp only [LN] at *) <;> omega)
    | (fail)
end Go.Proofs.Ytpnfogckdceiaaa
namespace Go.Proofs.Ytpnfogckdceiaaa
open Go Go.RowKit Wx
set_option linter.unusedVariables false
set_option linter.unusedSimpArgs false
set_option maxHeartbeats 40000000
theorem dec_r2 (b : List Int) (N i : Nat) (acc : List El) (s : Int) (hB : isB [1, s]) (hL : ([1, s] : List Int).length ≤ 1099511627776) (HC : acc.length = i) (HD : decN N b = preD acc (decN (N - i) [1, s])) (hi : i < N) (hN : N ≤ 200) (hs : 0 ≤ s ∧ s < 8) {Q : Exit → Z.S → Prop} (hQ : ∀ F' K' t', Wx.get F' 4 = some (.val (.slice none 0 0)) → Wx.get F' 5 = some (.val (.int .i64 7)) → Q .ret ⟨F', K', t'⟩) : Z.codeZ Try.prog tab 56 4 none (lbody Try.f34) ⟨dCH (i, [1, s], acc) ++ dFk N, dCK (i, [1, s], acc) ++ dKk, 7⟩ (loopPost (dRnd b N (i, [1, s], acc)) Q) := by
  dsimp only [dCH, dFk, dCK, dKk, dRnd]
  have hb_s := hB s (by simp)
  repeat' ((conv => whnf); first
    | with_reducible first | refine spB_t ?_
    | ((with_reducible apply spB_cong); (focus (simp only [beq_self_eq_true, bne_self_eq_false, Bool.true_bne, Bool.false_bne, Bool.bne_true, Bool.bne_false, Bool.true_beq, Bool.false_beq, Bool.not_true, Bool.not_false, Bool.not_not, Int.reduceBEq, Int.reduceBNe, Int.reduceLE, Int.reduceLT, Int.reduceEq, decide_true, decide_false]; rfl)))
    | with_reducible first | refine spB_yes (by decide) ?_ | refine spB_no (by decide) ?_ | refine spB_f ?_ | refine spB_not ?_ | refine spB_yes (by assumption) ?_ | refine spB_no (by assumption) ?_
    | (with_reducible refine spB_dec ?_ ?_ <;> intro _ <;> (try (exfalso; first | contradiction | omega | (rename_i hz; refine hz ?_; simp; done) | (rename_i hz; simp at hz; done) | (simp only [LN] at *; omega))))
    | (with_reducible refine spB_beq ?_ ?_ <;> intro _ <;> (try (exfalso; first | contradiction | omega | (rename_i hz; refine hz ?_; simp; done) | (rename_i hz; simp at hz; done) | (simp only [LN] at *; omega))))
    | (with_reducible refine spB_bne ?_ ?_ <;> intro _ <;> (try (exfalso; first | contradiction | omega | (rename_i hz; refine hz ?_; simp; done) | (rename_i hz; simp at hz; done) | (simp only [LN] at *; omega))))
    | (with_reducible refine spB_mk ?_ ?_ <;> intro _ <;> (try (exfalso; first | contradiction | omega | (rename_i hz; refine hz ?_; simp; done) | (rename_i hz; simp at hz; done) | (simp only [LN] at *; omega))))
    | (refine Z.updN.mk ⟨_, rfl, ?_⟩)
    | (refine Z.lookN.mk ⟨_, _, rfl, ?_⟩)
    | with_reducible first | refine Z.callZ_mfa ?_
    | ((refine sl3N_mk 0 1 1 rfl rfl rfl ?_ ?_ ?_ ?_ ?_); (iterate 4 (focus (first | exact .inl rfl | ((try simp only [LN] at *) <;> omega)))))
    | ((refine sl3N_mk 0 8 8 rfl rfl rfl ?_ ?_ ?_ ?_ ?_); (iterate 4 (focus (first | exact .inl rfl | ((try simp only [LN] at *) <;> omega)))))
    | ((with_reducible refine Z.slN_lo 1 ?_ ?_ ?_); (focus rfl); (focus ((try simp only [LN] at *) <;> omega)))
    | ((with_reducible refine Z.slN_lo 8 ?_ ?_ ?_); (focus rfl); (focus ((try simp only [LN] at *) <;> omega)))
    | (refine loopZ_unr1 tabOk rfl ?_)
    | ((with_reducible refine wr_shl8 ?_ ?_); (focus omega))
    | ((with_reducible refine wr_or0 ?_ ?_); (focus omega))
    | with_reducible first | refine rowN_mk _ rfl ?_
    | (refine wr_mk (IntKind.i64.wrap (numR (r.take 8))) rfl ?_)
    | ((with_reducible refine posE_pos ?_ ?_); (focus ((try simp only [LN] at *) <;> omega)))
    | ((with_reducible refine posE_nil ?_ ?_); (focus rfl))
    | ((with_reducible apply rowN_mk); (focus rfl))
    | ((with_reducible apply ixN_lit); (focus (exact rfl)); (focus (exact rfl)))
    | ((with_reducible apply ixN_litp); (focus (exact rfl)); (focus ((try simp only [LN] at *) <;> omega)))
    | ((with_reducible refine eqN_mk2 ?_ ?_); (focus rfl))
    | ((with_reducible refine posN_mk2 ?_ ?_); (focus (first | decide | ((try simp only [LN] at *) <;> omega))))
    | ((with_reducible refine apdE_r ?_); (with_reducible refine aprN.mk ⟨_, rfl, ?_⟩ ?_ ?_ ?_ ?_); (focus ((try simp only [LN] at *) <;> omega)); (focus (first | rfl | (simp; done) | ((try simp only [LN] at *) <;> omega))); (focus (first | exact one_all (by rfl) | exact one_map (fun _ => rfl) | exact one_map2 (fun _ => rfl) | exact one_drop (fun _ => rfl))); (focus ((try simp only [LN] at *) <;> omega)))
    | ((with_reducible refine apdE_k ?_); (with_reducible refine apkN.mk ⟨_, rfl, ?_⟩ ?_); (focus ((try simp only [LN] at *) <;> omega)))
    | with_reducible first | refine apdE_n ?_
    | ((with_reducible refine slE_a ?_ ?_); (focus ((try simp only [LN] at *) <;> omega)))
    | ((with_reducible refine slE_b ?_ ?_); (focus ((try simp only [LN] at *) <;> omega)))
    | ((with_reducible refine slE_split ?_ ?_ ?_); (focus ((try simp only [LN] at *) <;> omega)); (all_goals intro _))
    | ((with_reducible apply sl3N_mk); (focus (exact rfl)); (focus (exact rfl)); (focus (exact rfl)); (focus ((try simp only [LN] at *) <;> omega)); (focus ((try simp only [LN] at *) <;> omega)); (focus ((try simp only [LN] at *) <;> omega)); (focus ((try simp only [LN] at *) <;> omega)))
    | ((with_reducible refine apdN.mk ?_ ?_ ?_ ?_ ?_ ?_); (focus (first | rfl | (simp; done))); (focus (first | exact one_all (by rfl) | exact one_map (fun _ => rfl) | exact one_map2 (fun _ => rfl))); (focus ((try simp only [LN] at *) <;> omega)); (focus ((try simp only [LN] at *) <;> omega)); (focus ((try simp only [LN] at *) <;> omega)))
    | with_reducible refine wr_i64 (by first | omega | (simp only [LN] at *; omega)) ?_
    | with_reducible refine wr_u64 (by omega) ?_
    | with_reducible refine wr_u8 (by omega) ?_
    | with_reducible refine wr_u32 (by omega) ?_
    | with_reducible first | refine wr_mk _ rfl ?_
    | ((with_reducible refine ixN_nat ?_ ?_); (focus ((try simp only [LN] at *) <;> omega)))
    | ((with_reducible refine rowN_map ?_ ?_); (focus ((try simp only [LN] at *) <;> omega)); intro x hx)
    | ((with_reducible refine posE_nil (by rfl) ?_))
    | ((with_reducible refine posE_pos (by decide) ?_))
    | with_reducible refine vN_mod (by omega) ?_
    | with_reducible first | refine vN_mk ?_
    | with_reducible refine nzN_mk (by omega) ?_
    | with_reducible refine eqN_dec (by omega) ?_
    | with_reducible first | refine apN_mk (by kernel_rfl) ?_ | refine Z.callZ_in tabOk 38 Try.f42 _ Try.func42 (by kernel_rfl) rfl rfl rfl ?_ | refine Z.callZ_in tabOk 20 Try.f43 _ Try.func43 (by kernel_rfl) rfl rfl rfl ?_ | refine Z.callZ_in tabOk 5 Try.f44 _ Try.func44 (by kernel_rfl) rfl rfl rfl ?_ | refine Z.callZ_in tabOk 18 Try.f47 _ Try.func47 (by kernel_rfl) rfl rfl rfl ?_ | refine Z.callZ_in tabOk 10 Try.f35 _ Try.func35 (by kernel_rfl) rfl rfl rfl ?_ | refine Z.callZ_in tabOk 5 Try.f49 _ Try.func49 (by kernel_rfl) rfl rfl rfl ?_ | refine Z.callZ_in tabOk 10 Try.f41 _ Try.func41 (by kernel_rfl) rfl rfl rfl ?_ | refine Z.callZ_in tabOk 58 Try.f46 _ Try.func46 (by kernel_rfl) rfl rfl rfl ?_ | refine Z.callZ_in tabOk 18 Try.f48 _ Try.func48 (by kernel_rfl) rfl rfl rfl ?_ | refine Z.callZ_in tabOk 6 Try.f33 _ Try.func33 (by kernel_rfl) rfl rfl rfl ?_
    | ((first | (with_reducible refine Z.conZ_mz ?_ (ce) ?_) | (with_reducible refine Z.callZ_mk ?_ (ce) ?_)); (focus ((repeat' (first | exact trivial | exact rfl | exact Z.low_nil | exact Z.low_nil2 | exact low_osl (fun _ => rfl) | (refine Z.low_osln ?_ (fun _ => rfl); (simp only [List.length_map]; done)) | exact low_oslr (fun _ => rfl) | exact Z.low_gslm (by first | rfl | exact Z.kb_some rfl) (fun _ => rfl) | exact .inl rfl | exact .inr ⟨_, rfl⟩ | apply And.intro)); done)))
    | ((with_reducible refine eqN_mk2 ?_ ?_); (focus (exact Z.kb_some rfl)))
    | ((with_reducible apply ex_and); exact rfl)
    | with_reducible first | refine Z.drawZ_rule tabOk mixOk ?_ | refine Z.apZ_mk (by kernel_rfl) ?_
    | ((with_reducible refine Z.ConZ.red ?_); (try subst hlb); (apply Z.conZ_all); (focus (repeat (first | exact Z.FK.nil | (apply Z.FK.keep; exact rfl)))); (focus rfl); (focus rfl); (focus (repeat (first | exact trivial | (refine ⟨(fun o ho => (by first | (cases ho; rfl) | (cases ho; exact Z.inL_map fun _ => rfl) | (cases ho; exact Z.inL_mapr fun _ => rfl) | exact Z.inL_gB ho fun _ => rfl)), ?_⟩)))))
    | ((refine ⟨rfl, ?_, rfl⟩); (focus (repeat (first | exact Z.DK.nil | apply Z.DK.cons))))
    | (focus (exact (rfl : Nat.ble _ _ = true))))
  all_goals (try (conv => whnf))
  all_goals try (show Nat.ble _ _ = true; rfl)
  all_goals try (exfalso; rename_i hz; cases hz; done)
  all_goals try (exfalso; (try simp only [LN] at *) <;> omega)
  all_goals first
    | exact hQ _ _ _ rfl rfl
    | (exfalso; rename_i hz; cases hz; done)
    | (exfalso; (try simp only [LN] at *) <;> omega)
    | (fail)
end Go.Proofs.Ytpnfogckdceiaaa
namespace Go.Proofs.Ytpnfogckdceiaaa
open Go Go.RowKit Wx
set_option linter.unusedVariables false
set_option linter.unusedSimpArgs false
set_option maxHeartbeats 40000000
theorem dec_r3 (b : List Int) (N i : Nat) (acc : List El) (s k : Int) (r : List Int) (hB : isB (1 :: s :: k :: r)) (hL : ((1 :: s :: k :: r) : List Int).length ≤ 1099511627776) (HC : acc.length = i) (HD : decN N b = preD acc (decN (N - i) (1 :: s :: k :: r))) (hi : i < N) (hN : N ≤ 200) (hs : 0 ≤ s ∧ s < 8) (hk : 32 ≤ k) {Q : Exit → Z.S → Prop} (hQ : ∀ F' K' t', Wx.get F' 4 = some (.val (.slice none 0 0)) → Wx.get F' 5 = some (.val (.int .i64 151)) → Q .ret ⟨F', K', t'⟩) : Z.codeZ Try.prog tab 56 4 none (lbody Try.f34) ⟨dCH (i, (1 :: s :: k :: r), acc) ++ dFk N, dCK (i, (1 :: s :: k :: r), acc) ++ dKk, 7⟩ (loopPost (dRnd b N (i, (1 :: s :: k :: r), acc)) Q) := by
  dsimp only [dCH, dFk, dCK, dKk, dRnd]
  have hb_s := hB s (by simp)
  have hb_k := hB k (by simp)
  have hBr : isB r := fun x hx => hB x (by simp [hx])
  repeat' ((conv => whnf); first
    | with_reducible first | refine spB_t ?_
    | ((with_reducible apply spB_cong); (focus (simp only [beq_self_eq_true, bne_self_eq_false, Bool.true_bne, Bool.false_bne, Bool.bne_true, Bool.bne_false, Bool.true_beq, Bool.false_beq, Bool.not_true, Bool.not_false, Bool.not_not, Int.reduceBEq, Int.reduceBNe, Int.reduceLE, Int.reduceLT, Int.reduceEq, decide_true, decide_false]; rfl)))
    | with_reducible first | refine spB_yes (by decide) ?_ | refine spB_no (by decide) ?_ | refine spB_f ?_ | refine spB_not ?_ | refine spB_yes (by assumption) ?_ | refine spB_no (by assumption) ?_
    | (with_reducible refine spB_dec ?_ ?_ <;> intro _ <;> (try (exfalso; first | contradiction | omega | (rename_i hz; refine hz ?_; simp; done) | (rename_i hz; simp at hz; done) | (simp only [LN] at *; omega))))
    | (with_reducible refine spB_beq ?_ ?_ <;> intro _ <;> (try (exfalso; first | contradiction | omega | (rename_i hz; refine hz ?_; simp; done) | (rename_i hz; simp at hz; done) | (simp only [LN] at *; omega))))
    | (with_reducible refine spB_bne ?_ ?_ <;> intro _ <;> (try (exfalso; first | contradiction | omega | (rename_i hz; refine hz ?_; simp; done) | (rename_i hz; simp at hz; done) | (simp only [LN] at *; omega))))
    | (with_reducible refine spB_mk ?_ ?_ <;> intro _ <;> (try (exfalso; first | contradiction | omega | (rename_i hz; refine hz ?_; simp; done) | (rename_i hz; simp at hz; done) | (simp only [LN] at *; omega))))
    | (refine Z.updN.mk ⟨_, rfl, ?_⟩)
    | (refine Z.lookN.mk ⟨_, _, rfl, ?_⟩)
    | with_reducible first | refine Z.callZ_mfa ?_
    | ((refine sl3N_mk 0 1 1 rfl rfl rfl ?_ ?_ ?_ ?_ ?_); (iterate 4 (focus (first | exact .inl rfl | ((try simp only [LN] at *) <;> omega)))))
    | ((refine sl3N_mk 0 8 8 rfl rfl rfl ?_ ?_ ?_ ?_ ?_); (iterate 4 (focus (first | exact .inl rfl | ((try simp only [LN] at *) <;> omega)))))
    | ((with_reducible refine Z.slN_lo 1 ?_ ?_ ?_); (focus rfl); (focus ((try simp only [LN] at *) <;> omega)))
    | ((with_reducible refine Z.slN_lo 8 ?_ ?_ ?_); (focus rfl); (focus ((try simp only [LN] at *) <;> omega)))
    | (refine loopZ_unr1 tabOk rfl ?_)
    | ((with_reducible refine wr_shl8 ?_ ?_); (focus omega))
    | ((with_reducible refine wr_or0 ?_ ?_); (focus omega))
    | with_reducible first | refine rowN_mk _ rfl ?_
    | (refine wr_mk (IntKind.i64.wrap (numR (r.take 8))) rfl ?_)
    | ((with_reducible refine posE_pos ?_ ?_); (focus ((try simp only [LN] at *) <;> omega)))
    | ((with_reducible refine posE_nil ?_ ?_); (focus rfl))
    | ((with_reducible apply rowN_mk); (focus rfl))
    | ((with_reducible apply ixN_lit); (focus (exact rfl)); (focus (exact rfl)))
    | ((with_reducible apply ixN_litp); (focus (exact rfl)); (focus ((try simp only [LN] at *) <;> omega)))
    | ((with_reducible refine eqN_mk2 ?_ ?_); (focus rfl))
    | ((with_reducible refine posN_mk2 ?_ ?_); (focus (first | decide | ((try simp only [LN] at *) <;> omega))))
    | ((with_reducible refine apdE_r ?_); (with_reducible refine aprN.mk ⟨_, rfl, ?_⟩ ?_ ?_ ?_ ?_); (focus ((try simp only [LN] at *) <;> omega)); (focus (first | rfl | (simp; done) | ((try simp only [LN] at *) <;> omega))); (focus (first | exact one_all (by rfl) | exact one_map (fun _ => rfl) | exact one_map2 (fun _ => rfl) | exact one_drop (fun _ => rfl))); (focus ((try simp only [LN] at *) <;> omega)))
    | ((with_reducible refine apdE_k ?_); (with_reducible refine apkN.mk ⟨_, rfl, ?_⟩ ?_); (focus ((try simp only [LN] at *) <;> omega)))
    | with_reducible first | refine apdE_n ?_
    | ((with_reducible refine slE_a ?_ ?_); (focus ((try simp only [LN] at *) <;> omega)))
    | ((with_reducible refine slE_b ?_ ?_); (focus ((try simp only [LN] at *) <;> omega)))
    | ((with_reducible refine slE_split ?_ ?_ ?_); (focus ((try simp only [LN] at *) <;> omega)); (all_goals intro _))
    | ((with_reducible apply sl3N_mk); (focus (exact rfl)); (focus (exact rfl)); (focus (exact rfl)); (focus ((try simp only [LN] at *) <;> omega)); (focus ((try simp only [LN] at *) <;> omega)); (focus ((try simp only [LN] at *) <;> omega)); (focus ((try simp only [LN] at *) <;> omega)))
    | ((with_reducible refine apdN.mk ?_ ?_ ?_ ?_ ?_ ?_); (focus (first | rfl | (simp; done))); (focus (first | exact one_all (by rfl) | exact one_map (fun _ => rfl) | exact one_map2 (fun _ => rfl))); (focus ((try simp only [LN] at *) <;> omega)); (focus ((try simp only [LN] at *) <;> omega)); (focus ((try simp only [LN] at *) <;> omega)))
    | with_reducible refine wr_i64 (by first | omega | (simp only [LN] at *; omega)) ?_
    | with_reducible refine wr_u64 (by omega) ?_
    | with_reducible refine wr_u8 (by omega) ?_
    | with_reducible refine wr_u32 (by omega) ?_
    | with_reducible first | refine wr_mk _ rfl ?_
    | ((with_reducible refine ixN_nat ?_ ?_); (focus ((try simp only [LN] at *) <;> omega)))
    | ((with_reducible refine rowN_map ?_ ?_); (focus ((try simp only [LN] at *) <;> omega)); intro x hx)
    | ((with_reducible refine posE_nil (by rfl) ?_))
    | ((with_reducible refine posE_pos (by decide) ?_))
    | with_reducible refine vN_mod (by omega) ?_
    | with_reducible first | refine vN_mk ?_
    | with_reducible refine nzN_mk (by omega) ?_
    | with_reducible refine eqN_dec (by omega) ?_
    | with_reducible first | refine apN_mk (by kernel_rfl) ?_ | refine Z.callZ_in tabOk 38 Try.f42 _ Try.func42 (by kernel_rfl) rfl rfl rfl ?_ | refine Z.callZ_in tabOk 20 Try.f43 _ Try.func43 (by kernel_rfl) rfl rfl rfl ?_ | refine Z.callZ_in tabOk 5 Try.f44 _ Try.func44 (by kernel_rfl) rfl rfl rfl ?_ | refine Z.callZ_in tabOk 18 Try.f47 _ Try.func47 (by kernel_rfl) rfl rfl rfl ?_ | refine Z.callZ_in tabOk 10 Try.f35 _ Try.func35 (by kernel_rfl) rfl rfl rfl ?_ | refine Z.callZ_in tabOk 5 Try.f49 _ Try.func49 (by kernel_rfl) rfl rfl rfl ?_ | refine Z.callZ_in tabOk 10 Try.f41 _ Try.func41 (by kernel_rfl) rfl rfl rfl ?_ | refine Z.callZ_in tabOk 58 Try.f46 _ Try.func46 (by kernel_rfl) rfl rfl rfl ?_ | refine Z.callZ_in tabOk 18 Try.f48 _ Try.func48 (by kernel_rfl) rfl rfl rfl ?_ | refine Z.callZ_in tabOk 6 Try.f33 _ Try.func33 (by kernel_rfl) rfl rfl rfl ?_
    | ((first | (with_reducible refine Z.conZ_mz ?_ (ce) ?_) | (with_reducible refine Z.callZ_mk ?_ (ce) ?_)); (focus ((repeat' (first | exact trivial | exact rfl | exact Z.low_nil | exact Z.low_nil2 | exact low_osl (fun _ => rfl) | (refine Z.low_osln ?_ (fun _ => rfl); (simp only [List.length_map]; done)) | exact low_oslr (fun _ => rfl) | exact Z.low_gslm (by first | rfl | exact Z.kb_some rfl) (fun _ => rfl) | exact .inl rfl | exact .inr ⟨_, rfl⟩ | apply And.intro)); done)))
    | ((with_reducible refine eqN_mk2 ?_ ?_); (focus (exact Z.kb_some rfl)))
    | ((with_reducible apply ex_and); exact rfl)
    | with_reducible first | refine Z.drawZ_rule tabOk mixOk ?_ | refine Z.apZ_mk (by kernel_rfl) ?_
    | ((with_reducible refine Z.ConZ.red ?_); (try subst hlb); (apply Z.conZ_all); (focus (repeat (first | exact Z.FK.nil | (apply Z.FK.keep; exact rfl)))); (focus rfl); (focus rfl); (focus (repeat (first | exact trivial | (refine ⟨(fun o ho => (by first | (cases ho; rfl) | (cases ho; exact Z.inL_map fun _ => rfl) | (cases ho; exact Z.inL_mapr fun _ => rfl) | exact Z.inL_gB ho fun _ => rfl)), ?_⟩)))))
    | ((refine ⟨rfl, ?_, rfl⟩); (focus (repeat (first | exact Z.DK.nil | apply Z.DK.cons))))
    | (focus (exact (rfl : Nat.ble _ _ = true))))
  all_goals (try (conv => whnf))
  all_goals try (show Nat.ble _ _ = true; rfl)
  all_goals try (exfalso; rename_i hz; cases hz; done)
  all_goals try (exfalso; (try simp only [LN] at *) <;> omega)
  all_goals first
    | exact hQ _ _ _ rfl rfl
    | (exfalso; rename_i hz; cases hz; done)
    | (exfalso; (try simp only [LN] at *) <;> omega)
    | (fail)
end Go.Proofs.Ytpnfogckdceiaaa
namespace Go.Proofs.Ytpnfogckdceiaaa
open Go Go.RowKit Wx
set_option linter.unusedVariables false
set_option linter.unusedSimpArgs false
set_option maxHeartbeats 40000000
theorem dec_r4 (b : List Int) (N i : Nat) (acc : List El) (s k : Int) (r : List Int) (hB : isB (1 :: s :: k :: r)) (hL : ((1 :: s :: k :: r) : List Int).length ≤ 1099511627776) (HC : acc.length = i) (HD : decN N b = preD acc (decN (N - i) (1 :: s :: k :: r))) (hi : i < N) (hN : N ≤ 200) (hs : 0 ≤ s ∧ s < 8) (hk : 0 ≤ k ∧ k < 32) (h4 : r.length < 8) {Q : Exit → Z.S → Prop} (hQ : ∀ F' K' t', Wx.get F' 4 = some (.val (.slice none 0 0)) → Wx.get F' 5 = some (.val (.int .i64 7)) → Q .ret ⟨F', K', t'⟩) : Z.codeZ Try.prog tab 56 4 none (lbody Try.f34) ⟨dCH (i, (1 :: s :: k :: r), acc) ++ dFk N, dCK (i, (1 :: s :: k :: r), acc) ++ dKk, 7⟩ (loopPost (dRnd b N (i, (1 :: s :: k :: r), acc)) Q) := by
  dsimp only [dCH, dFk, dCK, dKk, dRnd]
  have hb_s := hB s (by simp)
  have hb_k := hB k (by simp)
  have hBr : isB r := fun x hx => hB x (by simp [hx])
  repeat' ((conv => whnf); first
    | with_reducible first | refine spB_t ?_
    | ((with_reducible apply spB_cong); (focus (simp only [beq_self_eq_true, bne_self_eq_false, Bool.true_bne, Bool.false_bne, Bool.bne_true, Bool.bne_false, Bool.true_beq, Bool.false_beq, Bool.not_true, Bool.not_false, Bool.not_not, Int.reduceBEq, Int.reduceBNe, Int.reduceLE, Int.reduceLT, Int.reduceEq, decide_true, decide_false]; rfl)))
    | with_reducible first | refine spB_yes (by decide) ?_ | refine spB_no (by decide) ?_ | refine spB_f ?_ | refine spB_not ?_ | refine spB_yes (by assumption) ?_ | refine spB_no (by assumption) ?_
    | (with_reducible refine spB_dec ?_ ?_ <;> intro _ <;> (try (exfalso; first | contradiction | omega | (rename_i hz; refine hz ?_; simp; done) | (rename_i hz; simp at hz; done) | (simp only [LN] at *; omega))))
    | (with_reducible refine spB_beq ?_ ?_ <;> intro _ <;> (try (exfalso; first | contradiction | omega | (rename_i hz; refine hz ?_; simp; done) | (rename_i hz; simp at hz; done) | (simp only [LN] at *; omega))))
    | (with_reducible refine spB_bne ?_ ?_ <;> intro _ <;> (try (exfalso; first | contradiction | omega | (rename_i hz; refine hz ?_; simp; done) | (rename_i hz; simp at hz; done) | (simp only [LN] at *; omega))))
    | (with_reducible refine spB_mk ?_ ?_ <;> intro _ <;> (try (exfalso; first | contradiction | omega | (rename_i hz; refine hz ?_; simp; done) | (rename_i hz; simp at hz; done) | (simp only [LN] at *; omega))))
    | (refine Z.updN.mk ⟨_, rfl, ?_⟩)
    | (refine Z.lookN.mk ⟨_, _, rfl, ?_⟩)
    | with_reducible first | refine Z.callZ_mfa ?_
    | ((refine sl3N_mk 0 1 1 rfl rfl rfl ?_ ?_ ?_ ?_ ?_); (iterate 4 (focus (first | exact .inl rfl | ((try simp only [LN] at *) <;> omega)))))
    | ((refine sl3N_mk 0 8 8 rfl rfl rfl ?_ ?_ ?_ ?_ ?_); (iterate 4 (focus (first | exact .inl rfl | ((try simp only [LN] at *) <;> omega)))))
    | ((with_reducible refine Z.slN_lo 1 ?_ ?_ ?_); (focus rfl); (focus ((try simp only [LN] at *) <;> omega)))
    | ((with_reducible refine Z.slN_lo 8 ?_ ?_ ?_); (focus rfl); (focus ((try simp only [LN] at *) <;> omega)))
    | (refine loopZ_unr1 tabOk rfl ?_)
    | ((with_reducible refine wr_shl8 ?_ ?_); (focus omega))
    | ((with_reducible refine wr_or0 ?_ ?_); (focus omega))
    | with_reducible first | refine rowN_mk _ rfl ?_
    | (refine wr_mk (IntKind.i64.wrap (numR (r.take 8))) rfl ?_)
    | ((with_reducible refine posE_pos ?_ ?_); (focus ((try simp only [LN] at *) <;> omega)))
    | ((with_reducible refine posE_nil ?_ ?_); (focus rfl))
    | ((with_reducible apply rowN_mk); (focus rfl))
    | ((with_reducible apply ixN_lit); (focus (exact rfl)); (focus (exact rfl)))
    | ((with_reducible apply ixN_litp); (focus (exact rfl)); (focus ((try simp only [LN] at *) <;> omega)))
    | ((with_reducible refine eqN_mk2 ?_ ?_); (focus rfl))
    | ((with_reducible refine posN_mk2 ?_ ?_); (focus (first | decide | ((try simp only [LN] at *) <;> omega))))
    | ((with_reducible refine apdE_r ?_); (with_reducible refine aprN.mk ⟨_, rfl, ?_⟩ ?_ ?_ ?_ ?_); (focus ((try simp only [LN] at *) <;> omega)); (focus (first | rfl | (simp; done) | ((try simp only [LN] at *) <;> omega))); (focus (first | exact one_all (by rfl) | exact one_map (fun _ => rfl) | exact one_map2 (fun _ => rfl) | exact one_drop (fun _ => rfl))); (focus ((try simp only [LN] at *) <;> omega)))
    | ((with_reducible refine apdE_k ?_); (with_reducible refine apkN.mk ⟨_, rfl, ?_⟩ ?_); (focus ((try simp only [LN] at *) <;> omega)))
    | with_reducible first | refine apdE_n ?_
    | ((with_reducible refine slE_a ?_ ?_); (focus ((try simp only [LN] at *) <;> omega)))
    | ((with_reducible refine slE_b ?_ ?_); (focus ((try simp only [LN] at *) <;> omega)))
    | ((with_reducible refine slE_split ?_ ?_ ?_); (focus ((try simp only [LN] at *) <;> omega)); (all_goals intro _))
    | ((with_reducible apply sl3N_mk); (focus (exact rfl)); (focus (exact rfl)); (focus (exact rfl)); (focus ((try simp only [LN] at *) <;> omega)); (focus ((try simp only [LN] at *) <;> omega)); (focus ((try simp only [LN] at *) <;> omega)); (focus ((try simp only [LN] at *) <;> omega)))
    | ((with_reducible refine apdN.mk ?_ ?_ ?_ ?_ ?_ ?_); (focus (first | rfl | (simp; done))); (focus (first | exact one_all (by rfl) | exact one_map (fun _ => rfl) | exact one_map2 (fun _ => rfl))); (focus ((try simp only [LN] at *) <;> omega)); (focus ((try simp only [LN] at *) <;> omega)); (focus ((try simp only [LN] at *) <;> omega)))
    | with_reducible refine wr_i64 (by first | omega | (simp only [LN] at *; omega)) ?_
    | with_reducible refine wr_u64 (by omega) ?_
    | with_reducible refine wr_u8 (by omega) ?_
    | with_reducible refine wr_u32 (by omega) ?_
    | with_reducible first | refine wr_mk _ rfl ?_
    | ((with_reducible refine ixN_nat ?_ ?_); (focus ((try simp only [LN] at *) <;> omega)))
    | ((with_reducible refine rowN_map ?_ ?_); (focus ((try simp only [LN] at *) <;> omega)); intro x hx)
    | ((with_reducible refine posE_nil (by rfl) ?_))
    | ((with_reducible refine posE_pos (by decide) ?_))
    | with_reducible refine vN_mod (by omega) ?_
    | with_reducible first | refine vN_mk ?_
    | with_reducible refine nzN_mk (by omega) ?_
    | with_reducible refine eqN_dec (by omega) ?_
    | with_reducible first | refine apN_mk (by kernel_rfl) ?_ | refine Z.callZ_in tabOk 38 Try.f42 _ Try.func42 (by kernel_rfl) rfl rfl rfl ?_ | refine Z.callZ_in tabOk 20 Try.f43 _ Try.func43 (by kernel_rfl) rfl rfl rfl ?_ | refine Z.callZ_in tabOk 5 Try.f44 _ Try.func44 (by kernel_rfl) rfl rfl rfl ?_ | refine Z.callZ_in tabOk 18 Try.f47 _ Try.func47 (by kernel_rfl) rfl rfl rfl ?_ | refine Z.callZ_in tabOk 10 Try.f35 _ Try.func35 (by kernel_rfl) rfl rfl rfl ?_ | refine Z.callZ_in tabOk 5 Try.f49 _ Try.func49 (by kernel_rfl) rfl rfl rfl ?_ | refine Z.callZ_in tabOk 10 Try.f41 _ Try.func41 (by kernel_rfl) rfl rfl rfl ?_ | refine Z.callZ_in tabOk 58 Try.f46 _ Try.func46 (by kernel_rfl) rfl rfl rfl ?_ | refine Z.callZ_in tabOk 18 Try.f48 _ Try.func48 (by kernel_rfl) rfl rfl rfl ?_ | refine Z.callZ_in tabOk 6 Try.f33 _ Try.func33 (by kernel_rfl) rfl rfl rfl ?_
    | ((first | (with_reducible refine Z.conZ_mz ?_ (ce) ?_) | (with_reducible refine Z.callZ_mk ?_ (ce) ?_)); (focus ((repeat' (first | exact trivial | exact rfl | exact Z.low_nil | exact Z.low_nil2 | exact low_osl (fun _ => rfl) | (refine Z.low_osln ?_ (fun _ => rfl); (simp only [List.length_map]; done)) | exact low_oslr (fun _ => rfl) | exact Z.low_gslm (by first | rfl | exact Z.kb_some rfl) (fun _ => rfl) | exact .inl rfl | exact .inr ⟨_, rfl⟩ | apply And.intro)); done)))
    | ((with_reducible refine eqN_mk2 ?_ ?_); (focus (exact Z.kb_some rfl)))
    | ((with_reducible apply ex_and); exact rfl)
    | with_reducible first | refine Z.drawZ_rule tabOk mixOk ?_ | refine Z.apZ_mk (by kernel_rfl) ?_
    | ((with_reducible refine Z.ConZ.red ?_); (try subst hlb); (apply Z.conZ_all); (focus (repeat (first | exact Z.FK.nil | (apply Z.FK.keep; exact rfl)))); (focus rfl); (focus rfl); (focus (repeat (first | exact trivial | (refine ⟨(fun o ho => (by first | (cases ho; rfl) | (cases ho; exact Z.inL_map fun _ => rfl) | (cases ho; exact Z.inL_mapr fun _ => rfl) | exact Z.inL_gB ho fun _ => rfl)), ?_⟩)))))
    | ((refine ⟨rfl, ?_, rfl⟩); (focus (repeat (first | exact Z.DK.nil | apply Z.DK.cons))))
    | (focus (exact (rfl : Nat.ble _ _ = true))))
  all_goals (try (conv => whnf))
  all_goals try (show Nat.ble _ _ = true; rfl)
  all_goals try (exfalso; rename_i hz; cases hz; done)
  all_goals try (exfalso; (try simp only [LN] at *) <;> omega)
  all_goals first
    | exact hQ _ _ _ rfl rfl
    | (exfalso; rename_i hz; cases hz; done)
    | (exfalso; (try simp only [LN] at *) <;> omega)
    | (fail)
end Go.Proofs.Ytpnfogckdceiaaa
namespace Go.Proofs.Ytpnfogckdceiaaa
open Go Go.RowKit Wx
set_option linter.unusedVariables false
set_option linter.unusedSimpArgs false
set_option maxHeartbeats 400000000
theorem dec_r5 (b : List Int) (N i : Nat) (acc : List El) (s k : Int) (r : List Int) (hB : isB (1 :: s :: k :: r)) (hL : ((1 :: s :: k :: r) : List Int).length ≤ 1099511627776) (HC : acc.length = i) (HD : decN N b = preD acc (decN (N - i) (1 :: s :: k :: r))) (hi : i < N) (hN : N ≤ 200) (hs : 0 ≤ s ∧ s < 8) (hk : 0 ≤ k ∧ k < 32) (h4 : 8 ≤ r.length) {Q : Exit → Z.S → Prop} : Z.codeZ Try.prog tab 56 4 none (lbody Try.f34) ⟨dCH (i, (1 :: s :: k :: r), acc) ++ dFk N, dCK (i, (1 :: s :: k :: r), acc) ++ dKk, 7⟩ (loopPost (dRnd b N (i, (1 :: s :: k :: r), acc)) Q) := by
  have hd1 : dec1 (1 :: s :: k :: r) = (⟨1, s, k, IntKind.i64.wrap (numR (r.take 8)), 0⟩, 0, (r.drop 8)) := dec1_r hs.2 hk.2 h4
  dsimp only [dCH, dFk, dCK, dKk, dRnd]
  have hb_s := hB s (by simp)
  have hb_k := hB k (by simp)
  have hBr : isB r := fun x hx => hB x (by simp [hx])
  repeat' ((conv => whnf); first
    | with_reducible first | refine spB_t ?_
    | ((with_reducible apply spB_cong); (focus (simp only [beq_self_eq_true, bne_self_eq_false, Bool.true_bne, Bool.false_bne, Bool.bne_true, Bool.bne_false, Bool.true_beq, Bool.false_beq, Bool.not_true, Bool.not_false, Bool.not_not, Int.reduceBEq, Int.reduceBNe, Int.reduceLE, Int.reduceLT, Int.reduceEq, decide_true, decide_false]; rfl)))
    | with_reducible first | refine spB_no (by decide) ?_
    | (with_reducible refine spB_dec ?_ ?_ <;> intro _ <;> (try (exfalso; first | contradiction | omega | (rename_i hz; refine hz ?_; simp; done) | (rename_i hz; simp at hz; done) | (simp only [LN] at *; omega))))
    | (refine Z.lookN.mk ⟨_, _, rfl, ?_⟩)
    | with_reducible first | refine Z.callZ_mfa ?_
    | ((refine sl3N_mk 0 1 1 rfl rfl rfl ?_ ?_ ?_ ?_ ?_); (iterate 4 (focus (first | exact .inl rfl | ((try simp only [LN] at *) <;> omega)))))
    | ((refine sl3N_mk 0 8 8 rfl rfl rfl ?_ ?_ ?_ ?_ ?_); (iterate 4 (focus (first | exact .inl rfl | ((try simp only [LN] at *) <;> omega)))))
    | ((with_reducible refine Z.slN_lo 1 ?_ ?_ ?_); (focus rfl); (focus ((try simp only [LN] at *) <;> omega)))
    | (refine loopZ_unr1 tabOk rfl ?_)
    | ((with_reducible refine wr_shl8 ?_ ?_); (focus omega))
    | ((with_reducible refine wr_or0 ?_ ?_); (focus omega))
    | with_reducible first | refine rowN_mk _ rfl ?_
    | ((with_reducible apply ixN_lit); (focus (exact rfl)); (focus (exact rfl)))
    | ((with_reducible refine eqN_mk2 ?_ ?_); (focus rfl))
    | with_reducible refine wr_i64 (by first | omega | (simp only [LN] at *; omega)) ?_
    | with_reducible refine wr_u64 (by omega) ?_
    | with_reducible first | refine Z.callZ_in tabOk 38 Try.f42 _ Try.func42 (by kernel_rfl) rfl rfl rfl ?_ | refine Z.callZ_in tabOk 18 Try.f47 _ Try.func47 (by kernel_rfl) rfl rfl rfl ?_ | refine Z.callZ_in tabOk 10 Try.f35 _ Try.func35 (by kernel_rfl) rfl rfl rfl ?_ | refine Z.callZ_in tabOk 5 Try.f49 _ Try.func49 (by kernel_rfl) rfl rfl rfl ?_ | refine Z.callZ_in tabOk 10 Try.f41 _ Try.func41 (by kernel_rfl) rfl rfl rfl ?_ | refine Z.callZ_in tabOk 58 Try.f46 _ Try.func46 (by kernel_rfl) rfl rfl rfl ?_ | refine Z.callZ_in tabOk 18 Try.f48 _ Try.func48 (by kernel_rfl) rfl rfl rfl ?_ | refine Z.callZ_in tabOk 6 Try.f33 _ Try.func33 (by kernel_rfl) rfl rfl rfl ?_
    | ((with_reducible apply ex_and); exact rfl)
    | with_reducible first | refine Z.drawZ_rule tabOk mixOk ?_ | refine Z.apZ_mk (by kernel_rfl) ?_)
  all_goals (try (conv => whnf))
  all_goals try (show Nat.ble _ _ = true; rfl)
  all_goals try (exfalso; rename_i hz; cases hz; done)
  all_goals try (exfalso; (try simp only [LN] at *) <;> omega)
  all_goals (
    apply loopQ3
    · intro Q0 hq9
      refine Z.loopK tabOk (fun zq : Nat => [(6, .val (.int .i64 (zq : Int)))]) (fun zq : Nat => ([(18, some (Z.Ob.b ⟨[[.v (.int .u64 (numR ((r.take 8).take zq)))]], 1, 24, true⟩)), (0, some (Z.Ob.b ⟨[[.ro true 1 (r.map eB), .v (.int .i64 0)]], 2, 77, true⟩)), (1, some (Z.Ob.b ⟨[[.own 0 0 0]], 1, 63, true⟩)), (4, some (Z.Ob.b ⟨[[.own 0 0 0]], 1, 63, true⟩)), (5, some (Z.Ob.m ⟨[(Value.int .u8 1, 0, A0.one (Ce.mf 42 [Pt.ag [Pa.own 0 0 0]])), (Value.int .u8 2, 1, A0.one (Ce.mf 43 [Pt.ag [Pa.own 0 0 0]])), (Value.int .u8 3, 2, A0.one (Ce.mf 44 [Pt.ag [Pa.own 0 0 0]]))], 3⟩)), (6, (gB 5 26 (acc.map cE)).map Z.Ob.b), (9, some (Z.Ob.b ⟨[[.own 0 0 0]], 1, 63, true⟩)), (10, some (Z.Ob.b ⟨[[.v (.int .i64 0), .v (.int .i64 0), .v (.int .i64 0), .v (.int .i64 0), .v (.int .u64 0)]], 5, 26, true⟩))] : Z.Kr)) (fun zq => zq ≤ 8) (fun zq => 8 - zq) 0 19 [(0, _), (2, _), (5, _)] ⟨rfl, rfl, rfl, trivial⟩ [] trivial ?_ ?_ rfl rfl (Nat.zero_le _) ?_
      · repeat' (first | exact trivial | apply And.intro | exact ⟨_, rfl, Z.Imp.refl _⟩)
      · repeat' (first | exact trivial | exact (fun b hb => ⟨b, hb, Z.ImpO.refl b⟩) | (intro b hb; cases hb; refine ⟨_, rfl, ⟨rfl, rfl, rfl⟩, ⟨⟨Z.Imp.of_eq (congrArg (Ce.ro true 1) (by simp [tk_map]; done)), Z.Imp.refl _, trivial⟩, trivial⟩⟩; done) | apply And.intro)
      rintro j HINV
      (try dsimp only at HINV); (try dsimp only)
      by_cases hj : j < 8
      · obtain ⟨z9, hzd⟩ := getElem?_some' (xs := (r.take 8)) (i := j) (by simp; omega)
        have hzb := hBr z9 (List.mem_of_mem_take (List.mem_of_getElem? hzd))
        have hnl := num_lt (l := (r.take 8)) (i := j) (by omega) (by simp; omega) (isB_take hBr)
        generalize hnv : numR ((r.take 8).take j) = nv at *
        repeat' ((conv => whnf); first
          | (with_reducible refine spB_dec ?_ ?_ <;> intro _ <;> (try (exfalso; first | contradiction | omega | (rename_i hz; refine hz ?_; simp; done) | (rename_i hz; simp at hz; done) | (simp only [LN] at *; omega))))
          | ((with_reducible refine wr_shl8 ?_ ?_); (focus omega))
          | ((with_reducible refine rowN_mk (eB z9) ?_ ?_); (focus (exact rest_at (by simp [tk_map]; done) hzd)))
          | ((with_reducible refine ixN_mk (j) ?_ ?_ ?_); (focus (first | rfl)); (focus ((try simp only [LN] at *) <;> omega)))
          | ((with_reducible refine eqN_mk2 ?_ ?_); (focus rfl))
          | with_reducible refine wr_i64 (by first | omega | (simp only [LN] at *; omega)) ?_
          | with_reducible refine wr_u64 (by omega) ?_
          | with_reducible first | refine Z.drawZ_rule tabOk mixOk ?_ | refine Z.apZ_mk (by kernel_rfl) ?_)
        all_goals (try (conv => whnf))
        all_goals try (show Nat.ble _ _ = true; rfl)
        all_goals try (exfalso; rename_i hz; cases hz; done)
        all_goals try (exfalso; (try simp only [LN] at *) <;> omega)
        all_goals first
          | ((refine Z.rnd_rw 18 ([[.v (.int .u64 (numR ((r.take 8).take (j + 1))))]]) rfl rfl ?_ ?_); (focus (rw [take_snoc hzd, numR_snoc, hnv]; exact congrArg (fun z => [[Ce.v (.int .u64 z)]]) (or_add hnl hzb))); ((refine Z.rndK ((j + 1)) (fun s => [0, 1, 2, 3, 4, 5, 6, 7, 8, 9, 10, 11, 12, 13, 14, 15, 16, 17, 18]) rfl rfl rfl rfl ?_ ?_ ?_ ?_); (focus (repeat' (first | exact trivial | exact rfl | apply And.intro))); (focus (repeat' (first | exact trivial | (intro b hb; cases hb; rfl) | exact Z.gB_sub rfl rfl (ren_map fun _ => rfl) | apply And.intro))); (focus (((try dsimp only); omega))); ((try dsimp only); omega)))
      have hj8 : j = 8 := by omega
      repeat' ((conv => whnf); first
        | (with_reducible refine spB_dec ?_ ?_ <;> intro _ <;> (try (exfalso; first | contradiction | omega | (rename_i hz; refine hz ?_; simp; done) | (rename_i hz; simp at hz; done) | (simp only [LN] at *; omega)))))
      all_goals (try (conv => whnf))
      subst hj8
      exact hq9
    rw [show (r.take 8).take 8 = r.take 8 from List.take_of_length_le (List.length_take_le ..)]
    generalize hnv9 : numR (r.take 8) = v9 at *
    repeat' ((conv => whnf); first
      | ((with_reducible apply spB_cong); (focus (simp only [beq_self_eq_true, bne_self_eq_false, Bool.true_bne, Bool.false_bne, Bool.bne_true, Bool.bne_false, Bool.true_beq, Bool.false_beq, Bool.not_true, Bool.not_false, Bool.not_not, Int.reduceBEq, Int.reduceBNe, Int.reduceLE, Int.reduceLT, Int.reduceEq, decide_true, decide_false]; rfl)))
      | with_reducible first | refine spB_no (by decide) ?_
      | ((with_reducible refine Z.slN_lo 8 ?_ ?_ ?_); (focus rfl); (focus ((try simp only [LN] at *) <;> omega)))
      | (refine wr_mk (IntKind.i64.wrap (v9)) rfl ?_)
      | ((with_reducible refine posE_pos ?_ ?_); (focus ((try simp only [LN] at *) <;> omega)))
      | ((with_reducible refine apdN.mk ?_ ?_ ?_ ?_ ?_ ?_); (focus (first | rfl)); (focus (first | exact one_all (by rfl))); (focus ((try simp only [LN] at *) <;> omega)); (focus ((try simp only [LN] at *) <;> omega)); (focus ((try simp only [LN] at *) <;> omega)))
      | with_reducible refine wr_i64 (by first | omega | (simp only [LN] at *; omega)) ?_
      | with_reducible first | refine Z.callZ_in tabOk 10 Try.f35 _ Try.func35 (by kernel_rfl) rfl rfl rfl ?_
      | ((with_reducible refine eqN_mk2 ?_ ?_); (focus (exact Z.kb_some rfl)))
      | ((with_reducible apply ex_and); exact rfl))
    all_goals (try (conv => whnf))
    all_goals try (show Nat.ble _ _ = true; rfl)
    all_goals try (exfalso; rename_i hz; cases hz; done)
    all_goals try (exfalso; (try simp only [LN] at *) <;> omega))
  all_goals first
    | ((refine Z.rnd_bi 0 [[.ro true 1 ((r.drop 8).map eB), _]] rfl rfl ⟨⟨Z.Imp.of_eq (congrArg (Ce.ro true 1) (by first | (simp; done) | (simp [tk_map]; done) | (simp [tk_map, List.take_of_length_le]; done))), Z.Imp.refl _, trivial⟩, trivial⟩ ?_); ((refine Z.rndK ((i + 1, (r.drop 8), acc ++ [⟨1, s, k, IntKind.i64.wrap v9, 0⟩])) (fun s => [0, 1, 2, 3, 4, 5, s.idAt 7]) rfl rfl rfl rfl ?_ ?_ ?_ ?_); (focus (repeat' (first | exact trivial | exact rfl | (rw [List.map_append (f := cE)]; exact rfl) | apply And.intro))); (focus (repeat' (first | exact trivial | (intro b hb; cases hb; rfl) | exact Z.gB_sub' rfl (by first | rfl | (rw [List.map_append]; rfl) | simp only [List.map_append, List.map_cons, List.map_nil]) (ren_map fun _ => rfl) | apply And.intro))); (focus (exact ⟨by (try dsimp only); omega, ⟨by (try dsimp only); first | exact isB_drop hBr | exact hBr, by (try dsimp only); (try simp only [List.length_cons, List.length_drop] at *); omega⟩, by (try dsimp only); rw [List.length_append, HC]; rfl, by (try dsimp only); rw [HD, show N - i = (N - (i + 1)) + 1 by omega, preD_step hd1]⟩)); ((try dsimp only); omega)))
end Go.Proofs.Ytpnfogckdceiaaa
namespace Go.Proofs.Ytpnfogckdceiaaa
open Go Go.RowKit Wx
set_option linter.unusedVariables false
set_option linter.unusedSimpArgs false
set_option maxHeartbeats 40000000
theorem dec_b0 (b : List Int) (N i : Nat) (acc : List El) (r : List Int) (hB : isB (2 :: r)) (hL : ((2 :: r) : List Int).length ≤ 1099511627776) (HC : acc.length = i) (HD : decN N b = preD acc (decN (N - i) (2 :: r))) (hi : i < N) (hN : N ≤ 200) (h4 : r.length < 8) {Q : Exit → Z.S → Prop} (hQ : ∀ F' K' t', Wx.get F' 4 = some (.val (.slice none 0 0)) → Wx.get F' 5 = some (.val (.int .i64 7)) → Q .ret ⟨F', K', t'⟩) : Z.codeZ Try.prog tab 56 4 none (lbody Try.f34) ⟨dCH (i, (2 :: r), acc) ++ dFk N, dCK (i, (2 :: r), acc) ++ dKk, 7⟩ (loopPost (dRnd b N (i, (2 :: r), acc)) Q) := by
  dsimp only [dCH, dFk, dCK, dKk, dRnd]
  have hBr : isB r := fun x hx => hB x (by simp [hx])
  repeat' ((conv => whnf); first
    | with_reducible first | refine spB_t ?_
    | ((with_reducible apply spB_cong); (focus (simp only [beq_self_eq_true, bne_self_eq_false, Bool.true_bne, Bool.false_bne, Bool.bne_true, Bool.bne_false, Bool.true_beq, Bool.false_beq, Bool.not_true, Bool.not_false, Bool.not_not, Int.reduceBEq, Int.reduceBNe, Int.reduceLE, Int.reduceLT, Int.reduceEq, decide_true, decide_false]; rfl)))
    | with_reducible first | refine spB_yes (by decide) ?_ | refine spB_no (by decide) ?_ | refine spB_f ?_ | refine spB_not ?_ | refine spB_yes (by assumption) ?_ | refine spB_no (by assumption) ?_
    | (with_reducible refine spB_dec ?_ ?_ <;> intro _ <;> (try (exfalso; first | contradiction | omega | (rename_i hz; refine hz ?_; simp; done) | (rename_i hz; simp at hz; done) | (simp only [LN] at *; omega))))
    | (with_reducible refine spB_beq ?_ ?_ <;> intro _ <;> (try (exfalso; first | contradiction | omega | (rename_i hz; refine hz ?_; simp; done) | (rename_i hz; simp at hz; done) | (simp only [LN] at *; omega))))
    | (with_reducible refine spB_bne ?_ ?_ <;> intro _ <;> (try (exfalso; first | contradiction | omega | (rename_i hz; refine hz ?_; simp; done) | (rename_i hz; simp at hz; done) | (simp only [LN] at *; omega))))
    | (with_reducible refine spB_mk ?_ ?_ <;> intro _ <;> (try (exfalso; first | contradiction | omega | (rename_i hz; refine hz ?_; simp; done) | (rename_i hz; simp at hz; done) | (simp only [LN] at *; omega))))
    | (refine Z.updN.mk ⟨_, rfl, ?_⟩)
    | (refine Z.lookN.mk ⟨_, _, rfl, ?_⟩)
    | with_reducible first | refine Z.callZ_mfa ?_
    | ((refine sl3N_mk 0 1 1 rfl rfl rfl ?_ ?_ ?_ ?_ ?_); (iterate 4 (focus (first | exact .inl rfl | ((try simp only [LN] at *) <;> omega)))))
    | ((refine sl3N_mk 0 8 8 rfl rfl rfl ?_ ?_ ?_ ?_ ?_); (iterate 4 (focus (first | exact .inl rfl | ((try simp only [LN] at *) <;> omega)))))
    | ((with_reducible refine Z.slN_lo 1 ?_ ?_ ?_); (focus rfl); (focus ((try simp only [LN] at *) <;> omega)))
    | ((with_reducible refine Z.slN_lo 8 ?_ ?_ ?_); (focus rfl); (focus ((try simp only [LN] at *) <;> omega)))
    | (refine loopZ_unr1 tabOk rfl ?_)
    | ((with_reducible refine wr_shl8 ?_ ?_); (focus omega))
    | ((with_reducible refine wr_or0 ?_ ?_); (focus omega))
    | with_reducible first | refine rowN_mk _ rfl ?_
    | (refine wr_mk (IntKind.i64.wrap (numR (r.take 8))) rfl ?_)
    | ((with_reducible refine posE_pos ?_ ?_); (focus ((try simp only [LN] at *) <;> omega)))
    | ((with_reducible refine posE_nil ?_ ?_); (focus rfl))
    | ((with_reducible apply rowN_mk); (focus rfl))
    | ((with_reducible apply ixN_lit); (focus (exact rfl)); (focus (exact rfl)))
    | ((with_reducible apply ixN_litp); (focus (exact rfl)); (focus ((try simp only [LN] at *) <;> omega)))
    | ((with_reducible refine eqN_mk2 ?_ ?_); (focus rfl))
    | ((with_reducible refine posN_mk2 ?_ ?_); (focus (first | decide | ((try simp only [LN] at *) <;> omega))))
    | ((with_reducible refine apdE_r ?_); (with_reducible refine aprN.mk ⟨_, rfl, ?_⟩ ?_ ?_ ?_ ?_); (focus ((try simp only [LN] at *) <;> omega)); (focus (first | rfl | (simp; done) | ((try simp only [LN] at *) <;> omega))); (focus (first | exact one_all (by rfl) | exact one_map (fun _ => rfl) | exact one_map2 (fun _ => rfl) | exact one_drop (fun _ => rfl))); (focus ((try simp only [LN] at *) <;> omega)))
    | ((with_reducible refine apdE_k ?_); (with_reducible refine apkN.mk ⟨_, rfl, ?_⟩ ?_); (focus ((try simp only [LN] at *) <;> omega)))
    | with_reducible first | refine apdE_n ?_
    | ((with_reducible refine slE_a ?_ ?_); (focus ((try simp only [LN] at *) <;> omega)))
    | ((with_reducible refine slE_b ?_ ?_); (focus ((try simp only [LN] at *) <;> omega)))
    | ((with_reducible refine slE_split ?_ ?_ ?_); (focus ((try simp only [LN] at *) <;> omega)); (all_goals intro _))
    | ((with_reducible apply sl3N_mk); (focus (exact rfl)); (focus (exact rfl)); (focus (exact rfl)); (focus ((try simp only [LN] at *) <;> omega)); (focus ((try simp only [LN] at *) <;> omega)); (focus ((try simp only [LN] at *) <;> omega)); (focus ((try simp only [LN] at *) <;> omega)))
    | ((with_reducible refine apdN.mk ?_ ?_ ?_ ?_ ?_ ?_); (focus (first | rfl | (simp; done))); (focus (first | exact one_all (by rfl) | exact one_map (fun _ => rfl) | exact one_map2 (fun _ => rfl))); (focus ((try simp only [LN] at *) <;> omega)); (focus ((try simp only [LN] at *) <;> omega)); (focus ((try simp only [LN] at *) <;> omega)))
    | with_reducible refine wr_i64 (by first | omega | (simp only [LN] at *; omega)) ?_
    | with_reducible refine wr_u64 (by omega) ?_
    | with_reducible refine wr_u8 (by omega) ?_
    | with_reducible refine wr_u32 (by omega) ?_
    | with_reducible first | refine wr_mk _ rfl ?_
    | ((with_reducible refine ixN_nat ?_ ?_); (focus ((try simp only [LN] at *) <;> omega)))
    | ((with_reducible refine rowN_map ?_ ?_); (focus ((try simp only [LN] at *) <;> omega)); intro x hx)
    | ((with_reducible refine posE_nil (by rfl) ?_))
    | ((with_reducible refine posE_pos (by decide) ?_))
    | with_reducible refine vN_mod (by omega) ?_
    | with_reducible first | refine vN_mk ?_
    | with_reducible refine nzN_mk (by omega) ?_
    | with_reducible refine eqN_dec (by omega) ?_
    | with_reducible first | refine apN_mk (by kernel_rfl) ?_ | refine Z.callZ_in tabOk 38 Try.f42 _ Try.func42 (by kernel_rfl) rfl rfl rfl ?_ | refine Z.callZ_in tabOk 20 Try.f43 _ Try.func43 (by kernel_rfl) rfl rfl rfl ?_ | refine Z.callZ_in tabOk 5 Try.f44 _ Try.func44 (by kernel_rfl) rfl rfl rfl ?_ | refine Z.callZ_in tabOk 18 Try.f47 _ Try.func47 (by kernel_rfl) rfl rfl rfl ?_ | refine Z.callZ_in tabOk 10 Try.f35 _ Try.func35 (by kernel_rfl) rfl rfl rfl ?_ | refine Z.callZ_in tabOk 5 Try.f49 _ Try.func49 (by kernel_rfl) rfl rfl rfl ?_ | refine Z.callZ_in tabOk 10 Try.f41 _ Try.func41 (by kernel_rfl) rfl rfl rfl ?_ | refine Z.callZ_in tabOk 58 Try.f46 _ Try.func46 (by kernel_rfl) rfl rfl rfl ?_ | refine Z.callZ_in tabOk 18 Try.f48 _ Try.func48 (by kernel_rfl) rfl rfl rfl ?_ | refine Z.callZ_in tabOk 6 Try.f33 _ Try.func33 (by kernel_rfl) rfl rfl rfl ?_
    | ((first | (with_reducible refine Z.conZ_mz ?_ (ce) ?_) | (with_reducible refine Z.callZ_mk ?_ (ce) ?_)); (focus ((repeat' (first | exact trivial | exact rfl | exact Z.low_nil | exact Z.low_nil2 | exact low_osl (fun _ => rfl) | (refine Z.low_osln ?_ (fun _ => rfl); (simp only [List.length_map]; done)) | exact low_oslr (fun _ => rfl) | exact Z.low_gslm (by first | rfl | exact Z.kb_some rfl) (fun _ => rfl) | exact .inl rfl | exact .inr ⟨_, rfl⟩ | apply And.intro)); done)))
    | ((with_reducible refine eqN_mk2 ?_ ?_); (focus (exact Z.kb_some rfl)))
    | ((with_reducible apply ex_and); exact rfl)
    | with_reducible first | refine Z.drawZ_rule tabOk mixOk ?_ | refine Z.apZ_mk (by kernel_rfl) ?_
    | ((with_reducible refine Z.ConZ.red ?_); (try subst hlb); (apply Z.conZ_all); (focus (repeat (first | exact Z.FK.nil | (apply Z.FK.keep; exact rfl)))); (focus rfl); (focus rfl); (focus (repeat (first | exact trivial | (refine ⟨(fun o ho => (by first | (cases ho; rfl) | (cases ho; exact Z.inL_map fun _ => rfl) | (cases ho; exact Z.inL_mapr fun _ => rfl) | exact Z.inL_gB ho fun _ => rfl)), ?_⟩)))))
    | ((refine ⟨rfl, ?_, rfl⟩); (focus (repeat (first | exact Z.DK.nil | apply Z.DK.cons))))
    | (focus (exact (rfl : Nat.ble _ _ = true))))
  all_goals (try (conv => whnf))
  all_goals try (show Nat.ble _ _ = true; rfl)
  all_goals try (exfalso; rename_i hz; cases hz; done)
  all_goals try (exfalso; (try simp only [LN] at *) <;> omega)
  all_goals first
    | exact hQ _ _ _ rfl rfl
    | (exfalso; rename_i hz; cases hz; done)
    | (exfalso; (try simp only [LN] at *) <;> omega)
    | (fail)
end Go.Proofs.Ytpnfogckdceiaaa
namespace Go.Proofs.Ytpnfogckdceiaaa
open Go Go.RowKit Wx
set_option linter.unusedVariables false
set_option linter.unusedSimpArgs false
set_option maxHeartbeats 40000000
theorem dec_b1 (b : List Int) (N i : Nat) (acc : List El) (r : List Int) (hB : isB (2 :: r)) (hL : ((2 :: r) : List Int).length ≤ 1099511627776) (HC : acc.length = i) (HD : decN N b = preD acc (decN (N - i) (2 :: r))) (hi : i < N) (hN : N ≤ 200) (h4 : 8 ≤ r.length) (h5 : ¬ (1 ≤ numR (r.take 8) ∧ numR (r.take 8) ≤ 4611686018427387904)) {Q : Exit → Z.S → Prop} (hQ : ∀ F' K' t', Wx.get F' 4 = some (.val (.slice none 0 0)) → Wx.get F' 5 = some (.val (.int .i64 151)) → Q .ret ⟨F', K', t'⟩) : Z.codeZ Try.prog tab 56 4 none (lbody Try.f34) ⟨dCH (i, (2 :: r), acc) ++ dFk N, dCK (i, (2 :: r), acc) ++ dKk, 7⟩ (loopPost (dRnd b N (i, (2 :: r), acc)) Q) := by
  dsimp only [dCH, dFk, dCK, dKk, dRnd]
  have hBr : isB r := fun x hx => hB x (by simp [hx])
  have hv0 : 0 ≤ numR (r.take 8) := (numR_lt (n := 8) (by simp; omega) (isB_take hBr)).1
  have ce := checkE_con ⟨2, 0, 0, 0, numR (r.take 8)⟩ hv0
  rw [show okE ⟨2, 0, 0, 0, numR (r.take 8)⟩ = false from decide_eq_false (by simp; omega)] at ce
  dsimp only at ce
  simp only [cond_true, cond_false] at ce
  repeat' ((conv => whnf); first
    | ((with_reducible first | ((refine spB_t ?_); trace "<<G1A0>>")); trace "<<L15>>")
    | ((((with_reducible apply spB_cong); (focus (simp only [beq_self_eq_true, bne_self_eq_false, Bool.true_bne, Bool.false_bne, Bool.bne_true, Bool.bne_false, Bool.true_beq, Bool.false_beq, Bool.not_true, Bool.not_false, Bool.not_not, Int.reduceBEq, Int.reduceBNe, Int.reduceLE, Int.reduceLT, Int.reduceEq, decide_true, decide_false]; rfl)))); trace "<<L16>>")
    | ((with_reducible first | ((refine spB_yes (by decide) ?_); trace "<<G2A0>>") | ((refine spB_no (by decide) ?_); trace "<<G2A1>>") | ((refine spB_f ?_); trace "<<G2A2>>") | ((refine spB_not ?_); trace "<<G2A3>>") | ((refine spB_yes (by assumption) ?_); trace "<<G2A4>>") | ((refine spB_no (by assumption) ?_); trace "<<G2A5>>")); trace "<<L17>>")
    | (((with_reducible refine spB_dec ?_ ?_ <;> intro _ <;> (try (exfalso; first | contradiction | omega | (rename_i hz; refine hz ?_; simp; done) | (rename_i hz; simp at hz; done) | (simp only [LN] at *; omega))))); trace "<<L18>>")
    | (((with_reducible refine spB_beq ?_ ?_ <;> intro _ <;> (try (exfalso; first | contradiction | omega | (rename_i hz; refine hz ?_; simp; done) | (rename_i hz; simp at hz; done) | (simp only [LN] at *; omega))))); trace "<<L19>>")
    | (((with_reducible refine spB_bne ?_ ?_ <;> intro _ <;> (try (exfalso; first | contradiction | omega | (rename_i hz; refine hz ?_; simp; done) | (rename_i hz; simp at hz; done) | (simp only [LN] at *; omega))))); trace "<<L20>>")
    | (((with_reducible refine spB_mk ?_ ?_ <;> intro _ <;> (try (exfalso; first | contradiction | omega | (rename_i hz; refine hz ?_; simp; done) | (rename_i hz; simp at hz; done) | (simp only [LN] at *; omega))))); trace "<<L21>>")
    | (((refine Z.updN.mk ⟨_, rfl, ?_⟩)); trace "<<L22>>")
    | (((refine Z.lookN.mk ⟨_, _, rfl, ?_⟩)); trace "<<L23>>")
    | ((with_reducible first | ((refine Z.callZ_mfa ?_); trace "<<G3A0>>")); trace "<<L24>>")
    | ((((refine sl3N_mk 0 1 1 rfl rfl rfl ?_ ?_ ?_ ?_ ?_); (iterate 4 (focus (first | ((exact .inl rfl); trace "<<G4A0>>") | ((((try simp only [LN] at *) <;> omega)); trace "<<G4A1>>")))))); trace "<<L25>>")
    | ((((refine sl3N_mk 0 8 8 rfl rfl rfl ?_ ?_ ?_ ?_ ?_); (iterate 4 (focus (first | ((exact .inl rfl); trace "<<G5A0>>") | ((((try simp only [LN] at *) <;> omega)); trace "<<G5A1>>")))))); trace "<<L26>>")
    | ((((with_reducible refine Z.slN_lo 1 ?_ ?_ ?_); (focus rfl); (focus ((try simp only [LN] at *) <;> omega)))); trace "<<L27>>")
    | ((((with_reducible refine Z.slN_lo 8 ?_ ?_ ?_); (focus rfl); (focus ((try simp only [LN] at *) <;> omega)))); trace "<<L28>>")
    | (((refine loopZ_unr1 tabOk rfl ?_)); trace "<<L29>>")
    | ((((with_reducible refine wr_shl8 ?_ ?_); (focus omega))); trace "<<L30>>")
    | ((((with_reducible refine wr_or0 ?_ ?_); (focus omega))); trace "<<L31>>")
    | ((with_reducible first | ((refine rowN_mk _ rfl ?_); trace "<<G6A0>>")); trace "<<L32>>")
    | (((refine wr_mk (IntKind.i64.wrap (numR (r.take 8))) rfl ?_)); trace "<<L33>>")
    | ((((with_reducible refine posE_pos ?_ ?_); (focus ((try simp only [LN] at *) <;> omega)))); trace "<<L34>>")
    | ((((with_reducible refine posE_nil ?_ ?_); (focus rfl))); trace "<<L35>>")
    | ((((with_reducible apply rowN_mk); (focus rfl))); trace "<<L36>>")
    | ((((with_reducible apply ixN_lit); (focus (exact rfl)); (focus (exact rfl)))); trace "<<L37>>")
    | ((((with_reducible apply ixN_litp); (focus (exact rfl)); (focus ((try simp only [LN] at *) <;> omega)))); trace "<<L38>>")
    | ((((with_reducible refine eqN_mk2 ?_ ?_); (focus rfl))); trace "<<L39>>")
    | ((((with_reducible refine posN_mk2 ?_ ?_); (focus (first | ((decide); trace "<<G7A0>>") | ((((try simp only [LN] at *) <;> omega)); trace "<<G7A1>>"))))); trace "<<L40>>")
    | ((((with_reducible refine apdE_r ?_); (with_reducible refine aprN.mk ⟨_, rfl, ?_⟩ ?_ ?_ ?_ ?_); (focus ((try simp only [LN] at *) <;> omega)); (focus (first | ((rfl); trace "<<G8A0>>") | (((simp; done)); trace "<<G8A1>>") | ((((try simp only [LN] at *) <;> omega)); trace "<<G8A2>>"))); (focus (first | ((exact one_all (by rfl)); trace "<<G9A0>>") | ((exact one_map (fun _ => rfl)); trace "<<G9A1>>") | ((exact one_map2 (fun _ => rfl)); trace "<<G9A2>>") | ((exact one_drop (fun _ => rfl)); trace "<<G9A3>>"))); (focus ((try simp only [LN] at *) <;> omega)))); trace "<<L41>>")
    | ((((with_reducible refine apdE_k ?_); (with_reducible refine apkN.mk ⟨_, rfl, ?_⟩ ?_); (focus ((try simp only [LN] at *) <;> omega)))); trace "<<L42>>")
    | ((with_reducible first | ((refine apdE_n ?_); trace "<<G10A0>>")); trace "<<L43>>")
    | ((((with_reducible refine slE_a ?_ ?_); (focus ((try simp only [LN] at *) <;> omega)))); trace "<<L44>>")
    | ((((with_reducible refine slE_b ?_ ?_); (focus ((try simp only [LN] at *) <;> omega)))); trace "<<L45>>")
    | ((((with_reducible refine slE_split ?_ ?_ ?_); (focus ((try simp only [LN] at *) <;> omega)); (all_goals intro _))); trace "<<L46>>")
    | ((((with_reducible apply sl3N_mk); (focus (exact rfl)); (focus (exact rfl)); (focus (exact rfl)); (focus ((try simp only [LN] at *) <;> omega)); (focus ((try simp only [LN] at *) <;> omega)); (focus ((try simp only [LN] at *) <;> omega)); (focus ((try simp only [LN] at *) <;> omega)))); trace "<<L47>>")
    | ((((with_reducible refine apdN.mk ?_ ?_ ?_ ?_ ?_ ?_); (focus (first | ((rfl); trace "<<G11A0>>") | (((simp; done)); trace "<<G11A1>>"))); (focus (first | ((exact one_all (by rfl)); trace "<<G12A0>>") | ((exact one_map (fun _ => rfl)); trace "<<G12A1>>") | ((exact one_map2 (fun _ => rfl)); trace "<<G12A2>>"))); (focus ((try simp only [LN] at *) <;> omega)); (focus ((try simp only [LN] at *) <;> omega)); (focus ((try simp only [LN] at *) <;> omega)))); trace "<<L48>>")
    | ((with_reducible refine wr_i64 (by first | omega | (simp only [LN] at *; omega)) ?_); trace "<<L49>>")
    | ((with_reducible refine wr_u64 (by omega) ?_); trace "<<L50>>")
    | ((with_reducible refine wr_u8 (by omega) ?_); trace "<<L51>>")
    | ((with_reducible refine wr_u32 (by omega) ?_); trace "<<L52>>")
    | ((with_reducible first | ((refine wr_mk _ rfl ?_); trace "<<G13A0>>")); trace "<<L53>>")
    | ((((with_reducible refine ixN_nat ?_ ?_); (focus ((try simp only [LN] at *) <;> omega)))); trace "<<L54>>")
    | ((((with_reducible refine rowN_map ?_ ?_); (focus ((try simp only [LN] at *) <;> omega)); intro x hx)); trace "<<L55>>")
    | ((((with_reducible refine posE_nil (by rfl) ?_))); trace "<<L56>>")
    | ((((with_reducible refine posE_pos (by decide) ?_))); trace "<<L57>>")
    | ((with_reducible refine vN_mod (by omega) ?_); trace "<<L58>>")
    | ((with_reducible first | ((refine vN_mk ?_); trace "<<G14A0>>")); trace "<<L59>>")
    | ((with_reducible refine nzN_mk (by omega) ?_); trace "<<L60>>")
    | ((with_reducible refine eqN_dec (by omega) ?_); trace "<<L61>>")
    | ((with_reducible first | ((refine apN_mk (by kernel_rfl) ?_); trace "<<G15A0>>") | ((refine Z.callZ_in tabOk 38 Try.f42 _ Try.func42 (by kernel_rfl) rfl rfl rfl ?_); trace "<<G15A1>>") | ((refine Z.callZ_in tabOk 20 Try.f43 _ Try.func43 (by kernel_rfl) rfl rfl rfl ?_); trace "<<G15A2>>") | ((refine Z.callZ_in tabOk 5 Try.f44 _ Try.func44 (by kernel_rfl) rfl rfl rfl ?_); trace "<<G15A3>>") | ((refine Z.callZ_in tabOk 18 Try.f47 _ Try.func47 (by kernel_rfl) rfl rfl rfl ?_); trace "<<G15A4>>") | ((refine Z.callZ_in tabOk 10 Try.f35 _ Try.func35 (by kernel_rfl) rfl rfl rfl ?_); trace "<<G15A5>>") | ((refine Z.callZ_in tabOk 5 Try.f49 _ Try.func49 (by kernel_rfl) rfl rfl rfl ?_); trace "<<G15A6>>") | ((refine Z.callZ_in tabOk 10 Try.f41 _ Try.func41 (by kernel_rfl) rfl rfl rfl ?_); trace "<<G15A7>>") | ((refine Z.callZ_in tabOk 58 Try.f46 _ Try.func46 (by kernel_rfl) rfl rfl rfl ?_); trace "<<G15A8>>") | ((refine Z.callZ_in tabOk 18 Try.f48 _ Try.func48 (by kernel_rfl) rfl rfl rfl ?_); trace "<<G15A9>>") | ((refine Z.callZ_in tabOk 6 Try.f33 _ Try.func33 (by kernel_rfl) rfl rfl rfl ?_); trace "<<G15A10>>")); trace "<<L62>>")
    | ((((first | (((with_reducible refine Z.conZ_mz ?_ (ce) ?_)); trace "<<G16A0>>") | (((with_reducible refine Z.callZ_mk ?_ (ce) ?_)); trace "<<G16A1>>")); (focus ((repeat' (first | ((exact trivial); trace "<<G17A0>>") | ((exact rfl); trace "<<G17A1>>") | ((exact Z.low_nil); trace "<<G17A2>>") | ((exact Z.low_nil2); trace "<<G17A3>>") | ((exact low_osl (fun _ => rfl)); trace "<<G17A4>>") | (((refine Z.low_osln ?_ (fun _ => rfl); (simp only [List.length_map]; done))); trace "<<G17A5>>") | ((exact low_oslr (fun _ => rfl)); trace "<<G17A6>>") | ((exact Z.low_gslm (by first | rfl | exact Z.kb_some rfl) (fun _ => rfl)); trace "<<G17A7>>") | ((exact .inl rfl); trace "<<G17A8>>") | ((exact .inr ⟨_, rfl⟩); trace "<<G17A9>>") | ((apply And.intro); trace "<<G17A10>>"))); done)))); trace "<<L63>>")
    | ((((with_reducible refine eqN_mk2 ?_ ?_); (focus (exact Z.kb_some rfl)))); trace "<<L64>>")
    | ((((with_reducible apply ex_and); exact rfl)); trace "<<L65>>")
    | ((with_reducible first | ((refine Z.drawZ_rule tabOk mixOk ?_); trace "<<G18A0>>") | ((refine Z.apZ_mk (by kernel_rfl) ?_); trace "<<G18A1>>")); trace "<<L66>>")
    | ((((with_reducible refine Z.ConZ.red ?_); (try subst hlb); (apply Z.conZ_all); (focus (repeat (first | ((exact Z.FK.nil); trace "<<G19A0>>") | (((apply Z.FK.keep; exact rfl)); trace "<<G19A1>>")))); (focus rfl); (focus rfl); (focus (repeat (first | ((exact trivial); trace "<<G20A0>>") | (((refine ⟨(fun o ho => (by first | (cases ho; rfl) | (cases ho; exact Z.inL_map fun _ => rfl) | (cases ho; exact Z.inL_mapr fun _ => rfl) | exact Z.inL_gB ho fun _ => rfl)), ?_⟩)); trace "<<G20A1>>")))))); trace "<<L67>>")
    | ((((refine ⟨rfl, ?_, rfl⟩); (focus (repeat (first | ((exact Z.DK.nil); trace "<<G21A0>>") | ((apply Z.DK.cons); trace "<<G21A1>>")))))); trace "<<L68>>")
    | (((focus (exact (rfl : Nat.ble _ _ = true)))); trace "<<L69>>"))
  all_goals (try (conv => whnf))
  all_goals try (show Nat.ble _ _ = true; rfl)
  all_goals try (exfalso; rename_i hz; cases hz; done)
  all_goals try (exfalso; (try simp only [LN] at *) <;> omega)
  all_goals (
    apply loopQ3
    · intro Q0 hq9
      refine Z.loopK tabOk (fun zq : Nat => [(6, .val (.int .i64 (zq : Int)))]) (fun zq : Nat => ([(12, some (Z.Ob.b ⟨[[.v (.int .u64 (numR ((r.take 8).take zq)))]], 1, 24, true⟩)), (0, some (Z.Ob.b ⟨[[.ro true 1 (r.map eB), .v (.int .i64 0)]], 2, 77, true⟩)), (1, some (Z.Ob.b ⟨[[.own 0 0 0]], 1, 63, true⟩)), (4, some (Z.Ob.b ⟨[[.own 0 0 0]], 1, 63, true⟩)), (5, some (Z.Ob.m ⟨[(Value.int .u8 1, 0, A0.one (Ce.mf 42 [Pt.ag [Pa.own 0 0 0]])), (Value.int .u8 2, 1, A0.one (Ce.mf 43 [Pt.ag [Pa.own 0 0 0]])), (Value.int .u8 3, 2, A0.one (Ce.mf 44 [Pt.ag [Pa.own 0 0 0]]))], 3⟩)), (6, (gB 5 26 (acc.map cE)).map Z.Ob.b), (9, some (Z.Ob.b ⟨[[.own 0 0 0]], 1, 63, true⟩)), (10, some (Z.Ob.b ⟨[[.v (.int .i64 0), .v (.int .i64 0), .v (.int .i64 0), .v (.int .i64 0), .v (.int .u64 0)]], 5, 26, true⟩))] : Z.Kr)) (fun zq => zq ≤ 8) (fun zq => 8 - zq) 0 13 [(0, _), (2, _), (5, _)] ⟨rfl, rfl, rfl, trivial⟩ [] trivial ?_ ?_ rfl rfl (Nat.zero_le _) ?_
      · repeat' (first | ((exact trivial); trace "<<G22A0>>") | ((apply And.intro); trace "<<G22A1>>") | ((exact ⟨_, rfl, rfl⟩); trace "<<G22A2>>") | ((exact ⟨_, rfl, Z.Imp.refl _⟩); trace "<<G22A3>>") | ((exact ⟨_, rfl, Z.Imp.nilg _⟩); trace "<<G22A4>>") | ((exact ⟨_, rfl, Z.Imp.nilr _ _⟩); trace "<<G22A5>>"))
      · repeat' (first | ((exact trivial); trace "<<G23A0>>") | (((intro b hb; cases hb; done)); trace "<<G23A1>>") | ((exact (fun b hb => ⟨b, hb, Z.ImpO.refl b⟩)); trace "<<G23A2>>") | (((intro b hb; cases hb; refine ⟨_, rfl, ⟨rfl, rfl, rfl⟩, ⟨⟨Z.Imp.of_eq (congrArg (Ce.ro true 1) (by simp [tk_map]; done)), Z.Imp.refl _, trivial⟩, trivial⟩⟩; done)); trace "<<G23A3>>") | (((intro b hb; cases hb; refine ⟨_, rfl, ⟨rfl, rfl, rfl⟩, ?_⟩; (repeat' (first | ((exact trivial); trace "<<G24A0>>") | ((apply And.intro); trace "<<G24A1>>") | ((exact Z.Imp.refl _); trace "<<G24A2>>") | ((exact Z.Imp.nilg _); trace "<<G24A3>>") | ((exact Z.Imp.nilr _ _); trace "<<G24A4>>"))); done)); trace "<<G23A4>>") | (((intro b hb; cases hb; refine ⟨_, rfl, ⟨rfl, rfl, rfl⟩, Z.imp_eq ?_⟩; first | rfl | (simp [tk_map]; done); done)); trace "<<G23A5>>") | ((apply And.intro); trace "<<G23A6>>"))
      rintro j HINV
      (try dsimp only at HINV); (try dsimp only)
      by_cases hj : j < 8
      · obtain ⟨z9, hzd⟩ := getElem?_some' (xs := (r.take 8)) (i := j) (by simp; omega)
        have hzb := hBr z9 (List.mem_of_mem_take (List.mem_of_getElem? hzd))
        have hnl := num_lt (l := (r.take 8)) (i := j) (by omega) (by simp; omega) (isB_take hBr)
        generalize hnv : numR ((r.take 8).take j) = nv at *
        repeat' ((conv => whnf); first
          | ((with_reducible first | ((refine spB_t ?_); trace "<<G25A0>>")); trace "<<L88>>")
          | ((((with_reducible apply spB_cong); (focus (simp only [beq_self_eq_true, bne_self_eq_false, Bool.true_bne, Bool.false_bne, Bool.bne_true, Bool.bne_false, Bool.true_beq, Bool.false_beq, Bool.not_true, Bool.not_false, Bool.not_not, Int.reduceBEq, Int.reduceBNe, Int.reduceLE, Int.reduceLT, Int.reduceEq, decide_true, decide_false]; rfl)))); trace "<<L89>>")
          | ((with_reducible first | ((refine spB_yes (by decide) ?_); trace "<<G26A0>>") | ((refine spB_no (by decide) ?_); trace "<<G26A1>>") | ((refine spB_f ?_); trace "<<G26A2>>") | ((refine spB_not ?_); trace "<<G26A3>>") | ((refine spB_yes (by assumption) ?_); trace "<<G26A4>>") | ((refine spB_no (by assumption) ?_); trace "<<G26A5>>")); trace "<<L90>>")
          | (((with_reducible refine spB_dec ?_ ?_ <;> intro _ <;> (try (exfalso; first | contradiction | omega | (rename_i hz; refine hz ?_; simp; done) | (rename_i hz; simp at hz; done) | (simp only [LN] at *; omega))))); trace "<<L91>>")
          | (((with_reducible refine spB_beq ?_ ?_ <;> intro _ <;> (try (exfalso; first | contradiction | omega | (rename_i hz; refine hz ?_; simp; done) | (rename_i hz; simp at hz; done) | (simp only [LN] at *; omega))))); trace "<<L92>>")
          | (((with_reducible refine spB_bne ?_ ?_ <;> intro _ <;> (try (exfalso; first | contradiction | omega | (rename_i hz; refine hz ?_; simp; done) | (rename_i hz; simp at hz; done) | (simp only [LN] at *; omega))))); trace "<<L93>>")
          | (((with_reducible refine spB_mk ?_ ?_ <;> intro _ <;> (try (exfalso; first | contradiction | omega | (rename_i hz; refine hz ?_; simp; done) | (rename_i hz; simp at hz; done) | (simp only [LN] at *; omega))))); trace "<<L94>>")
          | ((((with_reducible refine Z.slN_lo 1 ?_ ?_ ?_); (focus rfl); (focus ((try simp only [LN] at *) <;> omega)))); trace "<<L95>>")
          | ((((with_reducible refine Z.slN_lo 8 ?_ ?_ ?_); (focus rfl); (focus ((try simp only [LN] at *) <;> omega)))); trace "<<L96>>")
          | (((refine loopZ_unr1 tabOk rfl ?_)); trace "<<L97>>")
          | ((((with_reducible refine wr_shl8 ?_ ?_); (focus omega))); trace "<<L98>>")
          | ((((with_reducible refine wr_or0 ?_ ?_); (focus omega))); trace "<<L99>>")
          | ((((with_reducible refine rowN_mk (eB z9) ?_ ?_); (focus (exact rest_at (by simp [tk_map]; done) hzd)))); trace "<<L100>>")
          | ((((with_reducible refine ixN_mk (j) ?_ ?_ ?_); (focus (first | ((rfl); trace "<<G27A0>>") | ((((try simp only [LN] at *) <;> omega)); trace "<<G27A1>>"))); (focus ((try simp only [LN] at *) <;> omega)))); trace "<<L101>>")
          | ((((with_reducible apply rowN_mk); (focus rfl))); trace "<<L102>>")
          | ((((with_reducible apply ixN_lit); (focus (exact rfl)); (focus (exact rfl)))); trace "<<L103>>")
          | ((((with_reducible apply ixN_litp); (focus (exact rfl)); (focus ((try simp only [LN] at *) <;> omega)))); trace "<<L104>>")
          | ((((with_reducible refine eqN_mk2 ?_ ?_); (focus rfl))); trace "<<L105>>")
          | ((with_reducible refine wr_i64 (by first | omega | (simp only [LN] at *; omega)) ?_); trace "<<L106>>")
          | ((with_reducible refine wr_u64 (by omega) ?_); trace "<<L107>>")
          | ((with_reducible refine wr_u8 (by omega) ?_); trace "<<L108>>")
          | ((with_reducible refine wr_u32 (by omega) ?_); trace "<<L109>>")
          | ((with_reducible first | ((refine wr_mk _ rfl ?_); trace "<<G28A0>>")); trace "<<L110>>")
          | ((((with_reducible refine ixN_nat ?_ ?_); (focus ((try simp only [LN] at *) <;> omega)))); trace "<<L111>>")
          | ((((with_reducible refine rowN_map ?_ ?_); (focus ((try simp only [LN] at *) <;> omega)); intro x hx)); trace "<<L112>>")
          | ((with_reducible refine vN_mod (by omega) ?_); trace "<<L113>>")
          | ((with_reducible first | ((refine vN_mk ?_); trace "<<G29A0>>")); trace "<<L114>>")
          | ((with_reducible refine nzN_mk (by omega) ?_); trace "<<L115>>")
          | ((with_reducible refine eqN_dec (by omega) ?_); trace "<<L116>>")
          | ((with_reducible first | ((refine apN_mk (by kernel_rfl) ?_); trace "<<G30A0>>")); trace "<<L117>>")
          | ((((with_reducible refine eqN_mk2 ?_ ?_); (focus (exact Z.kb_some rfl)))); trace "<<L118>>")
          | ((((with_reducible apply ex_and); exact rfl)); trace "<<L119>>")
          | ((with_reducible first | ((refine Z.drawZ_rule tabOk mixOk ?_); trace "<<G31A0>>") | ((refine Z.apZ_mk (by kernel_rfl) ?_); trace "<<G31A1>>")); trace "<<L120>>")
          | ((((with_reducible refine Z.ConZ.red ?_); (try subst hlb); (apply Z.conZ_all); (focus (repeat (first | ((exact Z.FK.nil); trace "<<G32A0>>") | (((apply Z.FK.keep; exact rfl)); trace "<<G32A1>>")))); (focus rfl); (focus rfl); (focus (repeat (first | ((exact trivial); trace "<<G33A0>>") | (((refine ⟨(fun o ho => (by first | (cases ho; rfl) | (cases ho; exact Z.inL_map fun _ => rfl) | (cases ho; exact Z.inL_mapr fun _ => rfl) | exact Z.inL_gB ho fun _ => rfl)), ?_⟩)); trace "<<G33A1>>")))))); trace "<<L121>>")
          | ((((refine ⟨rfl, ?_, rfl⟩); (focus (repeat (first | ((exact Z.DK.nil); trace "<<G34A0>>") | ((apply Z.DK.cons); trace "<<G34A1>>")))))); trace "<<L122>>")
          | (((focus (exact (rfl : Nat.ble _ _ = true)))); trace "<<L123>>"))
        all_goals (try (conv => whnf))
        all_goals try (show Nat.ble _ _ = true; rfl)
        all_goals try (exfalso; rename_i hz; cases hz; done)
        all_goals try (exfalso; (try simp only [LN] at *) <;> omega)
        all_goals first
          | ((((refine Z.rnd_rw 12 ([[.v (.int .u64 (numR ((r.take 8).take (j + 1))))]]) rfl rfl ?_ ?_); (focus (rw [take_snoc hzd, numR_snoc, hnv]; exact congrArg (fun z => [[Ce.v (.int .u64 z)]]) (or_add hnl hzb))); ((refine Z.rndK ((j + 1)) (fun s => [0, 1, 2, 3, 4, 5, 6, 7, 8, 9, 10, 11, 12]) rfl rfl rfl rfl ?_ ?_ ?_ ?_); (focus (repeat' (first | ((exact trivial); trace "<<G35A0>>") | ((exact Z.map_sub (Z.MapL.ren HM0 fun _ => rfl) rfl); trace "<<G35A1>>") | ((exact Z.it_sub rfl); trace "<<G35A2>>") | ((exact rfl); trace "<<G35A3>>") | (((rw [List.map_append]; exact rfl)); trace "<<G35A4>>") | ((apply And.intro); trace "<<G35A5>>")))); (focus (repeat' (first | ((exact trivial); trace "<<G36A0>>") | ((exact Z.map_sub (Z.MapL.ren HM0 fun _ => rfl) rfl); trace "<<G36A1>>") | ((exact Z.it_sub rfl); trace "<<G36A2>>") | (((intro b hb; cases hb; rfl)); trace "<<G36A3>>") | (((intro b hb; cases hb; subst hlb; rfl)); trace "<<G36A4>>") | (((intro b hb; cases hb; rw [List.map_append]; rfl)); trace "<<G36A5>>") | (((intro b hb; cases hb; done)); trace "<<G36A6>>") | ((exact Z.blk_sub rfl rfl (ren_map fun _ => rfl)); trace "<<G36A7>>") | ((exact Z.blk_sub rfl rfl (Z.ren_app (ren_map fun _ => rfl) (ren_map fun _ => rfl))); trace "<<G36A8>>") | ((exact Z.blk_sub rfl (by first | (rw [List.map_append]; rfl) | (rw [List.map_set]; rfl) | simp only [List.map_append, List.map_cons, List.map_nil, List.map_set]) (ren_map fun _ => rfl)); trace "<<G36A9>>") | ((exact Z.gB_sub rfl rfl (ren_map fun _ => rfl)); trace "<<G36A10>>") | ((exact Z.gB_sub' rfl (by first | rfl | (rw [List.map_append]; rfl) | simp only [List.map_append, List.map_cons, List.map_nil]) (ren_map fun _ => rfl)); trace "<<G36A11>>") | ((apply And.intro); trace "<<G36A12>>")))); (focus (((try dsimp only); omega))); ((try dsimp only); omega)))); trace "<<L129>>")
          | (((exfalso; rename_i hz; cases hz; done)); trace "<<L130>>")
          | (((exfalso; (try simp only [LN] at *) <;> omega)); trace "<<L131>>")
          | (((fail)); trace "<<L132>>")
      have hj8 : j = 8 := by omega
      repeat' ((conv => whnf); first
        | ((with_reducible first | ((refine spB_t ?_); trace "<<G37A0>>")); trace "<<L135>>")
        | ((((with_reducible apply spB_cong); (focus (simp only [beq_self_eq_true, bne_self_eq_false, Bool.true_bne, Bool.false_bne, Bool.bne_true, Bool.bne_false, Bool.true_beq, Bool.false_beq, Bool.not_true, Bool.not_false, Bool.not_not, Int.reduceBEq, Int.reduceBNe, Int.reduceLE, Int.reduceLT, Int.reduceEq, decide_true, decide_false]; rfl)))); trace "<<L136>>")
        | ((with_reducible first | ((refine spB_yes (by decide) ?_); trace "<<G38A0>>") | ((refine spB_no (by decide) ?_); trace "<<G38A1>>") | ((refine spB_f ?_); trace "<<G38A2>>") | ((refine spB_not ?_); trace "<<G38A3>>") | ((refine spB_yes (by assumption) ?_); trace "<<G38A4>>") | ((refine spB_no (by assumption) ?_); trace "<<G38A5>>")); trace "<<L137>>")
        | (((with_reducible refine spB_dec ?_ ?_ <;> intro _ <;> (try (exfalso; first | contradiction | omega | (rename_i hz; refine hz ?_; simp; done) | (rename_i hz; simp at hz; done) | (simp only [LN] at *; omega))))); trace "<<L138>>")
        | (((with_reducible refine spB_beq ?_ ?_ <;> intro _ <;> (try (exfalso; first | contradiction | omega | (rename_i hz; refine hz ?_; simp; done) | (rename_i hz; simp at hz; done) | (simp only [LN] at *; omega))))); trace "<<L139>>")
        | (((with_reducible refine spB_bne ?_ ?_ <;> intro _ <;> (try (exfalso; first | contradiction | omega | (rename_i hz; refine hz ?_; simp; done) | (rename_i hz; simp at hz; done) | (simp only [LN] at *; omega))))); trace "<<L140>>")
        | (((with_reducible refine spB_mk ?_ ?_ <;> intro _ <;> (try (exfalso; first | contradiction | omega | (rename_i hz; refine hz ?_; simp; done) | (rename_i hz; simp at hz; done) | (simp only [LN] at *; omega))))); trace "<<L141>>")
        | ((((with_reducible refine Z.slN_lo 1 ?_ ?_ ?_); (focus rfl); (focus ((try simp only [LN] at *) <;> omega)))); trace "<<L142>>")
        | ((((with_reducible refine Z.slN_lo 8 ?_ ?_ ?_); (focus rfl); (focus ((try simp only [LN] at *) <;> omega)))); trace "<<L143>>")
        | (((refine loopZ_unr1 tabOk rfl ?_)); trace "<<L144>>")
        | ((((with_reducible refine wr_shl8 ?_ ?_); (focus omega))); trace "<<L145>>")
        | ((((with_reducible refine wr_or0 ?_ ?_); (focus omega))); trace "<<L146>>")
        | ((((with_reducible apply rowN_mk); (focus rfl))); trace "<<L147>>")
        | ((((with_reducible apply ixN_lit); (focus (exact rfl)); (focus (exact rfl)))); trace "<<L148>>")
        | ((((with_reducible apply ixN_litp); (focus (exact rfl)); (focus ((try simp only [LN] at *) <;> omega)))); trace "<<L149>>")
        | ((((with_reducible refine eqN_mk2 ?_ ?_); (focus rfl))); trace "<<L150>>")
        | ((with_reducible refine wr_i64 (by first | omega | (simp only [LN] at *; omega)) ?_); trace "<<L151>>")
        | ((with_reducible refine wr_u64 (by omega) ?_); trace "<<L152>>")
        | ((with_reducible refine wr_u8 (by omega) ?_); trace "<<L153>>")
        | ((with_reducible refine wr_u32 (by omega) ?_); trace "<<L154>>")
        | ((with_reducible first | ((refine wr_mk _ rfl ?_); trace "<<G39A0>>")); trace "<<L155>>")
        | ((((with_reducible refine ixN_nat ?_ ?_); (focus ((try simp only [LN] at *) <;> omega)))); trace "<<L156>>")
        | ((((with_reducible refine rowN_map ?_ ?_); (focus ((try simp only [LN] at *) <;> omega)); intro x hx)); trace "<<L157>>")
        | ((with_reducible refine vN_mod (by omega) ?_); trace "<<L158>>")
        | ((with_reducible first | ((refine vN_mk ?_); trace "<<G40A0>>")); trace "<<L159>>")
        | ((with_reducible refine nzN_mk (by omega) ?_); trace "<<L160>>")
        | ((with_reducible refine eqN_dec (by omega) ?_); trace "<<L161>>")
        | ((with_reducible first | ((refine apN_mk (by kernel_rfl) ?_); trace "<<G41A0>>")); trace "<<L162>>")
        | ((((with_reducible refine eqN_mk2 ?_ ?_); (focus (exact Z.kb_some rfl)))); trace "<<L163>>")
        | ((((with_reducible apply ex_and); exact rfl)); trace "<<L164>>")
        | ((with_reducible first | ((refine Z.drawZ_rule tabOk mixOk ?_); trace "<<G42A0>>") | ((refine Z.apZ_mk (by kernel_rfl) ?_); trace "<<G42A1>>")); trace "<<L165>>")
        | ((((with_reducible refine Z.ConZ.red ?_); (try subst hlb); (apply Z.conZ_all); (focus (repeat (first | ((exact Z.FK.nil); trace "<<G43A0>>") | (((apply Z.FK.keep; exact rfl)); trace "<<G43A1>>")))); (focus rfl); (focus rfl); (focus (repeat (first | ((exact trivial); trace "<<G44A0>>") | (((refine ⟨(fun o ho => (by first | (cases ho; rfl) | (cases ho; exact Z.inL_map fun _ => rfl) | (cases ho; exact Z.inL_mapr fun _ => rfl) | exact Z.inL_gB ho fun _ => rfl)), ?_⟩)); trace "<<G44A1>>")))))); trace "<<L166>>")
        | ((((refine ⟨rfl, ?_, rfl⟩); (focus (repeat (first | ((exact Z.DK.nil); trace "<<G45A0>>") | ((apply Z.DK.cons); trace "<<G45A1>>")))))); trace "<<L167>>")
        | (((focus (exact (rfl : Nat.ble _ _ = true)))); trace "<<L168>>"))
      all_goals (try (conv => whnf))
      subst hj8
      exact hq9
    rw [show (r.take 8).take 8 = r.take 8 from List.take_of_length_le (List.length_take_le ..)]
    generalize hnv9 : numR (r.take 8) = v9 at *
    repeat' ((conv => whnf); first
      | ((with_reducible first | ((refine spB_t ?_); trace "<<G46A0>>")); trace "<<L175>>")
      | ((((with_reducible apply spB_cong); (focus (simp only [beq_self_eq_true, bne_self_eq_false, Bool.true_bne, Bool.false_bne, Bool.bne_true, Bool.bne_false, Bool.true_beq, Bool.false_beq, Bool.not_true, Bool.not_false, Bool.not_not, Int.reduceBEq, Int.reduceBNe, Int.reduceLE, Int.reduceLT, Int.reduceEq, decide_true, decide_false]; rfl)))); trace "<<L176>>")
      | ((with_reducible first | ((refine spB_yes (by decide) ?_); trace "<<G47A0>>") | ((refine spB_no (by decide) ?_); trace "<<G47A1>>") | ((refine spB_f ?_); trace "<<G47A2>>") | ((refine spB_not ?_); trace "<<G47A3>>") | ((refine spB_yes (by assumption) ?_); trace "<<G47A4>>") | ((refine spB_no (by assumption) ?_); trace "<<G47A5>>")); trace "<<L177>>")
      | (((with_reducible refine spB_dec ?_ ?_ <;> intro _ <;> (try (exfalso; first | contradiction | omega | (rename_i hz; refine hz ?_; simp; done) | (rename_i hz; simp at hz; done) | (simp only [LN] at *; omega))))); trace "<<L178>>")
      | (((with_reducible refine spB_beq ?_ ?_ <;> intro _ <;> (try (exfalso; first | contradiction | omega | (rename_i hz; refine hz ?_; simp; done) | (rename_i hz; simp at hz; done) | (simp only [LN] at *; omega))))); trace "<<L179>>")
      | (((with_reducible refine spB_bne ?_ ?_ <;> intro _ <;> (try (exfalso; first | contradiction | omega | (rename_i hz; refine hz ?_; simp; done) | (rename_i hz; simp at hz; done) | (simp only [LN] at *; omega))))); trace "<<L180>>")
      | (((with_reducible refine spB_mk ?_ ?_ <;> intro _ <;> (try (exfalso; first | contradiction | omega | (rename_i hz; refine hz ?_; simp; done) | (rename_i hz; simp at hz; done) | (simp only [LN] at *; omega))))); trace "<<L181>>")
      | (((refine Z.updN.mk ⟨_, rfl, ?_⟩)); trace "<<L182>>")
      | (((refine Z.lookN.mk ⟨_, _, rfl, ?_⟩)); trace "<<L183>>")
      | ((with_reducible first | ((refine Z.callZ_mfa ?_); trace "<<G48A0>>")); trace "<<L184>>")
      | ((((refine sl3N_mk 0 1 1 rfl rfl rfl ?_ ?_ ?_ ?_ ?_); (iterate 4 (focus (first | ((exact .inl rfl); trace "<<G49A0>>") | ((((try simp only [LN] at *) <;> omega)); trace "<<G49A1>>")))))); trace "<<L185>>")
      | ((((refine sl3N_mk 0 8 8 rfl rfl rfl ?_ ?_ ?_ ?_ ?_); (iterate 4 (focus (first | ((exact .inl rfl); trace "<<G50A0>>") | ((((try simp only [LN] at *) <;> omega)); trace "<<G50A1>>")))))); trace "<<L186>>")
      | ((((with_reducible refine Z.slN_lo 1 ?_ ?_ ?_); (focus rfl); (focus ((try simp only [LN] at *) <;> omega)))); trace "<<L187>>")
      | ((((with_reducible refine Z.slN_lo 8 ?_ ?_ ?_); (focus rfl); (focus ((try simp only [LN] at *) <;> omega)))); trace "<<L188>>")
      | (((refine loopZ_unr1 tabOk rfl ?_)); trace "<<L189>>")
      | ((((with_reducible refine wr_shl8 ?_ ?_); (focus omega))); trace "<<L190>>")
      | ((((with_reducible refine wr_or0 ?_ ?_); (focus omega))); trace "<<L191>>")
      | ((with_reducible first | ((refine rowN_mk _ rfl ?_); trace "<<G51A0>>")); trace "<<L192>>")
      | (((refine wr_mk (IntKind.i64.wrap (v9)) rfl ?_)); trace "<<L193>>")
      | ((((with_reducible refine posE_pos ?_ ?_); (focus ((try simp only [LN] at *) <;> omega)))); trace "<<L194>>")
      | ((((with_reducible refine posE_nil ?_ ?_); (focus rfl))); trace "<<L195>>")
      | ((((with_reducible apply rowN_mk); (focus rfl))); trace "<<L196>>")
      | ((((with_reducible apply ixN_lit); (focus (exact rfl)); (focus (exact rfl)))); trace "<<L197>>")
      | ((((with_reducible apply ixN_litp); (focus (exact rfl)); (focus ((try simp only [LN] at *) <;> omega)))); trace "<<L198>>")
      | ((((with_reducible refine eqN_mk2 ?_ ?_); (focus rfl))); trace "<<L199>>")
      | ((((with_reducible refine posN_mk2 ?_ ?_); (focus (first | ((decide); trace "<<G52A0>>") | ((((try simp only [LN] at *) <;> omega)); trace "<<G52A1>>"))))); trace "<<L200>>")
      | ((((with_reducible refine apdE_r ?_); (with_reducible refine aprN.mk ⟨_, rfl, ?_⟩ ?_ ?_ ?_ ?_); (focus ((try simp only [LN] at *) <;> omega)); (focus (first | ((rfl); trace "<<G53A0>>") | (((simp; done)); trace "<<G53A1>>") | ((((try simp only [LN] at *) <;> omega)); trace "<<G53A2>>"))); (focus (first | ((exact one_all (by rfl)); trace "<<G54A0>>") | ((exact one_map (fun _ => rfl)); trace "<<G54A1>>") | ((exact one_map2 (fun _ => rfl)); trace "<<G54A2>>") | ((exact one_drop (fun _ => rfl)); trace "<<G54A3>>"))); (focus ((try simp only [LN] at *) <;> omega)))); trace "<<L201>>")
      | ((((with_reducible refine apdE_k ?_); (with_reducible refine apkN.mk ⟨_, rfl, ?_⟩ ?_); (focus ((try simp only [LN] at *) <;> omega)))); trace "<<L202>>")
      | ((with_reducible first | ((refine apdE_n ?_); trace "<<G55A0>>")); trace "<<L203>>")
      | ((((with_reducible refine slE_a ?_ ?_); (focus ((try simp only [LN] at *) <;> omega)))); trace "<<L204>>")
      | ((((with_reducible refine slE_b ?_ ?_); (focus ((try simp only [LN] at *) <;> omega)))); trace "<<L205>>")
      | ((((with_reducible refine slE_split ?_ ?_ ?_); (focus ((try simp only [LN] at *) <;> omega)); (all_goals intro _))); trace "<<L206>>")
      | ((((with_reducible apply sl3N_mk); (focus (exact rfl)); (focus (exact rfl)); (focus (exact rfl)); (focus ((try simp only [LN] at *) <;> omega)); (focus ((try simp only [LN] at *) <;> omega)); (focus ((try simp only [LN] at *) <;> omega)); (focus ((try simp only [LN] at *) <;> omega)))); trace "<<L207>>")
      | ((((with_reducible refine apdN.mk ?_ ?_ ?_ ?_ ?_ ?_); (focus (first | ((rfl); trace "<<G56A0>>") | (((simp; done)); trace "<<G56A1>>"))); (focus (first | ((exact one_all (by rfl)); trace "<<G57A0>>") | ((exact one_map (fun _ => rfl)); trace "<<G57A1>>") | ((exact one_map2 (fun _ => rfl)); trace "<<G57A2>>"))); (focus ((try simp only [LN] at *) <;> omega)); (focus ((try simp only [LN] at *) <;> omega)); (focus ((try simp only [LN] at *) <;> omega)))); trace "<<L208>>")
      | ((with_reducible refine wr_i64 (by first | omega | (simp only [LN] at *; omega)) ?_); trace "<<L209>>")
      | ((with_reducible refine wr_u64 (by omega) ?_); trace "<<L210>>")
      | ((with_reducible refine wr_u8 (by omega) ?_); trace "<<L211>>")
      | ((with_reducible refine wr_u32 (by omega) ?_); trace "<<L212>>")
      | ((with_reducible first | ((refine wr_mk _ rfl ?_); trace "<<G58A0>>")); trace "<<L213>>")
      | ((((with_reducible refine ixN_nat ?_ ?_); (focus ((try simp only [LN] at *) <;> omega)))); trace "<<L214>>")
      | ((((with_reducible refine rowN_map ?_ ?_); (focus ((try simp only [LN] at *) <;> omega)); intro x hx)); trace "<<L215>>")
      | ((((with_reducible refine posE_nil (by rfl) ?_))); trace "<<L216>>")
      | ((((with_reducible refine posE_pos (by decide) ?_))); trace "<<L217>>")
      | ((with_reducible refine vN_mod (by omega) ?_); trace "<<L218>>")
      | ((with_reducible first | ((refine vN_mk ?_); trace "<<G59A0>>")); trace "<<L219>>")
      | ((with_reducible refine nzN_mk (by omega) ?_); trace "<<L220>>")
      | ((with_reducible refine eqN_dec (by omega) ?_); trace "<<L221>>")
      | ((with_reducible first | ((refine apN_mk (by kernel_rfl) ?_); trace "<<G60A0>>") | ((refine Z.callZ_in tabOk 38 Try.f42 _ Try.func42 (by kernel_rfl) rfl rfl rfl ?_); trace "<<G60A1>>") | ((refine Z.callZ_in tabOk 20 Try.f43 _ Try.func43 (by kernel_rfl) rfl rfl rfl ?_); trace "<<G60A2>>") | ((refine Z.callZ_in tabOk 5 Try.f44 _ Try.func44 (by kernel_rfl) rfl rfl rfl ?_); trace "<<G60A3>>") | ((refine Z.callZ_in tabOk 18 Try.f47 _ Try.func47 (by kernel_rfl) rfl rfl rfl ?_); trace "<<G60A4>>") | ((refine Z.callZ_in tabOk 10 Try.f35 _ Try.func35 (by kernel_rfl) rfl rfl rfl ?_); trace "<<G60A5>>") | ((refine Z.callZ_in tabOk 5 Try.f49 _ Try.func49 (by kernel_rfl) rfl rfl rfl ?_); trace "<<G60A6>>") | ((refine Z.callZ_in tabOk 10 Try.f41 _ Try.func41 (by kernel_rfl) rfl rfl rfl ?_); trace "<<G60A7>>") | ((refine Z.callZ_in tabOk 58 Try.f46 _ Try.func46 (by kernel_rfl) rfl rfl rfl ?_); trace "<<G60A8>>") | ((refine Z.callZ_in tabOk 18 Try.f48 _ Try.func48 (by kernel_rfl) rfl rfl rfl ?_); trace "<<G60A9>>") | ((refine Z.callZ_in tabOk 6 Try.f33 _ Try.func33 (by kernel_rfl) rfl rfl rfl ?_); trace "<<G60A10>>")); trace "<<L222>>")
      | ((((first | (((with_reducible refine Z.conZ_mz ?_ (ce) ?_)); trace "<<G61A0>>") | (((with_reducible refine Z.callZ_mk ?_ (ce) ?_)); trace "<<G61A1>>")); (focus ((repeat' (first | ((exact trivial); trace "<<G62A0>>") | ((exact rfl); trace "<<G62A1>>") | ((exact Z.low_nil); trace "<<G62A2>>") | ((exact Z.low_nil2); trace "<<G62A3>>") | ((exact low_osl (fun _ => rfl)); trace "<<G62A4>>") | (((refine Z.low_osln ?_ (fun _ => rfl); (simp only [List.length_map]; done))); trace "<<G62A5>>") | ((exact low_oslr (fun _ => rfl)); trace "<<G62A6>>") | ((exact Z.low_gslm (by first | rfl | exact Z.kb_some rfl) (fun _ => rfl)); trace "<<G62A7>>") | ((exact .inl rfl); trace "<<G62A8>>") | ((exact .inr ⟨_, rfl⟩); trace "<<G62A9>>") | ((apply And.intro); trace "<<G62A10>>"))); done)))); trace "<<L223>>")
      | ((((with_reducible refine eqN_mk2 ?_ ?_); (focus (exact Z.kb_some rfl)))); trace "<<L224>>")
      | ((((with_reducible apply ex_and); exact rfl)); trace "<<L225>>")
      | ((with_reducible first | ((refine Z.drawZ_rule tabOk mixOk ?_); trace "<<G63A0>>") | ((refine Z.apZ_mk (by kernel_rfl) ?_); trace "<<G63A1>>")); trace "<<L226>>")
      | ((((with_reducible refine Z.ConZ.red ?_); (try subst hlb); (apply Z.conZ_all); (focus (repeat (first | ((exact Z.FK.nil); trace "<<G64A0>>") | (((apply Z.FK.keep; exact rfl)); trace "<<G64A1>>")))); (focus rfl); (focus rfl); (focus (repeat (first | ((exact trivial); trace "<<G65A0>>") | (((refine ⟨(fun o ho => (by first | (cases ho; rfl) | (cases ho; exact Z.inL_map fun _ => rfl) | (cases ho; exact Z.inL_mapr fun _ => rfl) | exact Z.inL_gB ho fun _ => rfl)), ?_⟩)); trace "<<G65A1>>")))))); trace "<<L227>>")
      | ((((refine ⟨rfl, ?_, rfl⟩); (focus (repeat (first | ((exact Z.DK.nil); trace "<<G66A0>>") | ((apply Z.DK.cons); trace "<<G66A1>>")))))); trace "<<L228>>")
      | (((focus (exact (rfl : Nat.ble _ _ = true)))); trace "<<L229>>"))
    all_goals (try (conv => whnf))
    all_goals try (show Nat.ble _ _ = true; rfl)
    all_goals try (exfalso; rename_i hz; cases hz; done)
    all_goals try (exfalso; (try simp only [LN] at *) <;> omega))
  all_goals first
    | ((exact hQ _ _ _ rfl rfl); trace "<<L235>>")
    | (((exfalso; rename_i hz; cases hz; done)); trace "<<L236>>")
    | (((exfalso; (try simp only [LN] at *) <;> omega)); trace "<<L237>>")
    | (((fail)); trace "<<L238>>")
end Go.Proofs.Ytpnfogckdceiaaa
namespace Go.Proofs.Ytpnfogckdceiaaa
open Go Go.RowKit Wx
set_option linter.unusedVariables false
set_option linter.unusedSimpArgs false
set_option maxHeartbeats 400000000
theorem dec_b2 (b : List Int) (N i : Nat) (acc : List El) (r : List Int) (hB : isB (2 :: r)) (hL : ((2 :: r) : List Int).length ≤ 1099511627776) (HC : acc.length = i) (HD : decN N b = preD acc (decN (N - i) (2 :: r))) (hi : i < N) (hN : N ≤ 200) (h4 : 8 ≤ r.length) (h5 : 1 ≤ numR (r.take 8) ∧ numR (r.take 8) ≤ 4611686018427387904) {Q : Exit → Z.S → Prop} : Z.codeZ Try.prog tab 56 4 none (lbody Try.f34) ⟨dCH (i, (2 :: r), acc) ++ dFk N, dCK (i, (2 :: r), acc) ++ dKk, 7⟩ (loopPost (dRnd b N (i, (2 :: r), acc)) Q) := by
  have hd1 : dec1 (2 :: r) = (⟨2, 0, 0, 0, numR (r.take 8)⟩, 0, (r.drop 8)) := dec1_b h4 h5
  dsimp only [dCH, dFk, dCK, dKk, dRnd]
  have hBr : isB r := fun x hx => hB x (by simp [hx])
  have hv0 : 0 ≤ numR (r.take 8) := (numR_lt (n := 8) (by simp; omega) (isB_take hBr)).1
  have ce := checkE_con ⟨2, 0, 0, 0, numR (r.take 8)⟩ hv0
  rw [show okE ⟨2, 0, 0, 0, numR (r.take 8)⟩ = true from decide_eq_true (by simp; omega)] at ce
  dsimp only at ce
  simp only [cond_true, cond_false] at ce
  repeat' ((conv => whnf); first
    | with_reducible first | refine spB_t ?_
    | ((with_reducible apply spB_cong); (focus (simp only [beq_self_eq_true, bne_self_eq_false, Bool.true_bne, Bool.false_bne, Bool.bne_true, Bool.bne_false, Bool.true_beq, Bool.false_beq, Bool.not_true, Bool.not_false, Bool.not_not, Int.reduceBEq, Int.reduceBNe, Int.reduceLE, Int.reduceLT, Int.reduceEq, decide_true, decide_false]; rfl)))
    | with_reducible first | refine spB_no (by decide) ?_
    | (with_reducible refine spB_dec ?_ ?_ <;> intro _ <;> (try (exfalso; first | contradiction | omega | (rename_i hz; refine hz ?_; simp; done) | (rename_i hz; simp at hz; done) | (simp only [LN] at *; omega))))
    | (refine Z.lookN.mk ⟨_, _, rfl, ?_⟩)
    | with_reducible first | refine Z.callZ_mfa ?_
    | ((refine sl3N_mk 0 1 1 rfl rfl rfl ?_ ?_ ?_ ?_ ?_); (iterate 4 (focus (first | exact .inl rfl | ((try simp only [LN] at *) <;> omega)))))
    | ((refine sl3N_mk 0 8 8 rfl rfl rfl ?_ ?_ ?_ ?_ ?_); (iterate 4 (focus (first | exact .inl rfl | ((try simp only [LN] at *) <;> omega)))))
    | ((with_reducible refine Z.slN_lo 1 ?_ ?_ ?_); (focus rfl); (focus ((try simp only [LN] at *) <;> omega)))
    | (refine loopZ_unr1 tabOk rfl ?_)
    | ((with_reducible refine wr_shl8 ?_ ?_); (focus omega))
    | ((with_reducible refine wr_or0 ?_ ?_); (focus omega))
    | with_reducible first | refine rowN_mk _ rfl ?_
    | ((with_reducible apply ixN_lit); (focus (exact rfl)); (focus (exact rfl)))
    | ((with_reducible refine eqN_mk2 ?_ ?_); (focus rfl))
    | with_reducible refine wr_i64 (by first | omega | (simp only [LN] at *; omega)) ?_
    | with_reducible refine wr_u64 (by omega) ?_
    | with_reducible first | refine Z.callZ_in tabOk 20 Try.f43 _ Try.func43 (by kernel_rfl) rfl rfl rfl ?_ | refine Z.callZ_in tabOk 18 Try.f47 _ Try.func47 (by kernel_rfl) rfl rfl rfl ?_ | refine Z.callZ_in tabOk 10 Try.f35 _ Try.func35 (by kernel_rfl) rfl rfl rfl ?_ | refine Z.callZ_in tabOk 5 Try.f49 _ Try.func49 (by kernel_rfl) rfl rfl rfl ?_ | refine Z.callZ_in tabOk 10 Try.f41 _ Try.func41 (by kernel_rfl) rfl rfl rfl ?_ | refine Z.callZ_in tabOk 58 Try.f46 _ Try.func46 (by kernel_rfl) rfl rfl rfl ?_ | refine Z.callZ_in tabOk 6 Try.f33 _ Try.func33 (by kernel_rfl) rfl rfl rfl ?_
    | ((with_reducible apply ex_and); exact rfl)
    | with_reducible first | refine Z.drawZ_rule tabOk mixOk ?_ | refine Z.apZ_mk (by kernel_rfl) ?_)
  all_goals (try (conv => whnf))
  all_goals try (show Nat.ble _ _ = true; rfl)
  all_goals try (exfalso; rename_i hz; cases hz; done)
  all_goals try (exfalso; (try simp only [LN] at *) <;> omega)
  all_goals (
    apply loopQ3
    · intro Q0 hq9
      refine Z.loopK tabOk (fun zq : Nat => [(6, .val (.int .i64 (zq : Int)))]) (fun zq : Nat => ([(12, some (Z.Ob.b ⟨[[.v (.int .u64 (numR ((r.take 8).take zq)))]], 1, 24, true⟩)), (0, some (Z.Ob.b ⟨[[.ro true 1 (r.map eB), .v (.int .i64 0)]], 2, 77, true⟩)), (1, some (Z.Ob.b ⟨[[.own 0 0 0]], 1, 63, true⟩)), (4, some (Z.Ob.b ⟨[[.own 0 0 0]], 1, 63, true⟩)), (5, some (Z.Ob.m ⟨[(Value.int .u8 1, 0, A0.one (Ce.mf 42 [Pt.ag [Pa.own 0 0 0]])), (Value.int .u8 2, 1, A0.one (Ce.mf 43 [Pt.ag [Pa.own 0 0 0]])), (Value.int .u8 3, 2, A0.one (Ce.mf 44 [Pt.ag [Pa.own 0 0 0]]))], 3⟩)), (6, (gB 5 26 (acc.map cE)).map Z.Ob.b), (9, some (Z.Ob.b ⟨[[.own 0 0 0]], 1, 63, true⟩)), (10, some (Z.Ob.b ⟨[[.v (.int .i64 0), .v (.int .i64 0), .v (.int .i64 0), .v (.int .i64 0), .v (.int .u64 0)]], 5, 26, true⟩))] : Z.Kr)) (fun zq => zq ≤ 8) (fun zq => 8 - zq) 0 13 [(0, _), (2, _), (5, _)] ⟨rfl, rfl, rfl, trivial⟩ [] trivial ?_ ?_ rfl rfl (Nat.zero_le _) ?_
      · repeat' (first | exact trivial | apply And.intro | exact ⟨_, rfl, Z.Imp.refl _⟩)
      · repeat' (first | exact trivial | exact (fun b hb => ⟨b, hb, Z.ImpO.refl b⟩) | (intro b hb; cases hb; refine ⟨_, rfl, ⟨rfl, rfl, rfl⟩, ⟨⟨Z.Imp.of_eq (congrArg (Ce.ro true 1) (by simp [tk_map]; done)), Z.Imp.refl _, trivial⟩, trivial⟩⟩; done) | apply And.intro)
      rintro j HINV
      (try dsimp only at HINV); (try dsimp only)
      by_cases hj : j < 8
      · obtain ⟨z9, hzd⟩ := getElem?_some' (xs := (r.take 8)) (i := j) (by simp; omega)
        have hzb := hBr z9 (List.mem_of_mem_take (List.mem_of_getElem? hzd))
        have hnl := num_lt (l := (r.take 8)) (i := j) (by omega) (by simp; omega) (isB_take hBr)
        generalize hnv : numR ((r.take 8).take j) = nv at *
        repeat' ((conv => whnf); first
          | (with_reducible refine spB_dec ?_ ?_ <;> intro _ <;> (try (exfalso; first | contradiction | omega | (rename_i hz; refine hz ?_; simp; done) | (rename_i hz; simp at hz; done) | (simp only [LN] at *; omega))))
          | ((with_reducible refine wr_shl8 ?_ ?_); (focus omega))
          | ((with_reducible refine rowN_mk (eB z9) ?_ ?_); (focus (exact rest_at (by simp [tk_map]; done) hzd)))
          | ((with_reducible refine ixN_mk (j) ?_ ?_ ?_); (focus (first | rfl)); (focus ((try simp only [LN] at *) <;> omega)))
          | ((with_reducible refine eqN_mk2 ?_ ?_); (focus rfl))
          | with_reducible refine wr_i64 (by first | omega | (simp only [LN] at *; omega)) ?_
          | with_reducible refine wr_u64 (by omega) ?_
          | with_reducible first | refine Z.drawZ_rule tabOk mixOk ?_ | refine Z.apZ_mk (by kernel_rfl) ?_)
        all_goals (try (conv => whnf))
        all_goals try (show Nat.ble _ _ = true; rfl)
        all_goals try (exfalso; rename_i hz; cases hz; done)
        all_goals try (exfalso; (try simp only [LN] at *) <;> omega)
        all_goals first
          | ((refine Z.rnd_rw 12 ([[.v (.int .u64 (numR ((r.take 8).take (j + 1))))]]) rfl rfl ?_ ?_); (focus (rw [take_snoc hzd, numR_snoc, hnv]; exact congrArg (fun z => [[Ce.v (.int .u64 z)]]) (or_add hnl hzb))); ((refine Z.rndK ((j + 1)) (fun s => [0, 1, 2, 3, 4, 5, 6, 7, 8, 9, 10, 11, 12]) rfl rfl rfl rfl ?_ ?_ ?_ ?_); (focus (repeat' (first | exact trivial | exact rfl | apply And.intro))); (focus (repeat' (first | exact trivial | (intro b hb; cases hb; rfl) | exact Z.gB_sub rfl rfl (ren_map fun _ => rfl) | apply And.intro))); (focus (((try dsimp only); omega))); ((try dsimp only); omega)))
      have hj8 : j = 8 := by omega
      repeat' ((conv => whnf); first
        | (with_reducible refine spB_dec ?_ ?_ <;> intro _ <;> (try (exfalso; first | contradiction | omega | (rename_i hz; refine hz ?_; simp; done) | (rename_i hz; simp at hz; done) | (simp only [LN] at *; omega)))))
      all_goals (try (conv => whnf))
      subst hj8
      exact hq9
    rw [show (r.take 8).take 8 = r.take 8 from List.take_of_length_le (List.length_take_le ..)]
    generalize hnv9 : numR (r.take 8) = v9 at *
    repeat' ((conv => whnf); first
      | ((with_reducible apply spB_cong); (focus (simp only [beq_self_eq_true, bne_self_eq_false, Bool.true_bne, Bool.false_bne, Bool.bne_true, Bool.bne_false, Bool.true_beq, Bool.false_beq, Bool.not_true, Bool.not_false, Bool.not_not, Int.reduceBEq, Int.reduceBNe, Int.reduceLE, Int.reduceLT, Int.reduceEq, decide_true, decide_false]; rfl)))
      | with_reducible first | refine spB_no (by decide) ?_
      | ((with_reducible refine Z.slN_lo 8 ?_ ?_ ?_); (focus rfl); (focus ((try simp only [LN] at *) <;> omega)))
      | ((with_reducible refine posE_pos ?_ ?_); (focus ((try simp only [LN] at *) <;> omega)))
      | ((with_reducible refine apdN.mk ?_ ?_ ?_ ?_ ?_ ?_); (focus (first | rfl)); (focus (first | exact one_all (by rfl))); (focus ((try simp only [LN] at *) <;> omega)); (focus ((try simp only [LN] at *) <;> omega)); (focus ((try simp only [LN] at *) <;> omega)))
      | with_reducible refine wr_i64 (by first | omega | (simp only [LN] at *; omega)) ?_
      | with_reducible first | refine Z.callZ_in tabOk 10 Try.f35 _ Try.func35 (by kernel_rfl) rfl rfl rfl ?_
      | ((first | (with_reducible refine Z.conZ_mz ?_ (ce) ?_)); (focus ((repeat' (first | exact trivial | exact rfl | apply And.intro)); done)))
      | ((with_reducible refine eqN_mk2 ?_ ?_); (focus (exact Z.kb_some rfl)))
      | ((with_reducible apply ex_and); exact rfl)
      | with_reducible first | refine Z.drawZ_rule tabOk mixOk ?_ | refine Z.apZ_mk (by kernel_rfl) ?_)
    all_goals (try (conv => whnf))
    all_goals try (show Nat.ble _ _ = true; rfl)
    all_goals try (exfalso; rename_i hz; cases hz; done)
    all_goals try (exfalso; (try simp only [LN] at *) <;> omega))
  all_goals first
    | ((refine Z.rnd_bi 0 [[.ro true 1 ((r.drop 8).map eB), _]] rfl rfl ⟨⟨Z.Imp.of_eq (congrArg (Ce.ro true 1) (by first | (simp; done) | (simp [tk_map]; done) | (simp [tk_map, List.take_of_length_le]; done))), Z.Imp.refl _, trivial⟩, trivial⟩ ?_); ((refine Z.rndK ((i + 1, (r.drop 8), acc ++ [⟨2, 0, 0, 0, v9⟩])) (fun s => [0, 1, 2, 3, 4, 5, s.idAt 7]) rfl rfl rfl rfl ?_ ?_ ?_ ?_); (focus (repeat' (first | exact trivial | exact rfl | (rw [List.map_append (f := cE)]; exact rfl) | apply And.intro))); (focus (repeat' (first | exact trivial | (intro b hb; cases hb; rfl) | exact Z.gB_sub' rfl (by first | rfl | (rw [List.map_append]; rfl) | simp only [List.map_append, List.map_cons, List.map_nil]) (ren_map fun _ => rfl) | apply And.intro))); (focus (exact ⟨by (try dsimp only); omega, ⟨by (try dsimp only); first | exact isB_drop hBr | exact hBr, by (try dsimp only); (try simp only [List.length_cons, List.length_drop] at *); omega⟩, by (try dsimp only); rw [List.length_append, HC]; rfl, by (try dsimp only); rw [HD, show N - i = (N - (i + 1)) + 1 by omega, preD_step hd1]⟩)); ((try dsimp only); omega)))
end Go.Proofs.Ytpnfogckdceiaaa
namespace Go.Proofs.Ytpnfogckdceiaaa
open Go Go.RowKit Wx
set_option linter.unusedVariables false
set_option linter.unusedSimpArgs false
set_option maxHeartbeats 40000000
theorem dec_n0 (b : List Int) (N i : Nat) (acc : List El) (r : List Int) (hB : isB (3 :: r)) (hL : ((3 :: r) : List Int).length ≤ 1099511627776) (HC : acc.length = i) (HD : decN N b = preD acc (decN (N - i) (3 :: r))) (hi : i < N) (hN : N ≤ 200)  {Q : Exit → Z.S → Prop} : Z.codeZ Try.prog tab 56 4 none (lbody Try.f34) ⟨dCH (i, (3 :: r), acc) ++ dFk N, dCK (i, (3 :: r), acc) ++ dKk, 7⟩ (loopPost (dRnd b N (i, (3 :: r), acc)) Q) := by
  have hd1 : dec1 (3 :: r) = (⟨3, 0, 0, 0, 0⟩, 0, r) := rfl
  dsimp only [dCH, dFk, dCK, dKk, dRnd]
  have hBr : isB r := fun x hx => hB x (by simp [hx])
  repeat' ((conv => whnf); first
    | with_reducible first | refine spB_t ?_
    | ((with_reducible apply spB_cong); (focus (simp only [beq_self_eq_true, bne_self_eq_false, Bool.true_bne, Bool.false_bne, Bool.bne_true, Bool.bne_false, Bool.true_beq, Bool.false_beq, Bool.not_true, Bool.not_false, Bool.not_not, Int.reduceBEq, Int.reduceBNe, Int.reduceLE, Int.reduceLT, Int.reduceEq, decide_true, decide_false]; rfl)))
    | with_reducible first | refine spB_yes (by decide) ?_ | refine spB_no (by decide) ?_ | refine spB_f ?_ | refine spB_not ?_ | refine spB_yes (by assumption) ?_ | refine spB_no (by assumption) ?_
    | (with_reducible refine spB_dec ?_ ?_ <;> intro _ <;> (try (exfalso; first | contradiction | omega | (rename_i hz; refine hz ?_; simp; done) | (rename_i hz; simp at hz; done) | (simp only [LN] at *; omega))))
    | (with_reducible refine spB_beq ?_ ?_ <;> intro _ <;> (try (exfalso; first | contradiction | omega | (rename_i hz; refine hz ?_; simp; done) | (rename_i hz; simp at hz; done) | (simp only [LN] at *; omega))))
    | (with_reducible refine spB_bne ?_ ?_ <;> intro _ <;> (try (exfalso; first | contradiction | omega | (rename_i hz; refine hz ?_; simp; done) | (rename_i hz; simp at hz; done) | (simp only [LN] at *; omega))))
    | (with_reducible refine spB_mk ?_ ?_ <;> intro _ <;> (try (exfalso; first | contradiction | omega | (rename_i hz; refine hz ?_; simp; done) | (rename_i hz; simp at hz; done) | (simp only [LN] at *; omega))))
    | (refine Z.updN.mk ⟨_, rfl, ?_⟩)
    | (refine Z.lookN.mk ⟨_, _, rfl, ?_⟩)
    | with_reducible first | refine Z.callZ_mfa ?_
    | ((refine sl3N_mk 0 1 1 rfl rfl rfl ?_ ?_ ?_ ?_ ?_); (iterate 4 (focus (first | exact .inl rfl | ((try simp only [LN] at *) <;> omega)))))
    | ((refine sl3N_mk 0 8 8 rfl rfl rfl ?_ ?_ ?_ ?_ ?_); (iterate 4 (focus (first | exact .inl rfl | ((try simp only [LN] at *) <;> omega)))))
    | ((with_reducible refine Z.slN_lo 1 ?_ ?_ ?_); (focus rfl); (focus ((try simp only [LN] at *) <;> omega)))
    | ((with_reducible refine Z.slN_lo 8 ?_ ?_ ?_); (focus rfl); (focus ((try simp only [LN] at *) <;> omega)))
    | (refine loopZ_unr1 tabOk rfl ?_)
    | ((with_reducible refine wr_shl8 ?_ ?_); (focus omega))
    | ((with_reducible refine wr_or0 ?_ ?_); (focus omega))
    | with_reducible first | refine rowN_mk _ rfl ?_
    | (refine wr_mk (IntKind.i64.wrap (numR (r.take 8))) rfl ?_)
    | ((with_reducible refine posE_pos ?_ ?_); (focus ((try simp only [LN] at *) <;> omega)))
    | ((with_reducible refine posE_nil ?_ ?_); (focus rfl))
    | ((with_reducible apply rowN_mk); (focus rfl))
    | ((with_reducible apply ixN_lit); (focus (exact rfl)); (focus (exact rfl)))
    | ((with_reducible apply ixN_litp); (focus (exact rfl)); (focus ((try simp only [LN] at *) <;> omega)))
    | ((with_reducible refine eqN_mk2 ?_ ?_); (focus rfl))
    | ((with_reducible refine posN_mk2 ?_ ?_); (focus (first | decide | ((try simp only [LN] at *) <;> omega))))
    | ((with_reducible refine apdE_r ?_); (with_reducible refine aprN.mk ⟨_, rfl, ?_⟩ ?_ ?_ ?_ ?_); (focus ((try simp only [LN] at *) <;> omega)); (focus (first | rfl | (simp; done) | ((try simp only [LN] at *) <;> omega))); (focus (first | exact one_all (by rfl) | exact one_map (fun _ => rfl) | exact one_map2 (fun _ => rfl) | exact one_drop (fun _ => rfl))); (focus ((try simp only [LN] at *) <;> omega)))
    | ((with_reducible refine apdE_k ?_); (with_reducible refine apkN.mk ⟨_, rfl, ?_⟩ ?_); (focus ((try simp only [LN] at *) <;> omega)))
    | with_reducible first | refine apdE_n ?_
    | ((with_reducible refine slE_a ?_ ?_); (focus ((try simp only [LN] at *) <;> omega)))
    | ((with_reducible refine slE_b ?_ ?_); (focus ((try simp only [LN] at *) <;> omega)))
    | ((with_reducible refine slE_split ?_ ?_ ?_); (focus ((try simp only [LN] at *) <;> omega)); (all_goals intro _))
    | ((with_reducible apply sl3N_mk); (focus (exact rfl)); (focus (exact rfl)); (focus (exact rfl)); (focus ((try simp only [LN] at *) <;> omega)); (focus ((try simp only [LN] at *) <;> omega)); (focus ((try simp only [LN] at *) <;> omega)); (focus ((try simp only [LN] at *) <;> omega)))
    | ((with_reducible refine apdN.mk ?_ ?_ ?_ ?_ ?_ ?_); (focus (first | rfl | (simp; done))); (focus (first | exact one_all (by rfl) | exact one_map (fun _ => rfl) | exact one_map2 (fun _ => rfl))); (focus ((try simp only [LN] at *) <;> omega)); (focus ((try simp only [LN] at *) <;> omega)); (focus ((try simp only [LN] at *) <;> omega)))
    | with_reducible refine wr_i64 (by first | omega | (simp only [LN] at *; omega)) ?_
    | with_reducible refine wr_u64 (by omega) ?_
    | with_reducible refine wr_u8 (by omega) ?_
    | with_reducible refine wr_u32 (by omega) ?_
    | with_reducible first | refine wr_mk _ rfl ?_
    | ((with_reducible refine ixN_nat ?_ ?_); (focus ((try simp only [LN] at *) <;> omega)))
    | ((with_reducible refine rowN_map ?_ ?_); (focus ((try simp only [LN] at *) <;> omega)); intro x hx)
    | ((with_reducible refine posE_nil (by rfl) ?_))
    | ((with_reducible refine posE_pos (by decide) ?_))
    | with_reducible refine vN_mod (by omega) ?_
    | with_reducible first | refine vN_mk ?_
    | with_reducible refine nzN_mk (by omega) ?_
    | with_reducible refine eqN_dec (by omega) ?_
    | with_reducible first | refine apN_mk (by kernel_rfl) ?_ | refine Z.callZ_in tabOk 38 Try.f42 _ Try.func42 (by kernel_rfl) rfl rfl rfl ?_ | refine Z.callZ_in tabOk 20 Try.f43 _ Try.func43 (by kernel_rfl) rfl rfl rfl ?_ | refine Z.callZ_in tabOk 5 Try.f44 _ Try.func44 (by kernel_rfl) rfl rfl rfl ?_ | refine Z.callZ_in tabOk 18 Try.f47 _ Try.func47 (by kernel_rfl) rfl rfl rfl ?_ | refine Z.callZ_in tabOk 10 Try.f35 _ Try.func35 (by kernel_rfl) rfl rfl rfl ?_ | refine Z.callZ_in tabOk 5 Try.f49 _ Try.func49 (by kernel_rfl) rfl rfl rfl ?_ | refine Z.callZ_in tabOk 10 Try.f41 _ Try.func41 (by kernel_rfl) rfl rfl rfl ?_ | refine Z.callZ_in tabOk 58 Try.f46 _ Try.func46 (by kernel_rfl) rfl rfl rfl ?_ | refine Z.callZ_in tabOk 18 Try.f48 _ Try.func48 (by kernel_rfl) rfl rfl rfl ?_ | refine Z.callZ_in tabOk 6 Try.f33 _ Try.func33 (by kernel_rfl) rfl rfl rfl ?_
    | ((first | (with_reducible refine Z.conZ_mz ?_ (ce) ?_) | (with_reducible refine Z.callZ_mk ?_ (ce) ?_)); (focus ((repeat' (first | exact trivial | exact rfl | exact Z.low_nil | exact Z.low_nil2 | exact low_osl (fun _ => rfl) | (refine Z.low_osln ?_ (fun _ => rfl); (simp only [List.length_map]; done)) | exact low_oslr (fun _ => rfl) | exact Z.low_gslm (by first | rfl | exact Z.kb_some rfl) (fun _ => rfl) | exact .inl rfl | exact .inr ⟨_, rfl⟩ | apply And.intro)); done)))
    | ((with_reducible refine eqN_mk2 ?_ ?_); (focus (exact Z.kb_some rfl)))
    | ((with_reducible apply ex_and); exact rfl)
    | with_reducible first | refine Z.drawZ_rule tabOk mixOk ?_ | refine Z.apZ_mk (by kernel_rfl) ?_
    | ((with_reducible refine Z.ConZ.red ?_); (try subst hlb); (apply Z.conZ_all); (focus (repeat (first | exact Z.FK.nil | (apply Z.FK.keep; exact rfl)))); (focus rfl); (focus rfl); (focus (repeat (first | exact trivial | (refine ⟨(fun o ho => (by first | (cases ho; rfl) | (cases ho; exact Z.inL_map fun _ => rfl) | (cases ho; exact Z.inL_mapr fun _ => rfl) | exact Z.inL_gB ho fun _ => rfl)), ?_⟩)))))
    | ((refine ⟨rfl, ?_, rfl⟩); (focus (repeat (first | exact Z.DK.nil | apply Z.DK.cons))))
    | (focus (exact (rfl : Nat.ble _ _ = true))))
  all_goals (try (conv => whnf))
  all_goals try (show Nat.ble _ _ = true; rfl)
  all_goals try (exfalso; rename_i hz; cases hz; done)
  all_goals try (exfalso; (try simp only [LN] at *) <;> omega)
  all_goals first
    | ((refine Z.rnd_bi 0 [[.ro true 1 (r.map eB), _]] rfl rfl ⟨⟨Z.Imp.of_eq (congrArg (Ce.ro true 1) (by first | (simp; done) | (simp [tk_map]; done) | (simp [tk_map, List.take_of_length_le]; done))), Z.Imp.refl _, trivial⟩, trivial⟩ ?_); ((refine Z.rndK ((i + 1, r, acc ++ [⟨3, 0, 0, 0, 0⟩])) (fun s => [0, 1, 2, 3, 4, 5, s.idAt 7]) rfl rfl rfl rfl ?_ ?_ ?_ ?_); (focus (repeat' (first | exact trivial | exact Z.map_sub (Z.MapL.ren HM0 fun _ => rfl) rfl | exact Z.it_sub rfl | exact rfl | (rw [List.map_append (f := cE)]; exact rfl) | (rw [List.map_append (f := cE), List.map_append (f := cE)]; exact rfl) | (rw [List.map_append]; exact rfl) | apply And.intro))); (focus (repeat' (first | exact trivial | exact Z.map_sub (Z.MapL.ren HM0 fun _ => rfl) rfl | exact Z.it_sub rfl | ((refine Z.gB_sub' rfl ?_ (ren_map fun _ => rfl)); (rw [List.map_append (f := cE), List.map_append (f := cE)]; exact rfl)) | (intro b hb; cases hb; rfl) | (intro b hb; cases hb; subst hlb; rfl) | (intro b hb; cases hb; rw [List.map_append (f := cE)]; rfl) | (intro b hb; cases hb; rw [List.map_append]; rfl) | (intro b hb; cases hb; done) | exact Z.blk_sub rfl rfl (ren_map fun _ => rfl) | exact Z.blk_sub rfl rfl (Z.ren_app (ren_map fun _ => rfl) (ren_map fun _ => rfl)) | exact Z.blk_sub rfl (by first | (rw [List.map_append]; rfl) | (rw [List.map_set]; rfl) | simp only [List.map_append, List.map_cons, List.map_nil, List.map_set]) (ren_map fun _ => rfl) | exact Z.gB_sub rfl rfl (ren_map fun _ => rfl) | exact Z.gB_sub' rfl (by first | rfl | (rw [List.map_append]; rfl) | simp only [List.map_append, List.map_cons, List.map_nil]) (ren_map fun _ => rfl) | apply And.intro))); (focus (exact ⟨by (try dsimp only); omega, ⟨by (try dsimp only); first | exact isB_drop hBr | exact hBr, by (try dsimp only); (try simp only [List.length_cons, List.length_drop] at *); omega⟩, by (try dsimp only); rw [List.length_append, HC]; rfl, by (try dsimp only); rw [HD, show N - i = (N - (i + 1)) + 1 by omega, preD_step hd1]⟩)); ((try dsimp only); omega)))
    | (exfalso; rename_i hz; cases hz; done)
    | (exfalso; (try simp only [LN] at *) <;> omega)
    | (fail)
end Go.Proofs.Ytpnfogckdceiaaa
namespace Go.Proofs.Ytpnfogckdceiaaa
open Go Go.RowKit Wx
set_option linter.unusedVariables false
set_option linter.unusedSimpArgs false
set_option maxHeartbeats 4000000
theorem preD_nil : ∀ (n : Nat) (b : List Int), decN n b = preD [] (decN n b)
  | 0, b => by simp [preD, decN]
  | n + 1, b => by
    unfold preD
    rw [decN]
    split
    · split
      · simp
      · rename_i h; simp [h]
    · rename_i h; simp [h]
theorem res2 {F : Fr} {K : Kr} {t a b : Nat} {x y : Value} (h : Wx.get F a = some (.val x)) (g : Wx.get F b = some (.val y)) : resL tab ⟨F, K, t⟩ [.tmp a, .tmp b] = some [.one (.v x), .one (.v y)] := by
  simp [resL, h, g]
theorem slN_lh {x y : Int} {len : Nat} {cap : Option Nat} {A : Nat → Nat → Prop} (l h : Nat) (e : x = (l : Int)) (e2 : y = (h : Int)) (h1 : l ≤ h) (h2 : h ≤ len) (k : A l h) : slN (some x) (some y) len cap A := ⟨l, h, e, e2, h1, .inl h2, k⟩
theorem num_con (l : List Int) (hl : l.length ≤ 8) (hB : isB l) : Con Try.prog 37 [.one (.ro false 1 (l.map eB))] (fun rx rK rt => rx = .val (.int .u64 (numR l)) ∧ rK = [] ∧ rt = 0) := by
  refine Z.con_ofF tabOk 20 Try.f37 _ Try.func37 (by kernel_rfl) rfl rfl rfl rfl ?_
  repeat' ((conv => whnf); first
    | with_reducible first | refine spB_t ?_
    | ((with_reducible apply spB_cong); (focus (simp only [beq_self_eq_true, bne_self_eq_false, Bool.true_bne, Bool.false_bne, Bool.bne_true, Bool.bne_false, Bool.true_beq, Bool.false_beq, Bool.not_true, Bool.not_false, Bool.not_not, Int.reduceBEq, Int.reduceBNe, Int.reduceLE, Int.reduceLT, Int.reduceEq, decide_true, decide_false]; rfl)))
    | with_reducible first | refine spB_yes (by decide) ?_ | refine spB_no (by decide) ?_ | refine spB_f ?_ | refine spB_not ?_ | refine spB_yes (by assumption) ?_ | refine spB_no (by assumption) ?_
    | (with_reducible refine spB_dec ?_ ?_ <;> intro _ <;> (try (exfalso; first | contradiction | omega | (rename_i hz; refine hz ?_; simp; done) | (rename_i hz; simp at hz; done) | (simp only [LN] at *; omega))))
    | (with_reducible refine spB_beq ?_ ?_ <;> intro _ <;> (try (exfalso; first | contradiction | omega | (rename_i hz; refine hz ?_; simp; done) | (rename_i hz; simp at hz; done) | (simp only [LN] at *; omega))))
    | (with_reducible refine spB_bne ?_ ?_ <;> intro _ <;> (try (exfalso; first | contradiction | omega | (rename_i hz; refine hz ?_; simp; done) | (rename_i hz; simp at hz; done) | (simp only [LN] at *; omega))))
    | (with_reducible refine spB_mk ?_ ?_ <;> intro _ <;> (try (exfalso; first | contradiction | omega | (rename_i hz; refine hz ?_; simp; done) | (rename_i hz; simp at hz; done) | (simp only [LN] at *; omega))))
    | ((with_reducible apply rowN_mk); (focus rfl))
    | ((with_reducible apply ixN_lit); (focus (exact rfl)); (focus (exact rfl)))
    | ((with_reducible apply ixN_litp); (focus (exact rfl)); (focus ((try simp only [LN] at *) <;> omega)))
    | ((with_reducible refine eqN_mk2 ?_ ?_); (focus rfl))
    | with_reducible refine wr_i64 (by first | omega | (simp only [LN] at *; omega)) ?_
    | with_reducible refine wr_u64 (by omega) ?_
    | with_reducible refine wr_u8 (by omega) ?_
    | with_reducible refine wr_u32 (by omega) ?_
    | with_reducible first | refine wr_mk _ rfl ?_
    | ((with_reducible refine ixN_nat ?_ ?_); (focus ((try simp only [LN] at *) <;> omega)))
    | ((with_reducible refine rowN_map ?_ ?_); (focus ((try simp only [LN] at *) <;> omega)); intro x hx)
    | with_reducible refine vN_mod (by omega) ?_
    | with_reducible first | refine vN_mk ?_
    | with_reducible refine nzN_mk (by omega) ?_
    | with_reducible refine eqN_dec (by omega) ?_
    | with_reducible first | refine apN_mk (by kernel_rfl) ?_
    | ((with_reducible refine eqN_mk2 ?_ ?_); (focus (exact Z.kb_some rfl)))
    | ((with_reducible apply ex_and); exact rfl))
  all_goals (try (conv => whnf))
  all_goals try (show Nat.ble _ _ = true; rfl)
  all_goals try (exfalso; rename_i hz; cases hz; done)
  all_goals try (exfalso; (try simp only [LN] at *) <;> omega)
  refine Z.loopK tabOk (fun zq : Nat => [(4, .val (.int .i64 (zq : Int))), (3, .val (.int .u64 (numR (l.take zq))))]) (fun zq : Nat => ([] : Z.Kr)) (fun zq => zq ≤ l.length) (fun zq => l.length - zq) 0 0 [(0, _)] ⟨rfl, trivial⟩ [] trivial ?_ ?_ rfl rfl (Nat.zero_le _) ?_
  · repeat' (first | exact trivial | apply And.intro | exact ⟨_, rfl, rfl⟩ | exact ⟨_, rfl, Z.Imp.refl _⟩ | exact ⟨_, rfl, Z.Imp.nilg _⟩ | exact ⟨_, rfl, Z.Imp.nilr _ _⟩)
  · repeat' (first | exact trivial | (intro b hb; cases hb; done) | exact (fun b hb => ⟨b, hb, Z.ImpO.refl b⟩) | (intro b hb; cases hb; refine ⟨_, rfl, ⟨rfl, rfl, rfl⟩, ?_⟩; (repeat' (first | exact trivial | apply And.intro | exact Z.Imp.refl _ | exact Z.Imp.nilg _ | exact Z.Imp.nilr _ _)); done) | apply And.intro)
  rintro i HINV
  dsimp only at HINV ⊢
  by_cases hi : i < l.length
  · obtain ⟨z, hx⟩ := getElem?_some' (xs := l) (i := i) hi
    have hzb := hB z (List.mem_of_getElem? hx)
    have hn9 := num_lt (l := l) (i := i) (by omega) (by omega) hB
    have hor : IntKind.u64.wrap ((BitVec.ofInt IntKind.u64.bits (numR (l.take i) * 256) ||| BitVec.ofInt IntKind.u64.bits z).toNat : Int) = numR (l.take (i + 1)) := by
      rw [take_snoc hx, numR_snoc]; exact or_add hn9 hzb
    repeat' ((conv => whnf); first
      | with_reducible first | refine spB_t ?_
      | ((with_reducible apply spB_cong); (focus (simp only [beq_self_eq_true, bne_self_eq_false, Bool.true_bne, Bool.false_bne, Bool.bne_true, Bool.bne_false, Bool.true_beq, Bool.false_beq, Bool.not_true, Bool.not_false, Bool.not_not, Int.reduceBEq, Int.reduceBNe, Int.reduceLE, Int.reduceLT, Int.reduceEq, decide_true, decide_false]; rfl)))
      | with_reducible first | refine spB_yes (by decide) ?_ | refine spB_no (by decide) ?_ | refine spB_f ?_ | refine spB_not ?_ | refine spB_yes (by assumption) ?_ | refine spB_no (by assumption) ?_
      | (with_reducible refine spB_dec ?_ ?_ <;> intro _ <;> (try (exfalso; first | contradiction | omega | (rename_i hz; refine hz ?_; simp; done) | (rename_i hz; simp at hz; done) | (simp only [LN] at *; omega))))
      | (with_reducible refine spB_beq ?_ ?_ <;> intro _ <;> (try (exfalso; first | contradiction | omega | (rename_i hz; refine hz ?_; simp; done) | (rename_i hz; simp at hz; done) | (simp only [LN] at *; omega))))
      | (with_reducible refine spB_bne ?_ ?_ <;> intro _ <;> (try (exfalso; first | contradiction | omega | (rename_i hz; refine hz ?_; simp; done) | (rename_i hz; simp at hz; done) | (simp only [LN] at *; omega))))
      | (with_reducible refine spB_mk ?_ ?_ <;> intro _ <;> (try (exfalso; first | contradiction | omega | (rename_i hz; refine hz ?_; simp; done) | (rename_i hz; simp at hz; done) | (simp only [LN] at *; omega))))
      | ((with_reducible refine wr_shl8 ?_ ?_); (focus (exact hn9)))
      | with_reducible first | refine Z.rowN_known hx ?_
      | ((with_reducible apply rowN_mk); (focus rfl))
      | ((with_reducible apply ixN_lit); (focus (exact rfl)); (focus (exact rfl)))
      | ((with_reducible apply ixN_litp); (focus (exact rfl)); (focus ((try simp only [LN] at *) <;> omega)))
      | ((with_reducible refine eqN_mk2 ?_ ?_); (focus rfl))
      | with_reducible refine wr_i64 (by first | omega | (simp only [LN] at *; omega)) ?_
      | with_reducible refine wr_u64 (by omega) ?_
      | with_reducible refine wr_u8 (by omega) ?_
      | with_reducible refine wr_u32 (by omega) ?_
      | with_reducible first | refine wr_mk _ rfl ?_
      | ((with_reducible refine ixN_nat ?_ ?_); (focus ((try simp only [LN] at *) <;> omega)))
      | ((with_reducible refine rowN_map ?_ ?_); (focus ((try simp only [LN] at *) <;> omega)); intro x hx)
      | with_reducible refine vN_mod (by omega) ?_
      | with_reducible first | refine vN_mk ?_
      | with_reducible refine nzN_mk (by omega) ?_
      | with_reducible refine eqN_dec (by omega) ?_
      | with_reducible first | refine apN_mk (by kernel_rfl) ?_
      | ((with_reducible refine eqN_mk2 ?_ ?_); (focus (exact Z.kb_some rfl)))
      | ((with_reducible apply ex_and); exact rfl))
    all_goals (try (conv => whnf))
    all_goals try (show Nat.ble _ _ = true; rfl)
    all_goals try (exfalso; rename_i hz; cases hz; done)
    all_goals try (exfalso; (try simp only [LN] at *) <;> omega)
    all_goals first
      | ((refine Z.rndK ((i + 1)) (fun s => []) rfl rfl rfl rfl ?_ ?_ ?_ ?_); (focus (repeat' (first | exact trivial | exact congrArg (fun z => some (AV.val (Value.int .u64 z))) hor | exact Z.map_sub (Z.MapL.ren HM0 fun _ => rfl) rfl | exact Z.it_sub rfl | exact rfl | (rw [List.map_append]; exact rfl) | apply And.intro))); (focus (repeat' (first | exact trivial | exact Z.map_sub (Z.MapL.ren HM0 fun _ => rfl) rfl | exact Z.it_sub rfl | (intro b hb; cases hb; rfl) | (intro b hb; cases hb; subst hlb; rfl) | (intro b hb; cases hb; rw [List.map_append]; rfl) | (intro b hb; cases hb; done) | exact Z.blk_sub rfl rfl (ren_map fun _ => rfl) | exact Z.blk_sub rfl rfl (Z.ren_app (ren_map fun _ => rfl) (ren_map fun _ => rfl)) | exact Z.blk_sub rfl (by first | (rw [List.map_append]; rfl) | (rw [List.map_set]; rfl) | simp only [List.map_append, List.map_cons, List.map_nil, List.map_set]) (ren_map fun _ => rfl) | exact Z.gB_sub rfl rfl (ren_map fun _ => rfl) | exact Z.gB_sub' rfl (by first | rfl | (rw [List.map_append]; rfl) | simp only [List.map_append, List.map_cons, List.map_nil]) (ren_map fun _ => rfl) | apply And.intro))); (focus (((try dsimp only); omega))); ((try dsimp only); omega))
      | (exfalso; rename_i hz; cases hz; done)
      | (exfalso; (try simp only [LN] at *) <;> omega)
      | (fail)
  have hil : i = l.length := by omega
  subst hil
  rw [List.take_length]
  repeat' ((conv => whnf); first
    | with_reducible first | refine spB_t ?_
    | ((with_reducible apply spB_cong); (focus (simp only [beq_self_eq_true, bne_self_eq_false, Bool.true_bne, Bool.false_bne, Bool.bne_true, Bool.bne_false, Bool.true_beq, Bool.false_beq, Bool.not_true, Bool.not_false, Bool.not_not, Int.reduceBEq, Int.reduceBNe, Int.reduceLE, Int.reduceLT, Int.reduceEq, decide_true, decide_false]; rfl)))
    | with_reducible first | refine spB_yes (by decide) ?_ | refine spB_no (by decide) ?_ | refine spB_f ?_ | refine spB_not ?_ | refine spB_yes (by assumption) ?_ | refine spB_no (by assumption) ?_
    | (with_reducible refine spB_dec ?_ ?_ <;> intro _ <;> (try (exfalso; first | contradiction | omega | (rename_i hz; refine hz ?_; simp; done) | (rename_i hz; simp at hz; done) | (simp only [LN] at *; omega))))
    | (with_reducible refine spB_beq ?_ ?_ <;> intro _ <;> (try (exfalso; first | contradiction | omega | (rename_i hz; refine hz ?_; simp; done) | (rename_i hz; simp at hz; done) | (simp only [LN] at *; omega))))
    | (with_reducible refine spB_bne ?_ ?_ <;> intro _ <;> (try (exfalso; first | contradiction | omega | (rename_i hz; refine hz ?_; simp; done) | (rename_i hz; simp at hz; done) | (simp only [LN] at *; omega))))
    | (with_reducible refine spB_mk ?_ ?_ <;> intro _ <;> (try (exfalso; first | contradiction | omega | (rename_i hz; refine hz ?_; simp; done) | (rename_i hz; simp at hz; done) | (simp only [LN] at *; omega))))
    | ((with_reducible apply rowN_mk); (focus rfl))
    | ((with_reducible apply ixN_lit); (focus (exact rfl)); (focus (exact rfl)))
    | ((with_reducible apply ixN_litp); (focus (exact rfl)); (focus ((try simp only [LN] at *) <;> omega)))
    | ((with_reducible refine eqN_mk2 ?_ ?_); (focus rfl))
    | with_reducible refine wr_i64 (by first | omega | (simp only [LN] at *; omega)) ?_
    | with_reducible refine wr_u64 (by omega) ?_
    | with_reducible refine wr_u8 (by omega) ?_
    | with_reducible refine wr_u32 (by omega) ?_
    | with_reducible first | refine wr_mk _ rfl ?_
    | ((with_reducible refine ixN_nat ?_ ?_); (focus ((try simp only [LN] at *) <;> omega)))
    | ((with_reducible refine rowN_map ?_ ?_); (focus ((try simp only [LN] at *) <;> omega)); intro x hx)
    | with_reducible refine vN_mod (by omega) ?_
    | with_reducible first | refine vN_mk ?_
    | with_reducible refine nzN_mk (by omega) ?_
    | with_reducible refine eqN_dec (by omega) ?_
    | with_reducible first | refine apN_mk (by kernel_rfl) ?_
    | ((with_reducible refine eqN_mk2 ?_ ?_); (focus (exact Z.kb_some rfl)))
    | ((with_reducible apply ex_and); exact rfl))
  all_goals (try (conv => whnf))
  all_goals try (show Nat.ble _ _ = true; rfl)
  all_goals first
    | ((first | (with_reducible apply Z.retF1) | (with_reducible apply Z.retF2) | (with_reducible apply Z.retF0)); (focus (exact rfl)); (repeat' (first | exact trivial | (with_reducible apply Z.frz_one) | (with_reducible apply Z.frz_agg) | (with_reducible apply Z.fq_int) | (with_reducible apply Z.fq_bool) | (exact Z.frz_nil) | (exact Z.frz_osl0 rfl rfl rfl) | (with_reducible apply Z.fq_nil) | (with_reducible apply Z.fq_ro) | ((with_reducible apply Z.fq_gsl); (focus (first | rfl | exact Z.isB_map _ | exact Z.gB_snoc.symm)); (focus (exact fun _ => rfl))) | ((with_reducible apply Z.fq_osl); (focus (exact rfl)); (focus (first | exact rfl | (simp only [List.length_map, Nat.zero_add]; done) | ((try simp only [LN] at *) <;> omega))); (focus (exact fun _ => rfl))) | ((with_reducible apply Z.fq_src); (focus (exact rfl)); (focus (first | exact rfl | (simp only [List.length_map, Nat.zero_add]; done) | ((try simp only [LN] at *) <;> omega))); (focus (exact fun _ => rfl))) | exact rfl | ((apply Z.fq_osl); (focus (exact rfl)); (focus (first | exact rfl | (simp only [List.length_map, Nat.zero_add]; done) | ((try simp only [LN] at *) <;> omega))); (focus (exact fun _ => rfl))) | ((apply Z.fq_src); (focus (exact rfl)); (focus (first | exact rfl | (simp only [List.length_map, Nat.zero_add]; done) | ((try simp only [LN] at *) <;> omega))); (focus (exact fun _ => rfl))) | (apply Z.fq_ro) | (apply Z.fq_int) | (apply Z.fq_bool) | apply And.intro)); (all_goals (try exact (fun _ => none))); all_goals (rfl))
    | (exfalso; rename_i hz; cases hz; done)
    | (exfalso; (try simp only [LN] at *) <;> omega)
    | (fail)

end Go.Proofs.Ytpnfogckdceiaaa
namespace Go.Proofs.Ytpnfogckdceiaaa
open Go Go.RowKit Wx
set_option linter.unusedVariables false
set_option linter.unusedSimpArgs false
set_option maxHeartbeats 40000000
theorem decode_con (b : List Int) (hl : b.length ≤ 1099511627776) (hB : isB b) : Con Try.prog 23 [.one (.ro false 1 (b.map eB))] (fun rx rK rt => rx = .tup [.one (.ro true 5 ((decR b).1.map eE)), .one (.v (.int .i64 (decR b).2))] ∧ rK = [] ∧ rt = 0) := by
  refine Z.con_ofF tabOk 41 Try.f23 _ Try.func23 (by kernel_rfl) rfl rfl rfl rfl ?_
  rcases b with _ | ⟨n0, b⟩
  · have ccp := copied_con [] (by simp)
    repeat' ((conv => whnf); first
      | ((with_reducible apply spB_cong); (focus (simp only [beq_self_eq_true, bne_self_eq_false, Bool.true_bne, Bool.false_bne, Bool.bne_true, Bool.bne_false, Bool.true_beq, Bool.false_beq, Bool.not_true, Bool.not_false, Bool.not_not, Int.reduceBEq, Int.reduceBNe, Int.reduceLE, Int.reduceLT, Int.reduceEq, decide_true, decide_false]; rfl)))
      | with_reducible first | refine spB_yes (by decide) ?_ | refine spB_no (by decide) ?_
      | (refine Z.updN.mk ⟨_, rfl, ?_⟩)
      | with_reducible refine wr_i64 (by first | omega | (simp only [LN] at *; omega)) ?_
      | with_reducible refine wr_u8 (by omega) ?_
      | with_reducible first | refine Z.callZ_in tabOk 8 Try.f32 _ Try.func32 (by kernel_rfl) rfl rfl rfl ?_ | refine Z.callZ_in tabOk 6 Try.f33 _ Try.func33 (by kernel_rfl) rfl rfl rfl ?_ | refine Z.callZ_in tabOk 56 Try.f34 _ Try.func34 (by kernel_rfl) rfl rfl rfl ?_ | refine Z.callZ_in tabOk 10 Try.f41 _ Try.func41 (by kernel_rfl) rfl rfl rfl ?_ | refine Z.callZ_in tabOk 58 Try.f46 _ Try.func46 (by kernel_rfl) rfl rfl rfl ?_
      | ((first | (with_reducible refine Z.callZ_mk ?_ (ccp) ?_)); (focus ((repeat' (first | exact trivial | exact rfl | apply And.intro)); done)))
      | ((with_reducible apply ex_and); exact rfl))
    all_goals (try (conv => whnf))
    all_goals try (show Nat.ble _ _ = true; rfl)
    all_goals try (exfalso; rename_i hz; cases hz; done)
    all_goals try (exfalso; (try simp only [LN] at *) <;> omega)
    all_goals (refine Z.loopZ_unroll tabOk 1 ?_)
    repeat' ((conv => whnf); first
      | with_reducible first | refine spB_t ?_
      | ((with_reducible apply spB_cong); (focus (simp only [beq_self_eq_true, bne_self_eq_false, Bool.true_bne, Bool.false_bne, Bool.bne_true, Bool.bne_false, Bool.true_beq, Bool.false_beq, Bool.not_true, Bool.not_false, Bool.not_not, Int.reduceBEq, Int.reduceBNe, Int.reduceLE, Int.reduceLT, Int.reduceEq, decide_true, decide_false]; rfl)))
      | with_reducible first | refine spB_no (by decide) ?_
      | with_reducible first | refine Z.callZ_in tabOk 10 Try.f35 _ Try.func35 (by kernel_rfl) rfl rfl rfl ?_
      | ((with_reducible apply ex_and); exact rfl))
    all_goals (try (conv => whnf))
    all_goals try (show Nat.ble _ _ = true; rfl)
    all_goals try (exfalso; rename_i hz; cases hz; done)
    all_goals try (exfalso; (try simp only [LN] at *) <;> omega)
    all_goals first
      | ((first | (with_reducible apply Z.retF2)); (focus (exact rfl)); (repeat' (first | exact trivial | (with_reducible apply Z.frz_one) | (with_reducible apply Z.fq_int) | (exact Z.frz_nil) | exact rfl | apply And.intro)); (all_goals (try exact (fun _ => none))); all_goals (first | (simp; done)))
  have hn0 := hB n0 (List.mem_cons_self ..)
  have hBb : isB b := fun x hx => hB x (List.mem_cons_of_mem _ hx)
  obtain ⟨N, rfl⟩ : ∃ N : Nat, n0 = (N : Int) := ⟨n0.toNat, by omega⟩
  have ccp := copied_con ((N : Int) :: b) hl
  have hll : b.length + 1 ≤ 1099511627776 := by simpa using hl
  by_cases hN : 200 < N
  · rw [show decR ((N : Int) :: b) = ([], 3) from if_pos (show (200 : Int) < (N : Int) by omega)]
    repeat' ((conv => whnf); first
      | with_reducible first | refine spB_t ?_
      | ((with_reducible apply spB_cong); (focus (simp only [beq_self_eq_true, bne_self_eq_false, Bool.true_bne, Bool.false_bne, Bool.bne_true, Bool.bne_false, Bool.true_beq, Bool.false_beq, Bool.not_true, Bool.not_false, Bool.not_not, Int.reduceBEq, Int.reduceBNe, Int.reduceLE, Int.reduceLT, Int.reduceEq, decide_true, decide_false]; rfl)))
      | with_reducible first | refine spB_no (by decide) ?_
      | (with_reducible refine spB_dec ?_ ?_ <;> intro _ <;> (try (exfalso; first | contradiction | omega | (rename_i hz; refine hz ?_; simp; done) | (rename_i hz; simp at hz; done) | (simp only [LN] at *; omega))))
      | ((refine sl3N_mk 0 1 1 rfl rfl rfl ?_ ?_ ?_ ?_ ?_); (iterate 4 (focus (first | exact .inl rfl | ((try simp only [LN] at *) <;> omega)))))
      | ((with_reducible refine Z.slN_lo 1 ?_ ?_ ?_); (focus rfl); (focus ((try simp only [LN] at *) <;> omega)))
      | (refine loopZ_unr1 tabOk rfl ?_)
      | ((with_reducible refine wr_shl8 ?_ ?_); (focus omega))
      | ((with_reducible refine wr_or0 ?_ ?_); (focus omega))
      | with_reducible first | refine rowN_mk _ rfl ?_
      | ((with_reducible apply ixN_lit); (focus (exact rfl)); (focus (exact rfl)))
      | ((with_reducible refine eqN_mk2 ?_ ?_); (focus rfl))
      | with_reducible refine wr_i64 (by first | omega | (simp only [LN] at *; omega)) ?_
      | with_reducible refine wr_u64 (by omega) ?_
      | with_reducible first | refine Z.callZ_in tabOk 8 Try.f32 _ Try.func32 (by kernel_rfl) rfl rfl rfl ?_ | refine Z.callZ_in tabOk 6 Try.f33 _ Try.func33 (by kernel_rfl) rfl rfl rfl ?_ | refine Z.callZ_in tabOk 10 Try.f41 _ Try.func41 (by kernel_rfl) rfl rfl rfl ?_ | refine Z.callZ_in tabOk 58 Try.f46 _ Try.func46 (by kernel_rfl) rfl rfl rfl ?_ | refine Z.callZ_in tabOk 18 Try.f47 _ Try.func47 (by kernel_rfl) rfl rfl rfl ?_
      | ((first | (with_reducible refine Z.callZ_mk ?_ (ccp) ?_)); (focus ((repeat' (first | exact trivial | exact rfl | apply And.intro)); done)))
      | ((with_reducible apply ex_and); exact rfl)
      | with_reducible first | refine Z.drawZ_rule tabOk mixOk ?_ | refine Z.apZ_mk (by kernel_rfl) ?_)
    all_goals (try (conv => whnf))
    all_goals try (show Nat.ble _ _ = true; rfl)
    all_goals try (exfalso; rename_i hz; cases hz; done)
    all_goals try (exfalso; (try simp only [LN] at *) <;> omega)
    all_goals first
      | ((first | (with_reducible apply Z.retF2)); (focus (exact rfl)); (repeat' (first | exact trivial | (with_reducible apply Z.frz_one) | (with_reducible apply Z.fq_int) | (exact Z.frz_nil) | exact rfl | apply And.intro)); (all_goals (try exact (fun _ => none))); all_goals (first | (simp; done)))
  have hdR : decR ((N : Int) :: b) = if (decN N b).2.1 = 0 then (if (decN N b).2.2 = [] then ((decN N b).1, 0) else ([], 151)) else ([], (decN N b).2.1) := by
    show (if (200 : Int) < (N : Int) then _ else _) = _
    rw [if_neg (by omega), Int.toNat_natCast]
  rw [hdR]
  repeat' ((conv => whnf); first
    | with_reducible first | refine spB_t ?_
    | ((with_reducible apply spB_cong); (focus (simp only [beq_self_eq_true, bne_self_eq_false, Bool.true_bne, Bool.false_bne, Bool.bne_true, Bool.bne_false, Bool.true_beq, Bool.false_beq, Bool.not_true, Bool.not_false, Bool.not_not, Int.reduceBEq, Int.reduceBNe, Int.reduceLE, Int.reduceLT, Int.reduceEq, decide_true, decide_false]; rfl)))
    | with_reducible first | refine spB_no (by decide) ?_
    | (with_reducible refine spB_dec ?_ ?_ <;> intro _ <;> (try (exfalso; first | contradiction | omega | (rename_i hz; refine hz ?_; simp; done) | (rename_i hz; simp at hz; done) | (simp only [LN] at *; omega))))
    | (refine Z.updN.mk ⟨_, rfl, ?_⟩)
    | ((refine sl3N_mk 0 1 1 rfl rfl rfl ?_ ?_ ?_ ?_ ?_); (iterate 4 (focus (first | exact .inl rfl | ((try simp only [LN] at *) <;> omega)))))
    | ((with_reducible refine Z.slN_lo 1 ?_ ?_ ?_); (focus rfl); (focus ((try simp only [LN] at *) <;> omega)))
    | (refine loopZ_unr1 tabOk rfl ?_)
    | ((with_reducible refine wr_shl8 ?_ ?_); (focus omega))
    | ((with_reducible refine wr_or0 ?_ ?_); (focus omega))
    | with_reducible first | refine rowN_mk _ rfl ?_
    | ((with_reducible apply ixN_lit); (focus (exact rfl)); (focus (exact rfl)))
    | ((with_reducible refine eqN_mk2 ?_ ?_); (focus rfl))
    | with_reducible refine wr_i64 (by first | omega | (simp only [LN] at *; omega)) ?_
    | with_reducible refine wr_u64 (by omega) ?_
    | with_reducible first | refine Z.callZ_in tabOk 8 Try.f32 _ Try.func32 (by kernel_rfl) rfl rfl rfl ?_ | refine Z.callZ_in tabOk 6 Try.f33 _ Try.func33 (by kernel_rfl) rfl rfl rfl ?_ | refine Z.callZ_in tabOk 56 Try.f34 _ Try.func34 (by kernel_rfl) rfl rfl rfl ?_ | refine Z.callZ_in tabOk 10 Try.f41 _ Try.func41 (by kernel_rfl) rfl rfl rfl ?_ | refine Z.callZ_in tabOk 58 Try.f46 _ Try.func46 (by kernel_rfl) rfl rfl rfl ?_ | refine Z.callZ_in tabOk 18 Try.f47 _ Try.func47 (by kernel_rfl) rfl rfl rfl ?_
    | ((first | (with_reducible refine Z.callZ_mk ?_ (ccp) ?_)); (focus ((repeat' (first | exact trivial | exact rfl | apply And.intro)); done)))
    | ((with_reducible apply ex_and); exact rfl)
    | with_reducible first | refine Z.drawZ_rule tabOk mixOk ?_ | refine Z.apZ_mk (by kernel_rfl) ?_)
  all_goals (try (conv => whnf))
  all_goals try (show Nat.ble _ _ = true; rfl)
  all_goals try (exfalso; rename_i hz; cases hz; done)
  all_goals try (exfalso; (try simp only [LN] at *) <;> omega)
  refine Z.loopK tabOk dCH dCK (dInv b N) (fun zq => N - zq.1) (0, b, []) 7 (dFk N) ⟨rfl, rfl, rfl, trivial⟩ dKk ⟨rfl, rfl, rfl, trivial⟩ ?_ ?_ rfl rfl ⟨Nat.zero_le _, ⟨hBb, by (try dsimp only); omega⟩, rfl, preD_nil N b⟩ ?_
  · repeat' (first | exact trivial | apply And.intro | exact ⟨_, rfl, Z.Imp.refl _⟩ | exact ⟨_, rfl, Z.Imp.nilg _⟩)
  · repeat' (first | exact trivial | (intro b hb; cases hb; done) | (intro b hb; cases hb; refine ⟨_, rfl, ⟨rfl, rfl, rfl⟩, ?_⟩; (try exact ⟨⟨Z.Imp.of_eq (congrArg (Ce.ro true 1) (by simp [tk_map])), Z.Imp.refl _, trivial⟩, trivial⟩); (repeat' (first | exact Z.Imp.nilr _ _)); done) | apply And.intro)
  rintro ⟨i, r, acc⟩ HINV
  obtain ⟨HI, ⟨HBr, HLr⟩, HC, HD⟩ := HINV
  dsimp only at HI HBr HLr HC HD
  by_cases hi : i < N
  · rcases r with _ | ⟨kd, r⟩
    · refine dec_e b N i acc  HBr HLr HC HD hi (by omega)  (fun F' K' t' g4 g5 => ?_)
      have hD9 : decN N b = ([], 7, []) := by
        rw [HD, show N - i = (N - (i + 1)) + 1 by omega]
        exact preD_bad (rfl) (by decide)
      rw [hD9]
      refine ⟨[.one (.v (.slice none 0 0)), .one (.v (.int .i64 7))], res2 g4 g5, ?_⟩
      repeat' ((conv => whnf); first
        | with_reducible first | refine spB_t ?_
        | ((with_reducible apply spB_cong); (focus (simp only [beq_self_eq_true, bne_self_eq_false, Bool.true_bne, Bool.false_bne, Bool.bne_true, Bool.bne_false, Bool.true_beq, Bool.false_beq, Bool.not_true, Bool.not_false, Bool.not_not, Int.reduceBEq, Int.reduceBNe, Int.reduceLE, Int.reduceLT, Int.reduceEq, decide_true, decide_false]; rfl)))
        | (rw [show Nat.ble t' t' = true from Nat.ble_self_eq_true t']))
      all_goals (try (conv => whnf))
      all_goals try (show Nat.ble _ _ = true; rfl)
      all_goals try (exfalso; rename_i hz; cases hz; done)
      all_goals try (exfalso; (try simp only [LN] at *) <;> omega)
      all_goals first
        | ((first | (with_reducible apply Z.retF2)); (focus (exact rfl)); (repeat' (first | exact trivial | (with_reducible apply Z.frz_one) | (with_reducible apply Z.fq_int) | (exact Z.frz_nil) | exact rfl | apply And.intro)); (all_goals (try exact (fun _ => none))); all_goals (first | (simp; done)))
    by_cases hk1 : kd = 1
    · subst hk1
      rcases r with _ | ⟨s, r⟩
      · refine dec_r0 b N i acc  HBr HLr HC HD hi (by omega)  (fun F' K' t' g4 g5 => ?_)
        have hD9 : decN N b = ([], 7, []) := by
          rw [HD, show N - i = (N - (i + 1)) + 1 by omega]
          exact preD_bad (rfl) (by decide)
        rw [hD9]
        refine ⟨[.one (.v (.slice none 0 0)), .one (.v (.int .i64 7))], res2 g4 g5, ?_⟩
        repeat' ((conv => whnf); first
          | with_reducible first | refine spB_t ?_
          | ((with_reducible apply spB_cong); (focus (simp only [beq_self_eq_true, bne_self_eq_false, Bool.true_bne, Bool.false_bne, Bool.bne_true, Bool.bne_false, Bool.true_beq, Bool.false_beq, Bool.not_true, Bool.not_false, Bool.not_not, Int.reduceBEq, Int.reduceBNe, Int.reduceLE, Int.reduceLT, Int.reduceEq, decide_true, decide_false]; rfl)))
          | (rw [show Nat.ble t' t' = true from Nat.ble_self_eq_true t']))
        all_goals (try (conv => whnf))
        all_goals try (show Nat.ble _ _ = true; rfl)
        all_goals try (exfalso; rename_i hz; cases hz; done)
        all_goals try (exfalso; (try simp only [LN] at *) <;> omega)
        all_goals first
          | ((first | (with_reducible apply Z.retF2)); (focus (exact rfl)); (repeat' (first | exact trivial | (with_reducible apply Z.frz_one) | (with_reducible apply Z.fq_int) | (exact Z.frz_nil) | exact rfl | apply And.intro)); (all_goals (try exact (fun _ => none))); all_goals (first | (simp; done)))
      have hbs := HBr s (by simp)
      by_cases hs : 8 ≤ s
      · refine dec_r1 b N i acc s r HBr HLr HC HD hi (by omega) hs (fun F' K' t' g4 g5 => ?_)
        have hD9 : decN N b = ([], 151, []) := by
          rw [HD, show N - i = (N - (i + 1)) + 1 by omega]
          exact preD_bad (by simp [dec1, hs]) (by decide)
        rw [hD9]
        refine ⟨[.one (.v (.slice none 0 0)), .one (.v (.int .i64 151))], res2 g4 g5, ?_⟩
        repeat' ((conv => whnf); first
          | with_reducible first | refine spB_t ?_
          | ((with_reducible apply spB_cong); (focus (simp only [beq_self_eq_true, bne_self_eq_false, Bool.true_bne, Bool.false_bne, Bool.bne_true, Bool.bne_false, Bool.true_beq, Bool.false_beq, Bool.not_true, Bool.not_false, Bool.not_not, Int.reduceBEq, Int.reduceBNe, Int.reduceLE, Int.reduceLT, Int.reduceEq, decide_true, decide_false]; rfl)))
          | (rw [show Nat.ble t' t' = true from Nat.ble_self_eq_true t']))
        all_goals (try (conv => whnf))
        all_goals try (show Nat.ble _ _ = true; rfl)
        all_goals try (exfalso; rename_i hz; cases hz; done)
        all_goals try (exfalso; (try simp only [LN] at *) <;> omega)
        all_goals first
          | ((first | (with_reducible apply Z.retF2)); (focus (exact rfl)); (repeat' (first | exact trivial | (with_reducible apply Z.frz_one) | (with_reducible apply Z.fq_int) | (exact Z.frz_nil) | exact rfl | apply And.intro)); (all_goals (try exact (fun _ => none))); all_goals (first | (simp; done)))
      rcases r with _ | ⟨k, r⟩
      · refine dec_r2 b N i acc s HBr HLr HC HD hi (by omega) ⟨hbs.1, by omega⟩ (fun F' K' t' g4 g5 => ?_)
        have hD9 : decN N b = ([], 7, []) := by
          rw [HD, show N - i = (N - (i + 1)) + 1 by omega]
          exact preD_bad (by simp [dec1, hs]) (by decide)
        rw [hD9]
        refine ⟨[.one (.v (.slice none 0 0)), .one (.v (.int .i64 7))], res2 g4 g5, ?_⟩
        repeat' ((conv => whnf); first
          | with_reducible first | refine spB_t ?_
          | ((with_reducible apply spB_cong); (focus (simp only [beq_self_eq_true, bne_self_eq_false, Bool.true_bne, Bool.false_bne, Bool.bne_true, Bool.bne_false, Bool.true_beq, Bool.false_beq, Bool.not_true, Bool.not_false, Bool.not_not, Int.reduceBEq, Int.reduceBNe, Int.reduceLE, Int.reduceLT, Int.reduceEq, decide_true, decide_false]; rfl)))
          | (rw [show Nat.ble t' t' = true from Nat.ble_self_eq_true t']))
        all_goals (try (conv => whnf))
        all_goals try (show Nat.ble _ _ = true; rfl)
        all_goals try (exfalso; rename_i hz; cases hz; done)
        all_goals try (exfalso; (try simp only [LN] at *) <;> omega)
        all_goals first
          | ((first | (with_reducible apply Z.retF2)); (focus (exact rfl)); (repeat' (first | exact trivial | (with_reducible apply Z.frz_one) | (with_reducible apply Z.fq_int) | (exact Z.frz_nil) | exact rfl | apply And.intro)); (all_goals (try exact (fun _ => none))); all_goals (first | (simp; done)))
      have hbk := HBr k (by simp)
      by_cases hk : 32 ≤ k
      · refine dec_r3 b N i acc s k r HBr HLr HC HD hi (by omega) ⟨hbs.1, by omega⟩ hk (fun F' K' t' g4 g5 => ?_)
        have hD9 : decN N b = ([], 151, []) := by
          rw [HD, show N - i = (N - (i + 1)) + 1 by omega]
          exact preD_bad (by simp [dec1, hs, hk]) (by decide)
        rw [hD9]
        refine ⟨[.one (.v (.slice none 0 0)), .one (.v (.int .i64 151))], res2 g4 g5, ?_⟩
        repeat' ((conv => whnf); first
          | with_reducible first | refine spB_t ?_
          | ((with_reducible apply spB_cong); (focus (simp only [beq_self_eq_true, bne_self_eq_false, Bool.true_bne, Bool.false_bne, Bool.bne_true, Bool.bne_false, Bool.true_beq, Bool.false_beq, Bool.not_true, Bool.not_false, Bool.not_not, Int.reduceBEq, Int.reduceBNe, Int.reduceLE, Int.reduceLT, Int.reduceEq, decide_true, decide_false]; rfl)))
          | (rw [show Nat.ble t' t' = true from Nat.ble_self_eq_true t']))
        all_goals (try (conv => whnf))
        all_goals try (show Nat.ble _ _ = true; rfl)
        all_goals try (exfalso; rename_i hz; cases hz; done)
        all_goals try (exfalso; (try simp only [LN] at *) <;> omega)
        all_goals first
          | ((first | (with_reducible apply Z.retF2)); (focus (exact rfl)); (repeat' (first | exact trivial | (with_reducible apply Z.frz_one) | (with_reducible apply Z.fq_int) | (exact Z.frz_nil) | exact rfl | apply And.intro)); (all_goals (try exact (fun _ => none))); all_goals (first | (simp; done)))
      by_cases h4 : r.length < 8
      · refine dec_r4 b N i acc s k r HBr HLr HC HD hi (by omega) ⟨hbs.1, by omega⟩ ⟨hbk.1, by omega⟩ h4 (fun F' K' t' g4 g5 => ?_)
        have hD9 : decN N b = ([], 7, []) := by
          rw [HD, show N - i = (N - (i + 1)) + 1 by omega]
          exact preD_bad (by simp [dec1, hs, hk, h4]) (by decide)
        rw [hD9]
        refine ⟨[.one (.v (.slice none 0 0)), .one (.v (.int .i64 7))], res2 g4 g5, ?_⟩
        repeat' ((conv => whnf); first
          | with_reducible first | refine spB_t ?_
          | ((with_reducible apply spB_cong); (focus (simp only [beq_self_eq_true, bne_self_eq_false, Bool.true_bne, Bool.false_bne, Bool.bne_true, Bool.bne_false, Bool.true_beq, Bool.false_beq, Bool.not_true, Bool.not_false, Bool.not_not, Int.reduceBEq, Int.reduceBNe, Int.reduceLE, Int.reduceLT, Int.reduceEq, decide_true, decide_false]; rfl)))
          | (rw [show Nat.ble t' t' = true from Nat.ble_self_eq_true t']))
        all_goals (try (conv => whnf))
        all_goals try (show Nat.ble _ _ = true; rfl)
        all_goals try (exfalso; rename_i hz; cases hz; done)
        all_goals try (exfalso; (try simp only [LN] at *) <;> omega)
        all_goals first
          | ((first | (with_reducible apply Z.retF2)); (focus (exact rfl)); (repeat' (first | exact trivial | (with_reducible apply Z.frz_one) | (with_reducible apply Z.fq_int) | (exact Z.frz_nil) | exact rfl | apply And.intro)); (all_goals (try exact (fun _ => none))); all_goals (first | (simp; done)))
      · exact dec_r5 b N i acc s k r HBr HLr HC HD hi (by omega) ⟨hbs.1, by omega⟩ ⟨hbk.1, by omega⟩ (by omega)
    by_cases hk2 : kd = 2
    · subst hk2
      by_cases h4 : r.length < 8
      · refine dec_b0 b N i acc r HBr HLr HC HD hi (by omega) h4 (fun F' K' t' g4 g5 => ?_)
        have hD9 : decN N b = ([], 7, []) := by
          rw [HD, show N - i = (N - (i + 1)) + 1 by omega]
          exact preD_bad (by simp [dec1, h4]) (by decide)
        rw [hD9]
        refine ⟨[.one (.v (.slice none 0 0)), .one (.v (.int .i64 7))], res2 g4 g5, ?_⟩
        repeat' ((conv => whnf); first
          | with_reducible first | refine spB_t ?_
          | ((with_reducible apply spB_cong); (focus (simp only [beq_self_eq_true, bne_self_eq_false, Bool.true_bne, Bool.false_bne, Bool.bne_true, Bool.bne_false, Bool.true_beq, Bool.false_beq, Bool.not_true, Bool.not_false, Bool.not_not, Int.reduceBEq, Int.reduceBNe, Int.reduceLE, Int.reduceLT, Int.reduceEq, decide_true, decide_false]; rfl)))
          | (rw [show Nat.ble t' t' = true from Nat.ble_self_eq_true t']))
        all_goals (try (conv => whnf))
        all_goals try (show Nat.ble _ _ = true; rfl)
        all_goals try (exfalso; rename_i hz; cases hz; done)
        all_goals try (exfalso; (try simp only [LN] at *) <;> omega)
        all_goals first
          | ((first | (with_reducible apply Z.retF2)); (focus (exact rfl)); (repeat' (first | exact trivial | (with_reducible apply Z.frz_one) | (with_reducible apply Z.fq_int) | (exact Z.frz_nil) | exact rfl | apply And.intro)); (all_goals (try exact (fun _ => none))); all_goals (first | (simp; done)))
      by_cases h5 : 1 ≤ numR (r.take 8) ∧ numR (r.take 8) ≤ 4611686018427387904
      · exact dec_b2 b N i acc r HBr HLr HC HD hi (by omega) (by omega) h5
      · refine dec_b1 b N i acc r HBr HLr HC HD hi (by omega) (by omega) h5 (fun F' K' t' g4 g5 => ?_)
        have hD9 : decN N b = ([], 151, []) := by
          rw [HD, show N - i = (N - (i + 1)) + 1 by omega]
          exact preD_bad (by simp only [dec1, show (2 : Int) ≠ 1 by decide, if_false, if_true, if_neg h4, if_neg h5]) (by decide)
        rw [hD9]
        refine ⟨[.one (.v (.slice none 0 0)), .one (.v (.int .i64 151))], res2 g4 g5, ?_⟩
        repeat' ((conv => whnf); first
          | with_reducible first | refine spB_t ?_
          | ((with_reducible apply spB_cong); (focus (simp only [beq_self_eq_true, bne_self_eq_false, Bool.true_bne, Bool.false_bne, Bool.bne_true, Bool.bne_false, Bool.true_beq, Bool.false_beq, Bool.not_true, Bool.not_false, Bool.not_not, Int.reduceBEq, Int.reduceBNe, Int.reduceLE, Int.reduceLT, Int.reduceEq, decide_true, decide_false]; rfl)))
          | (rw [show Nat.ble t' t' = true from Nat.ble_self_eq_true t']))
        all_goals (try (conv => whnf))
        all_goals try (show Nat.ble _ _ = true; rfl)
        all_goals try (exfalso; rename_i hz; cases hz; done)
        all_goals try (exfalso; (try simp only [LN] at *) <;> omega)
        all_goals first
          | ((first | (with_reducible apply Z.retF2)); (focus (exact rfl)); (repeat' (first | exact trivial | (with_reducible apply Z.frz_one) | (with_reducible apply Z.fq_int) | (exact Z.frz_nil) | exact rfl | apply And.intro)); (all_goals (try exact (fun _ => none))); all_goals (first | (simp; done)))
    by_cases hk3 : kd = 3
    · subst hk3
      · exact dec_n0 b N i acc r HBr HLr HC HD hi (by omega) 
    · refine dec_x b N i acc kd r HBr HLr HC HD hi (by omega) hk1 hk2 hk3 (fun F' K' t' g4 g5 => ?_)
      have hD9 : decN N b = ([], 151, []) := by
        rw [HD, show N - i = (N - (i + 1)) + 1 by omega]
        exact preD_bad (by simp [dec1, hk1, hk2, hk3]) (by decide)
      rw [hD9]
      refine ⟨[.one (.v (.slice none 0 0)), .one (.v (.int .i64 151))], res2 g4 g5, ?_⟩
      repeat' ((conv => whnf); first
        | with_reducible first | refine spB_t ?_
        | ((with_reducible apply spB_cong); (focus (simp only [beq_self_eq_true, bne_self_eq_false, Bool.true_bne, Bool.false_bne, Bool.bne_true, Bool.bne_false, Bool.true_beq, Bool.false_beq, Bool.not_true, Bool.not_false, Bool.not_not, Int.reduceBEq, Int.reduceBNe, Int.reduceLE, Int.reduceLT, Int.reduceEq, decide_true, decide_false]; rfl)))
        | (rw [show Nat.ble t' t' = true from Nat.ble_self_eq_true t']))
      all_goals (try (conv => whnf))
      all_goals try (show Nat.ble _ _ = true; rfl)
      all_goals try (exfalso; rename_i hz; cases hz; done)
      all_goals try (exfalso; (try simp only [LN] at *) <;> omega)
      all_goals first
        | ((first | (with_reducible apply Z.retF2)); (focus (exact rfl)); (repeat' (first | exact trivial | (with_reducible apply Z.frz_one) | (with_reducible apply Z.fq_int) | (exact Z.frz_nil) | exact rfl | apply And.intro)); (all_goals (try exact (fun _ => none))); all_goals (first | (simp; done)))
  have hil : i = N := by omega
  subst hil
  rw [Nat.sub_self] at HD
  have hD9 : decN i b = (acc, 0, r) := by rw [HD]; simp [preD, decN]
  rw [hD9]
  dsimp only [dCH, dFk, dCK, dKk]
  simp only [if_true]
  rcases r with _ | ⟨x, r⟩
  all_goals (
    repeat' ((conv => whnf); first
      | ((with_reducible apply spB_cong); (focus (simp only [beq_self_eq_true, bne_self_eq_false, Bool.true_bne, Bool.false_bne, Bool.bne_true, Bool.bne_false, Bool.true_beq, Bool.false_beq, Bool.not_true, Bool.not_false, Bool.not_not, Int.reduceBEq, Int.reduceBNe, Int.reduceLE, Int.reduceLT, Int.reduceEq, decide_true, decide_false]; rfl)))
      | with_reducible first | refine spB_no (by decide) ?_
      | (with_reducible refine spB_dec ?_ ?_ <;> intro _ <;> (try (exfalso; first | contradiction | omega | (rename_i hz; refine hz ?_; simp; done) | (rename_i hz; simp at hz; done) | (simp only [LN] at *; omega))))
      | with_reducible first | refine Z.callZ_in tabOk 10 Try.f35 _ Try.func35 (by kernel_rfl) rfl rfl rfl ?_ | refine Z.callZ_in tabOk 11 Try.f36 _ Try.func36 (by kernel_rfl) rfl rfl rfl ?_
      | ((with_reducible apply ex_and); exact rfl))
    all_goals (try (conv => whnf)))
  all_goals try (show Nat.ble _ _ = true; rfl)
  all_goals try (exfalso; rename_i hz; cases hz; done)
  all_goals try (exfalso; (try simp only [LN] at *) <;> omega)
  all_goals first
    | ((first | (with_reducible apply Z.retF2)); (focus (exact rfl)); (repeat' (first | exact trivial | (with_reducible apply Z.frz_one) | (with_reducible apply Z.fq_int) | (exact Z.frz_nil) | ((with_reducible apply Z.fq_gsl); (focus (first | exact Z.isB_map _)); (focus (exact fun _ => rfl))) | exact rfl | apply And.intro)); (all_goals (try exact (fun _ => none))); all_goals (first | (simp; done)))

end Go.Proofs.Ytpnfogckdceiaaa
