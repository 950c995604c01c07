import Derived.Test.YtpnfogckdceiaaaLib3
import Derived.Test.YtpnfogckdceiaaaLib5
import Derived.Test.YtpnfogckdceiaaaLib4
import Derived.Test.YtpnfogckdceiaaaRows
namespace Go.Proofs.Ytpnfogckdceiaaa
open Go Go.RowKit Wx
set_option linter.unusedVariables false
set_option linter.unusedSimpArgs false
set_option maxHeartbeats 4000000
structure El where
  kd : Int
  src : Int
  key : Int
  val : Int
  num : Int
deriving DecidableEq
abbrev eE (x : El) : List RT := [RT.v (.int .i64 x.kd), RT.v (.int .i64 x.src), RT.v (.int .i64 x.key), RT.v (.int .i64 x.val), RT.v (.int .u64 x.num)]
abbrev cE (x : El) : List Ce := [Ce.v (.int .i64 x.kd), Ce.v (.int .i64 x.src), Ce.v (.int .i64 x.key), Ce.v (.int .i64 x.val), Ce.v (.int .u64 x.num)]
abbrev eI (z : Int) : List RT := [RT.v (.int .i64 z)]
abbrev cI (z : Int) : List Ce := [Ce.v (.int .i64 z)]
abbrev eB (z : Int) : List RT := [RT.v (.int .u8 z)]
abbrev cB (z : Int) : List Ce := [Ce.v (.int .u8 z)]
def okE (e : El) : Bool := decide ((e.kd = 1 ∧ (0 ≤ e.src ∧ e.src < 8 ∧ 0 ≤ e.key ∧ e.key < 32) ∧ e.num = 0) ∨ (e.kd = 2 ∧ (e.src = 0 ∧ e.key = 0 ∧ e.val = 0) ∧ 0 < e.num ∧ e.num ≤ 4611686018427387904) ∨ (e.kd = 3 ∧ (e.src = 0 ∧ e.key = 0 ∧ e.val = 0) ∧ e.num = 0))
/-- Is each of them right? -/
def okEs (l : List El) : Bool := l.all okE
theorem okEs_at {l : List El} {i : Nat} {x : El} (h : l[i]? = some x) : okEs (l.drop i) = (okE x && okEs (l.drop (i + 1))) := by
  rw [drop_cons h]; rfl
theorem okE_all {e : El} (h : okE e = true) : (e.kd = 1 ∧ (0 ≤ e.src ∧ e.src < 8 ∧ 0 ≤ e.key ∧ e.key < 32) ∧ e.num = 0) ∨ (e.kd = 2 ∧ (e.src = 0 ∧ e.key = 0 ∧ e.val = 0) ∧ 0 < e.num ∧ e.num ≤ 4611686018427387904) ∨ (e.kd = 3 ∧ (e.src = 0 ∧ e.key = 0 ∧ e.val = 0) ∧ e.num = 0) := of_decide_eq_true h
def cmpI (a b : Int) : Int := if a < b then -1 else if b < a then 1 else 0
def cmpR (s k s2 k2 : Int) : Int := if cmpI s s2 ≠ 0 then cmpI s s2 else cmpI k k2
theorem cmp_eq (s k s2 k2 : Int) : (cmpR s k s2 k2 == 0) = (s == s2 && k == k2) := by
  unfold cmpR cmpI
  apply Bool.eq_iff_iff.2
  simp only [beq_iff_eq, Bool.and_eq_true]
  repeat' split
  all_goals first | omega | (constructor <;> intro h <;> omega)
/-- The lowest bytes of a number, the highest of these first. -/
def be : Nat → Int → List Int
  | 0, _ => []
  | n + 1, x => be n (x / 256) ++ [x % 256]
theorem be_len : ∀ {n : Nat} {x : Int}, (be n x).length = n
  | 0, _ => rfl
  | n + 1, x => by rw [be, List.length_append, be_len]; rfl
/-- The bytes of an element. -/
def encE (e : El) : List Int := if e.kd = 1 then e.kd :: e.src :: e.key :: be 8 (IntKind.u64.wrap e.val) else if e.kd = 2 then e.kd :: be 8 e.num else [e.kd]
def encs (l : List El) : List Int := l.flatMap encE
def enc (l : List El) : List Int := (l.length : Int) :: encs l
theorem encs_at {l : List El} {i : Nat} {x : El} (h : l[i]? = some x) : encs (l.take (i + 1)) = encs (l.take i) ++ encE x := by
  unfold encs
  rw [take_snoc h, List.flatMap_append]; simp
theorem encE_len (e : El) : (encE e).length ≤ 11 := by
  unfold encE
  split
  · simp [be_len]
  · split
    · simp [be_len]
    · simp
theorem encs_len : ∀ l : List El, (encs l).length ≤ 11 * l.length
  | [] => by simp [encs]
  | e :: l => by
    have h1 := encE_len e
    have h2 := encs_len l
    unfold encs at *
    rw [List.flatMap_cons, List.length_append, List.length_cons]; omega
/-- The values of a key. -/
def ofR (l : List El) (s k : Int) : List Int := l.filterMap fun e => if e.kd = 1 ∧ e.src = s ∧ e.key = k then some e.val else none
theorem ofR_yes {l : List El} {s k : Int} {i : Nat} {x : El} (h : l[i]? = some x) (h1 : x.kd = 1 ∧ x.src = s ∧ x.key = k) : ofR (l.take (i + 1)) s k = ofR (l.take i) s k ++ [x.val] := by
  unfold ofR
  rw [take_snoc h, List.filterMap_append]; simp [h1]
theorem ofR_no {l : List El} {s k : Int} {i : Nat} {x : El} (h : l[i]? = some x) (h1 : ¬ (x.kd = 1 ∧ x.src = s ∧ x.key = k)) : ofR (l.take (i + 1)) s k = ofR (l.take i) s k := by
  unfold ofR
  rw [take_snoc h, List.filterMap_append]; simp [h1]
theorem ofR_len {l : List El} {s k : Int} : (ofR l s k).length ≤ l.length := List.length_filterMap_le ..
def isB (l : List Int) : Prop := ∀ b ∈ l, 0 ≤ b ∧ b ≤ 255
theorem u8_mod (z : Int) : IntKind.u8.wrap z = z % 256 := by
  simp [IntKind.wrap, IntKind.bits, IntKind.signed]
theorem wr_mod8 {z : Int} {A : Int → Prop} (h : A (z % 256)) : wr .u8 z A := ⟨_, u8_mod z, h⟩
theorem u64_mod (z : Int) : IntKind.u64.wrap z = z % 18446744073709551616 := by
  simp [IntKind.wrap, IntKind.bits, IntKind.signed]
theorem u64_rng (z : Int) : 0 ≤ IntKind.u64.wrap z ∧ IntKind.u64.wrap z < 18446744073709551616 := by rw [u64_mod]; omega
theorem and255 {x : Int} (h : 0 ≤ x ∧ x < 18446744073709551616) : IntKind.u64.wrap ((BitVec.ofInt IntKind.u64.bits x &&& BitVec.ofInt IntKind.u64.bits 255).toNat : Int) = x % 256 := by
  obtain ⟨n, rfl⟩ := Int.eq_ofNat_of_zero_le h.1
  have h2 : n < 18446744073709551616 := by omega
  rw [u64_mod]
  show ((BitVec.ofInt 64 (n : Int) &&& BitVec.ofInt 64 255).toNat : Int) % 18446744073709551616 = _
  rw [BitVec.toNat_and]
  have e1 : (BitVec.ofInt 64 (n : Int)).toNat = n := by simp [BitVec.toNat_ofInt]; omega
  have e2 : (BitVec.ofInt 64 255).toNat = 255 := by decide
  rw [e1, e2, show n &&& 255 = n % 256 from Nat.and_two_pow_sub_one_eq_mod n 8]
  omega
/-- A row of bytes that is filled from its end. -/
theorem put_set {b T : List Int} {m : Nat} {z : Int} : ((b ++ List.replicate (m + 1) 0 ++ T).map cB).set (0 + (b.length + m)) (cB z) = (b ++ List.replicate m 0 ++ (z :: T)).map cB := by
  rw [Nat.zero_add, List.replicate_succ', show b ++ (List.replicate m (0 : Int) ++ [0]) ++ T = (b ++ List.replicate m 0) ++ 0 :: T by simp, List.map_append, List.map_cons, Z.set_mid (by simp)]
  simp
theorem put_lay {b : List Int} {n k : Nat} {fl : Bool} (hk : b.length ≤ k) : lay (List.replicate (b.length + n) (cB 0)) 0 (List.take k ((b.map eB).map (List.map (RT.ce fl)))) = (b ++ List.replicate n 0 ++ []).map cB := by
  rw [List.take_of_length_le (by simpa using hk)]
  have h1 : ((b.map eB).map (List.map (RT.ce fl))) = b.map cB := map_ce fun _ => rfl
  rw [h1, List.append_nil, List.map_append, List.map_replicate]
  unfold lay
  simp
theorem mkN_any {lz cz : Int} (l : Nat) {bt : Nat} {A : Nat → Nat → Prop} (e1 : lz = (l : Int)) (e2 : cz = (l : Int)) (h2 : l ≤ maxLen) (h3 : bt * l ≤ 140737488355328) (k : A l l) : mkN lz cz bt A := ⟨l, l, e1, e2, Nat.le_refl _, h2, h3, k⟩
theorem put_row {b T : List Int} {m : Nat} : ((b ++ List.replicate (m + 1) 0 ++ T).map cB)[0 + (b.length + m)]? = some (cB 0) := by
  rw [Nat.zero_add, List.replicate_succ', show b ++ (List.replicate m (0 : Int) ++ [0]) ++ T = (b ++ List.replicate m 0) ++ 0 :: T by simp, List.map_append, List.map_cons, Z.get_mid (by simp)]
theorem vN_shr8 {p : Int} {A : Int → Prop} (hp : 0 ≤ p) (h : A (p / 256)) : vN (p.fdiv (2 ^ (min (Int.toNat 8) IntKind.u64.bits))) A := ⟨_, Int.fdiv_eq_ediv_of_nonneg _ (by decide), h⟩
end Go.Proofs.Ytpnfogckdceiaaa
namespace Go.Proofs.Ytpnfogckdceiaaa
open Go Go.RowKit Wx
set_option linter.unusedVariables false
set_option linter.unusedSimpArgs false
set_option maxHeartbeats 4000000
theorem checkE_con (e : El) (hu : 0 ≤ e.num) : Con Try.prog 10 [.agg [.v (.int .i64 e.kd), .v (.int .i64 e.src), .v (.int .i64 e.key), .v (.int .i64 e.val), .v (.int .u64 e.num)]] (fun rx rK rt => rx = .val (.int .i64 (bif okE e then 0 else 151)) ∧ rK = [] ∧ rt = 0) := by
  refine Z.con_ofF tabOk 40 Try.f10 _ Try.func10 (by kernel_rfl) rfl rfl rfl rfl ?_
  repeat' ((conv => whnf); first
    | with_reducible first | refine spB_t ?_
    | ((with_reducible apply spB_cong); (focus (simp only [beq_self_eq_true, bne_self_eq_false, Bool.true_bne, Bool.false_bne, Bool.bne_true, Bool.bne_false, Bool.true_beq, Bool.false_beq, Bool.not_true, Bool.not_false, Bool.not_not, Int.reduceBEq, Int.reduceBNe, Int.reduceLE, Int.reduceLT, Int.reduceEq, decide_true, decide_false]; rfl)))
    | with_reducible first | refine spB_no (by decide) ?_ | refine spB_not ?_
    | (with_reducible refine spB_dec ?_ ?_ <;> intro _ <;> (try (exfalso; first | contradiction | omega | (rename_i hz; with_reducible exact absurd rfl hz))))
    | (with_reducible refine spB_beq ?_ ?_ <;> intro _ <;> (try (exfalso; first | contradiction | omega | (rename_i hz; with_reducible exact absurd rfl hz))))
    | (with_reducible refine spB_mk ?_ ?_ <;> intro _ <;> (try (exfalso; first | contradiction | omega | (rename_i hz; with_reducible exact absurd rfl hz))))
    | with_reducible first | refine Z.callZ_in tabOk 21 Try.f9 _ Try.func9 (by kernel_rfl) rfl rfl rfl ?_
    | ((with_reducible apply ex_and); exact rfl))
  all_goals (try (conv => whnf))
  all_goals first
    | ((first | (with_reducible apply Z.retF1)); (focus (exact rfl)); (repeat' (first | exact trivial | (with_reducible apply Z.frz_one) | (with_reducible apply Z.fq_int) | apply And.intro)); (all_goals (try exact (fun _ => none))); all_goals (first | (rw [show okE e = true by (unfold okE; (try simp only [Bool.and_eq_true, Bool.and_eq_false_iff, Bool.and_true, beq_iff_eq, beq_eq_false_iff_ne, bne_iff_ne, Bool.not_eq_true, Bool.not_eq_false, ne_eq, Bool.false_eq_true, or_false] at *); first | exact decide_eq_true (by omega) | exact decide_eq_false (by omega))]; rfl) | (rw [show okE e = false by (unfold okE; (try simp only [Bool.and_eq_true, Bool.and_eq_false_iff, Bool.and_true, beq_iff_eq, beq_eq_false_iff_ne, bne_iff_ne, Bool.not_eq_true, Bool.not_eq_false, ne_eq, Bool.false_eq_true, or_false] at *); first | exact decide_eq_true (by omega) | exact decide_eq_false (by omega))]; rfl)))

theorem rightE_con (e : El) (hu : 0 ≤ e.num) : Con Try.prog 12 [.agg [.v (.int .i64 e.kd), .v (.int .i64 e.src), .v (.int .i64 e.key), .v (.int .i64 e.val), .v (.int .u64 e.num)]] (fun rx rK rt => rx = .val (.bool (okE e)) ∧ rK = [] ∧ rt = 0) := by
  refine Z.con_ofF tabOk 41 Try.f12 _ Try.func12 (by kernel_rfl) rfl rfl rfl rfl ?_
  repeat' ((conv => whnf); first
    | with_reducible first | refine spB_t ?_
    | with_reducible first | refine spB_no (by decide) ?_ | refine spB_not ?_
    | (with_reducible refine spB_dec ?_ ?_ <;> intro _ <;> (try (exfalso; first | contradiction | omega | (rename_i hz; with_reducible exact absurd rfl hz))))
    | (with_reducible refine spB_beq ?_ ?_ <;> intro _ <;> (try (exfalso; first | contradiction | omega | (rename_i hz; with_reducible exact absurd rfl hz))))
    | (with_reducible refine spB_mk ?_ ?_ <;> intro _ <;> (try (exfalso; first | contradiction | omega | (rename_i hz; with_reducible exact absurd rfl hz))))
    | with_reducible first | refine Z.callZ_in tabOk 21 Try.f11 _ Try.func11 (by kernel_rfl) rfl rfl rfl ?_
    | ((with_reducible apply ex_and); exact rfl))
  all_goals (try (conv => whnf))
  all_goals first
    | ((first | (with_reducible apply Z.retF1)); (focus (exact rfl)); (repeat' (first | exact trivial | (with_reducible apply Z.frz_one) | (with_reducible apply Z.fq_bool) | apply And.intro)); (all_goals (try exact (fun _ => none))); all_goals (first | (rw [show okE e = true by (unfold okE; (try simp only [Bool.and_eq_true, Bool.and_eq_false_iff, Bool.and_true, beq_iff_eq, beq_eq_false_iff_ne, bne_iff_ne, Bool.not_eq_true, Bool.not_eq_false, ne_eq, Bool.false_eq_true, or_false] at *); first | exact decide_eq_true (by omega) | exact decide_eq_false (by omega))]) | (rw [show okE e = false by (unfold okE; (try simp only [Bool.and_eq_true, Bool.and_eq_false_iff, Bool.and_true, beq_iff_eq, beq_eq_false_iff_ne, bne_iff_ne, Bool.not_eq_true, Bool.not_eq_false, ne_eq, Bool.false_eq_true, or_false] at *); first | exact decide_eq_true (by omega) | exact decide_eq_false (by omega))]) | (by_cases hz : e.num = 0; (focus (rw [show (e.num == 0) = true by simpa using hz, show okE e = true by (unfold okE; (try simp only [Bool.and_eq_true, Bool.and_eq_false_iff, Bool.and_true, beq_iff_eq, beq_eq_false_iff_ne, bne_iff_ne, Bool.not_eq_true, Bool.not_eq_false, ne_eq, Bool.false_eq_true, or_false] at *); first | exact decide_eq_true (by omega) | exact decide_eq_false (by omega))])); (rw [show (e.num == 0) = false by simpa using hz, show okE e = false by (unfold okE; (try simp only [Bool.and_eq_true, Bool.and_eq_false_iff, Bool.and_true, beq_iff_eq, beq_eq_false_iff_ne, bne_iff_ne, Bool.not_eq_true, Bool.not_eq_false, ne_eq, Bool.false_eq_true, or_false] at *); first | exact decide_eq_true (by omega) | exact decide_eq_false (by omega))]))))

end Go.Proofs.Ytpnfogckdceiaaa
namespace Go.Proofs.Ytpnfogckdceiaaa
open Go Go.RowKit Wx
set_option linter.unusedVariables false
set_option linter.unusedSimpArgs false
set_option maxHeartbeats 4000000
theorem put_con (b : List Int) (x : Int) (n : Nat) (hb : b.length ≤ 1099511627776) (hn : n ≤ 8) (hx : 0 ≤ x ∧ x < 18446744073709551616) : Con Try.prog 45 [.one (.ro false 1 (b.map eB)), .one (.v (.int .u64 x)), .one (.v (.int .i64 (n : Int)))] (fun rx rK rt => rx = .c (.ro true 1 ((b ++ be n x).map eB)) ∧ rK = [] ∧ rt = 0) := by
  refine Z.con_ofF tabOk 34 Try.f45 _ Try.func45 (by kernel_rfl) rfl rfl rfl rfl ?_
  repeat' ((conv => whnf); first
    | ((with_reducible refine mkN_any (b.length + n) ?_ ?_ ?_ ?_ ?_); (iterate 4 (focus ((try simp only [LN] at *) <;> omega))))
    | ((with_reducible refine cpyN.mk ?_ ?_ ?_ ?_); (focus (first | (simp; done))); (focus (first | exact one_map2 (fun _ => rfl))); (focus ((try simp only [LN] at *) <;> omega)))
    | with_reducible refine wr_i64 (by first | omega | (simp only [LN] at *; omega)) ?_)
  all_goals (try (conv => whnf))
  all_goals try (show Nat.ble _ _ = true; rfl)
  all_goals try (exfalso; rename_i hz; cases hz; done)
  all_goals try (exfalso; (try simp only [LN] at *) <;> omega)
  refine Z.loopK tabOk (fun zq : Nat × Int × List Int => [(18, .val (.int .i64 (zq.1 : Int))), (1, .val (.int .u64 zq.2.1))]) (fun zq : Nat × Int × List Int => ([(0, some (Z.Ob.b ⟨(b ++ List.replicate (n - zq.1) 0 ++ zq.2.2).map cB, 1, 5, false⟩))] : Z.Kr)) (fun zq => zq.1 ≤ n ∧ zq.2.2.length = zq.1 ∧ be (n - zq.1) zq.2.1 ++ zq.2.2 = be n x ∧ 0 ≤ zq.2.1 ∧ zq.2.1 < 18446744073709551616) (fun zq => n - zq.1) (0, x, []) 1 [(7, _), (17, _)] ⟨rfl, rfl, trivial⟩ [] trivial ?_ ?_ rfl rfl ⟨Nat.zero_le _, rfl, by simp, hx⟩ ?_
  · repeat' (first | exact trivial | apply And.intro | exact ⟨_, rfl, Z.Imp.refl _⟩)
  · repeat' (first | exact trivial | (intro b hb; cases hb; refine ⟨_, rfl, ⟨rfl, rfl, rfl⟩, Z.imp_eq ?_⟩; first | rfl | exact put_lay (by simp) | exact (put_lay (by simp)).trans (by simp); done) | apply And.intro)
  rintro ⟨i, y, T⟩ HINV
  dsimp only at HINV ⊢
  obtain ⟨HI, HT, HB, hy⟩ := HINV
  have hlr : (b ++ List.replicate (n - i) 0 ++ T).length = b.length + n := by simp; omega
  by_cases hi : i < n
  · obtain ⟨m, hm⟩ : ∃ m, n - i = m + 1 := ⟨n - i - 1, by omega⟩
    rw [hm] at hlr HB ⊢
    rw [be, List.append_assoc] at HB
    repeat' ((conv => whnf); first
      | (with_reducible refine spB_dec ?_ ?_ <;> intro _ <;> (try (exfalso; first | contradiction | omega | (rename_i hz; refine hz ?_; simp; done) | (rename_i hz; simp at hz; done) | (simp only [LN] at *; omega))))
      | (with_reducible refine vN_shr8 (by omega) ?_)
      | ((with_reducible refine ixN_mk (b.length + m) ?_ ?_ ?_); (focus (first | ((try simp only [LN] at *) <;> omega))); (focus ((try simp only [LN] at *) <;> omega)))
      | ((with_reducible refine rowN_mk (cB 0) ?_ ?_); (focus (exact put_row)))
      | with_reducible first | refine wr_mod8 ?_
      | ((with_reducible refine eqN_mk2 ?_ ?_); (focus rfl))
      | with_reducible refine wr_i64 (by first | omega | (simp only [LN] at *; omega)) ?_)
    all_goals (try (conv => whnf))
    all_goals try (show Nat.ble _ _ = true; rfl)
    all_goals try (exfalso; rename_i hz; cases hz; done)
    all_goals try (exfalso; (try simp only [LN] at *) <;> omega)
    all_goals first
      | ((refine Z.rnd_rw 0 ((b ++ List.replicate (n - (i + 1)) 0 ++ (y % 256) :: T).map cB) rfl rfl ?_ ?_); (focus (rw [show n - (i + 1) = m by omega]; exact put_set)); ((refine Z.rndK ((i + 1, y / 256, (y % 256) :: T)) (fun s => [0]) rfl rfl rfl rfl ?_ ?_ ?_ ?_); (focus (repeat' (first | exact trivial | exact rfl | apply And.intro))); (focus (repeat' (first | exact trivial | exact Z.blk_sub rfl rfl (ren_map fun _ => rfl) | apply And.intro))); (focus (exact ⟨by (try dsimp only); omega, by (try dsimp only); rw [List.length_cons, HT], by (try dsimp only); rw [show n - (i + 1) = m by omega]; exact HB, by (try dsimp only); omega⟩)); ((try dsimp only); omega)))
  have hil : i = n := by omega
  subst hil
  rw [Nat.sub_self, be, List.nil_append] at HB
  subst HB
  repeat' ((conv => whnf); first
    | (with_reducible refine spB_dec ?_ ?_ <;> intro _ <;> (try (exfalso; first | contradiction | omega | (rename_i hz; refine hz ?_; simp; done) | (rename_i hz; simp at hz; done) | (simp only [LN] at *; omega)))))
  all_goals (try (conv => whnf))
  all_goals try (show Nat.ble _ _ = true; rfl)
  all_goals try (exfalso; rename_i hz; cases hz; done)
  all_goals try (exfalso; (try simp only [LN] at *) <;> omega)
  all_goals first
    | ((first | (with_reducible apply Z.retF1)); (focus (exact rfl)); (repeat' (first | exact trivial | (with_reducible apply Z.frz_one) | ((with_reducible apply Z.fq_osl); (focus (exact rfl)); (focus (first | ((try simp only [LN] at *) <;> omega))); (focus (exact fun _ => rfl))) | apply And.intro)); (all_goals (try exact (fun _ => none))); all_goals (first | (simp; done)))

theorem put8_con (b : List Int) (x : Int) (hb : b.length ≤ 1099511627776) (hx : 0 ≤ x ∧ x < 18446744073709551616) : Con Try.prog 45 [.one (.ro false 1 (b.map eB)), .one (.v (.int .u64 x)), .one (.v (.int .i64 8))] (fun rx rK rt => rx = .c (.ro true 1 ((b ++ be 8 x).map eB)) ∧ rK = [] ∧ rt = 0) := put_con b x 8 hb (by decide) hx
theorem put64_con (b : List Int) (x : Int) (hb : b.length ≤ 1099511627776) (hx : 0 ≤ x ∧ x < 18446744073709551616) : Con Try.prog 39 [.one (.ro false 1 (b.map eB)), .one (.v (.int .u64 x))] (fun rx rK rt => rx = .c (.ro true 1 ((b ++ be 8 x).map eB)) ∧ rK = [] ∧ rt = 0) := by
  refine Z.con_ofF tabOk 8 Try.f39 _ Try.func39 (by kernel_rfl) rfl rfl rfl rfl ?_
  repeat' ((conv => whnf); first
    | ((first | (with_reducible apply Z.callZ_mk ?_ (put8_con _ _ ?_ ?_) ?_)); (rotate_left 2); (focus ((repeat' (first | exact trivial | exact rfl | apply And.intro)); done)); (iterate 2 (focus (first | assumption)))))
  all_goals (try (conv => whnf))
  all_goals first
    | ((first | (with_reducible apply Z.retF1)); (focus (exact rfl)); (repeat' (first | exact trivial | exact rfl | apply And.intro)); (all_goals (try exact (fun _ => none))); all_goals (rfl))

end Go.Proofs.Ytpnfogckdceiaaa
namespace Go.Proofs.Ytpnfogckdceiaaa
open Go Go.RowKit Wx
set_option linter.unusedVariables false
set_option linter.unusedSimpArgs false
set_option maxHeartbeats 4000000
/-- An own slice as one that grows. -/
theorem oslg {i n : Nat} {c : Option Nat} {rows : List (List Ce)} (hne : rows ≠ []) (hn : n = rows.length) : Z.Imp (.osl i 0 n c) (.gsl i rows) := fun I R u h => by
  subst hn
  obtain ⟨p, c', hp, hu, h1, h2, _⟩ := h
  exact .inr ⟨hne, p, c', hp, by rw [hu, Nat.zero_mul], h1, by omega⟩
theorem encE_1 {e : El} (h : okE e = true) (h1 : e.kd = 1) : [e.kd % 256, e.src % 256, e.key % 256] ++ be 8 (IntKind.u64.wrap e.val) = encE e := by
  have := okE_all h
  unfold encE
  rw [if_pos h1, show e.kd % 256 = e.kd by omega, show e.src % 256 = e.src by omega, show e.key % 256 = e.key by omega]; rfl
theorem encE_2 {e : El} (h1 : e.kd = 2) : [e.kd % 256] ++ be 8 e.num = encE e := by
  unfold encE
  rw [if_neg (by omega), if_pos h1, show e.kd % 256 = e.kd by omega]; rfl
theorem encE_3 {e : El} (h1 : e.kd = 3) : [e.kd % 256] = encE e := by
  unfold encE
  rw [if_neg (by omega), if_neg (by omega), show e.kd % 256 = e.kd by omega]
theorem encE_ne (e : El) : encE e ≠ [] := by
  unfold encE
  split
  · simp
  · split <;> simp
theorem encs_take {l : List El} {i : Nat} : (encs (l.take i)).length ≤ 11 * i := by
  have h := encs_len (l.take i)
  rw [List.length_take] at h; omega
/-- What a row comes to: its bytes, or an error. -/
def encR (l : List El) : List Int × Int := if 200 < l.length then ([], 3) else bif okEs l then (enc l, 0) else ([], 151)
theorem ce_cB {fl : Bool} {l : List Int} : (l.map eB).map (List.map (RT.ce fl)) = l.map cB := map_ce fun _ => rfl
theorem app_rows {A B C : List Int} {fl : Bool} (h : C = A ++ B) : A.map cB ++ (B.map eB).map (List.map (RT.ce fl)) = C.map cB := by
  rw [ce_cB, h, List.map_append]
end Go.Proofs.Ytpnfogckdceiaaa
namespace Go.Proofs.Ytpnfogckdceiaaa
open Go Go.RowKit Wx
set_option linter.unusedVariables false
set_option linter.unusedSimpArgs false
set_option maxHeartbeats 4000000
theorem lay1_con (e : El) (hok : okE e = true) (h1 : e.kd = 1) : Con Try.prog 29 [.agg [.v (.int .i64 e.kd), .v (.int .i64 e.src), .v (.int .i64 e.key), .v (.int .i64 e.val), .v (.int .u64 e.num)]] (fun rx rK rt => rx = .c (.ro true 1 ((encE e).map eB)) ∧ rK = [] ∧ rt = 0) := by
  refine Z.con_ofF tabOk 36 Try.f29 _ Try.func29 (by kernel_rfl) rfl rfl rfl rfl ?_
  have hk := okE_all hok
  have cp := put64_con [e.kd % 256, e.src % 256, e.key % 256] (IntKind.u64.wrap e.val) (by simp) (u64_rng _)
  rw [← encE_1 hok h1]
  repeat' ((conv => whnf); first
    | (with_reducible refine spB_beq ?_ ?_ <;> intro _ <;> (try (exfalso; first | contradiction | omega | (rename_i hz; refine hz ?_; simp; done) | (rename_i hz; simp at hz; done) | (simp only [LN] at *; omega))))
    | with_reducible first | refine wr_mod8 ?_ | refine wr_mk (IntKind.u64.wrap e.val) rfl ?_
    | ((with_reducible refine apdE_n ?_); (with_reducible refine apdN.mk ?_ ?_ ?_ ?_ ?_ ?_); (focus rfl); (focus (exact one_all (by rfl))); (focus (exact Nat.le_of_ble_eq_true rfl)); (iterate 2 (focus ((try simp only [LN] at *) <;> omega))))
    | ((first | (with_reducible refine Z.callZ_mk ?_ (cp) ?_)); (focus ((repeat' (first | exact trivial | exact ⟨_, rfl, rfl, rfl⟩ | exact rfl | apply And.intro)); done))))
  all_goals (try (conv => whnf))
  all_goals try (show Nat.ble _ _ = true; rfl)
  all_goals try (exfalso; rename_i hz; cases hz; done)
  all_goals try (exfalso; (try simp only [LN] at *) <;> omega)
  all_goals first
    | ((first | (with_reducible apply Z.retF1)); (focus (exact rfl)); (repeat' (first | exact trivial | exact rfl | apply And.intro)); (all_goals (try exact (fun _ => none))); all_goals (rfl))

theorem lay2_con (e : El) (hok : okE e = true) (h1 : e.kd = 2) : Con Try.prog 29 [.agg [.v (.int .i64 e.kd), .v (.int .i64 e.src), .v (.int .i64 e.key), .v (.int .i64 e.val), .v (.int .u64 e.num)]] (fun rx rK rt => rx = .c (.ro true 1 ((encE e).map eB)) ∧ rK = [] ∧ rt = 0) := by
  refine Z.con_ofF tabOk 36 Try.f29 _ Try.func29 (by kernel_rfl) rfl rfl rfl rfl ?_
  have hk := okE_all hok
  have cp := put64_con [e.kd % 256] e.num (by simp) (by omega)
  rw [← encE_2 h1]
  repeat' ((conv => whnf); first
    | (with_reducible refine spB_beq ?_ ?_ <;> intro _ <;> (try (exfalso; first | contradiction | omega | (rename_i hz; refine hz ?_; simp; done) | (rename_i hz; simp at hz; done) | (simp only [LN] at *; omega))))
    | with_reducible first | refine wr_mod8 ?_
    | ((first | (with_reducible refine Z.callZ_mk ?_ (cp) ?_)); (focus ((repeat' (first | exact trivial | exact ⟨_, rfl, rfl, rfl⟩ | exact rfl | apply And.intro)); done))))
  all_goals (try (conv => whnf))
  all_goals try (show Nat.ble _ _ = true; rfl)
  all_goals try (exfalso; rename_i hz; cases hz; done)
  all_goals try (exfalso; (try simp only [LN] at *) <;> omega)
  all_goals first
    | ((first | (with_reducible apply Z.retF1)); (focus (exact rfl)); (repeat' (first | exact trivial | exact rfl | apply And.intro)); (all_goals (try exact (fun _ => none))); all_goals (rfl))

theorem lay3_con (e : El) (hok : okE e = true) (h1 : e.kd = 3) : Con Try.prog 29 [.agg [.v (.int .i64 e.kd), .v (.int .i64 e.src), .v (.int .i64 e.key), .v (.int .i64 e.val), .v (.int .u64 e.num)]] (fun rx rK rt => rx = .c (.ro true 1 ((encE e).map eB)) ∧ rK = [] ∧ rt = 0) := by
  refine Z.con_ofF tabOk 36 Try.f29 _ Try.func29 (by kernel_rfl) rfl rfl rfl rfl ?_
  have hk := okE_all hok
  rw [← encE_3 h1]
  repeat' ((conv => whnf); first
    | (with_reducible refine spB_beq ?_ ?_ <;> intro _ <;> (try (exfalso; first | contradiction | omega | (rename_i hz; refine hz ?_; simp; done) | (rename_i hz; simp at hz; done) | (simp only [LN] at *; omega))))
    | with_reducible first | refine wr_mod8 ?_)
  all_goals (try (conv => whnf))
  all_goals try (show Nat.ble _ _ = true; rfl)
  all_goals try (exfalso; rename_i hz; cases hz; done)
  all_goals try (exfalso; (try simp only [LN] at *) <;> omega)
  all_goals first
    | ((first | (with_reducible apply Z.retF1)); (focus (exact rfl)); (repeat' (first | exact trivial | (refine Z.frz_oslw (l := [e.kd % 256]) (f := cB) (ty := 5) (bx := false) rfl ?_ ?_ (fun _ => rfl); (focus rfl); rfl) | (with_reducible apply Z.frz_one) | apply And.intro)); (all_goals (try exact (fun _ => none))); all_goals (rfl))

theorem lay_con (e : El) (hok : okE e = true) : Con Try.prog 29 [.agg [.v (.int .i64 e.kd), .v (.int .i64 e.src), .v (.int .i64 e.key), .v (.int .i64 e.val), .v (.int .u64 e.num)]] (fun rx rK rt => rx = .c (.ro true 1 ((encE e).map eB)) ∧ rK = [] ∧ rt = 0) := by
  rcases okE_all hok with h | h | h
  · exact lay1_con e hok h.1
  · exact lay2_con e hok h.1
  · exact lay3_con e hok h.1
end Go.Proofs.Ytpnfogckdceiaaa
namespace Go.Proofs.Ytpnfogckdceiaaa
open Go Go.RowKit Wx
set_option linter.unusedVariables false
set_option linter.unusedSimpArgs false
set_option maxHeartbeats 4000000
theorem encode_con (l : List El) (hl : l.length ≤ 9223372036854775807) (hu : ∀ e ∈ l, 0 ≤ e.num) : Con Try.prog 16 [.one (.ro false 5 (l.map eE))] (fun rx rK rt => rx = .tup [.one (.ro true 1 ((encR l).1.map eB)), .one (.v (.int .i64 (encR l).2))] ∧ rK = [] ∧ rt = 0) := by
  refine Z.con_ofF tabOk 32 Try.f16 _ Try.func16 (by kernel_rfl) rfl rfl rfl rfl ?_
  by_cases h2 : 200 < l.length
  · rw [show encR l = ([], 3) by unfold encR; rw [if_pos h2]]
    dsimp only
    repeat' ((conv => whnf); first
      | (with_reducible refine spB_dec ?_ ?_ <;> intro _ <;> (try (exfalso; first | contradiction | omega | (rename_i hz; refine hz ?_; simp; done) | (rename_i hz; simp at hz; done) | (simp only [LN] at *; omega)))))
    all_goals (try (conv => whnf))
    all_goals try (show Nat.ble _ _ = true; rfl)
    all_goals try (exfalso; rename_i hz; cases hz; done)
    all_goals try (exfalso; (try simp only [LN] at *) <;> omega)
    all_goals first
      | ((first | (with_reducible apply Z.retF2)); (focus (exact rfl)); (repeat' (first | exact trivial | (with_reducible apply Z.frz_one) | (with_reducible apply Z.fq_int) | (exact Z.frz_nil) | exact rfl | apply And.intro)); (all_goals (try exact (fun _ => none))); all_goals (first | (simp; done)))
  have hR : encR l = bif okEs l then (enc l, 0) else ([], 151) := by unfold encR; rw [if_neg h2]
  rw [hR]
  repeat' ((conv => whnf); first
    | (with_reducible refine spB_dec ?_ ?_ <;> intro _ <;> (try (exfalso; first | contradiction | omega | (rename_i hz; refine hz ?_; simp; done) | (rename_i hz; simp at hz; done) | (simp only [LN] at *; omega))))
    | with_reducible first | refine wr_mod8 ?_)
  all_goals (try (conv => whnf))
  all_goals try (show Nat.ble _ _ = true; rfl)
  all_goals try (exfalso; rename_i hz; cases hz; done)
  all_goals try (exfalso; (try simp only [LN] at *) <;> omega)
  refine Z.loopK tabOk (fun zq : Nat => [(17, .val (.int .i64 (zq : Int))), (4, .c (.gsl 0 (((((List.map eE l).length : Int) % 256) :: encs (l.take zq)).map cB)))]) (fun zq : Nat => ([(0, (gB 1 5 (((((List.map eE l).length : Int) % 256) :: encs (l.take zq)).map cB)).map Z.Ob.b)] : Z.Kr)) (fun zq => zq ≤ l.length ∧ okEs l = okEs (l.drop zq)) (fun zq => l.length - zq) 0 1 [(15, _), (16, _)] ⟨rfl, rfl, trivial⟩ [] trivial ?_ ?_ rfl rfl ⟨Nat.zero_le _, rfl⟩ ?_
  · repeat' (first | exact trivial | apply And.intro | exact ⟨_, rfl, Z.Imp.refl _⟩ | exact ⟨_, rfl, oslg (by simp) (by simp [encs])⟩)
  · repeat' (first | exact trivial | exact (fun b hb => ⟨b, hb, Z.ImpO.refl b⟩) | apply And.intro)
  rintro i HINV
  dsimp only at HINV ⊢
  obtain ⟨HI, HO⟩ := HINV
  have hel := @encs_take l i
  by_cases hi : i < l.length
  · obtain ⟨x, hx⟩ := getElem?_some' (xs := l) (i := i) hi
    have ce := checkE_con x (hu x (List.mem_of_getElem? hx))
    have hat := okEs_at hx
    have hel2 := encE_len x
    cases hok : okE x
    all_goals rw [hok] at ce hat
    all_goals simp only [cond_true, cond_false] at ce
    · rw [Bool.false_and] at hat
      rw [HO, hat]
      simp only [cond_false]
      repeat' ((conv => whnf); first
        | with_reducible first | refine spB_t ?_
        | ((with_reducible apply spB_cong); (focus (simp only [beq_self_eq_true, bne_self_eq_false, Bool.true_bne, Bool.false_bne, Bool.bne_true, Bool.bne_false, Bool.true_beq, Bool.false_beq, Bool.not_true, Bool.not_false, Bool.not_not, Int.reduceBEq, Int.reduceBNe, Int.reduceLE, Int.reduceLT, Int.reduceEq, decide_true, decide_false]; rfl)))
        | (with_reducible refine spB_dec ?_ ?_ <;> intro _ <;> (try (exfalso; first | contradiction | omega | (rename_i hz; refine hz ?_; simp; done) | (rename_i hz; simp at hz; done) | (simp only [LN] at *; omega))))
        | with_reducible first | refine Z.rowN_known hx ?_
        | ((with_reducible apply ixN_litp); (focus (exact rfl)); (focus ((try simp only [LN] at *) <;> omega)))
        | ((first | (with_reducible refine Z.callZ_mk ?_ (ce) ?_)); (focus ((repeat' (first | exact trivial | exact rfl | apply And.intro)); done))))
      all_goals (try (conv => whnf))
      all_goals try (show Nat.ble _ _ = true; rfl)
      all_goals try (exfalso; rename_i hz; cases hz; done)
      all_goals try (exfalso; (try simp only [LN] at *) <;> omega)
      all_goals first
        | ((first | (with_reducible apply Z.retF2)); (focus (exact rfl)); (repeat' (first | exact trivial | (with_reducible apply Z.frz_one) | (exact Z.frz_nil) | exact rfl | apply And.intro)); (all_goals (try exact (fun _ => none))); all_goals (first | (simp; done)))
    · have cl := lay_con x hok
      obtain ⟨e0, r0, h0⟩ : ∃ e0 r0, encE x = e0 :: r0 := by
        cases h9 : encE x with
        | nil => exact absurd h9 (encE_ne x)
        | cons a b => exact ⟨a, b, rfl⟩
      have hel3 : (e0 :: r0).length ≤ 11 := h0 ▸ hel2
      rw [Bool.true_and] at hat
      have hen := encs_at hx
      rw [h0] at cl hen
      repeat' ((conv => whnf); first
        | ((with_reducible apply spB_cong); (focus (simp only [beq_self_eq_true, bne_self_eq_false, Bool.true_bne, Bool.false_bne, Bool.bne_true, Bool.bne_false, Bool.true_beq, Bool.false_beq, Bool.not_true, Bool.not_false, Bool.not_not, Int.reduceBEq, Int.reduceBNe, Int.reduceLE, Int.reduceLT, Int.reduceEq, decide_true, decide_false]; rfl)))
        | with_reducible first | refine spB_no (by decide) ?_
        | (with_reducible refine spB_dec ?_ ?_ <;> intro _ <;> (try (exfalso; first | contradiction | omega | (rename_i hz; refine hz ?_; simp; done) | (rename_i hz; simp at hz; done) | (simp only [LN] at *; omega))))
        | with_reducible first | refine Z.rowN_known hx ?_
        | ((with_reducible refine posE_pos ?_ ?_); (focus ((try simp only [LN] at *) <;> omega)))
        | ((with_reducible apply ixN_litp); (focus (exact rfl)); (focus ((try simp only [LN] at *) <;> omega)))
        | ((with_reducible refine eqN_mk2 ?_ ?_); (focus rfl))
        | ((with_reducible refine apdN.mk ?_ ?_ ?_ ?_ ?_ ?_); (focus (first | (simp; done))); (focus (first | exact one_map2 (fun _ => rfl))); (focus ((try simp only [LN] at *) <;> omega)); (focus ((try simp only [LN] at *) <;> omega)); (focus ((try simp only [LN] at *) <;> omega)))
        | with_reducible refine wr_i64 (by first | omega | (simp only [LN] at *; omega)) ?_
        | ((first | (with_reducible refine Z.callZ_mk ?_ (ce) ?_) | (with_reducible refine Z.callZ_mk ?_ (cl) ?_)); (focus ((repeat' (first | exact trivial | exact rfl | apply And.intro)); done))))
      all_goals (try (conv => whnf))
      all_goals try (show Nat.ble _ _ = true; rfl)
      all_goals try (exfalso; rename_i hz; cases hz; done)
      all_goals try (exfalso; (try simp only [LN] at *) <;> omega)
      all_goals first
        | ((refine Z.rndK ((i + 1)) (fun s => [s.idAt 4]) rfl rfl rfl rfl ?_ ?_ ?_ ?_); (focus (repeat' (first | exact trivial | exact congrArg (fun r => some (AV.c (Ce.gsl _ r))) (app_rows (congrArg (List.cons _) hen)) | exact rfl | apply And.intro))); (focus (repeat' (first | exact trivial | exact Z.gB_sub' rfl (app_rows (congrArg (List.cons _) hen)) (ren_map fun _ => rfl) | apply And.intro))); (focus (exact ⟨by (try dsimp only); omega, by (try dsimp only); rw [HO, hat]⟩)); ((try dsimp only); omega))
  have hil : i = l.length := by omega
  subst hil
  rw [List.drop_length] at HO
  rw [HO, show okEs [] = true from rfl]
  simp only [cond_true]
  have hen : enc l = (((List.map eE l).length : Int) % 256) :: encs (l.take l.length) := by rw [List.take_length, enc, List.length_map, show (l.length : Int) % 256 = l.length by omega]
  rw [hen]
  repeat' ((conv => whnf); first
    | (with_reducible refine spB_dec ?_ ?_ <;> intro _ <;> (try (exfalso; first | contradiction | omega | (rename_i hz; refine hz ?_; simp; done) | (rename_i hz; simp at hz; done) | (simp only [LN] at *; omega)))))
  all_goals (try (conv => whnf))
  all_goals try (show Nat.ble _ _ = true; rfl)
  all_goals try (exfalso; rename_i hz; cases hz; done)
  all_goals try (exfalso; (try simp only [LN] at *) <;> omega)
  all_goals first
    | ((first | (with_reducible apply Z.retF2)); (focus (exact rfl)); (repeat' (first | exact trivial | (with_reducible apply Z.frz_one) | (with_reducible apply Z.fq_int) | ((with_reducible apply Z.fq_gsl); (focus (first | rfl)); (focus (exact fun _ => rfl))) | exact rfl | apply And.intro)); (all_goals (try exact (fun _ => none))); all_goals (first | (simp; done)))

end Go.Proofs.Ytpnfogckdceiaaa
namespace Go.Proofs.Ytpnfogckdceiaaa
open Go Go.RowKit Wx
set_option linter.unusedVariables false
set_option linter.unusedSimpArgs false
set_option maxHeartbeats 4000000
theorem ret1g {T : Tab} {rs : List ResultVar} {s : S} {post : AV → Kr → Nat → Prop} (i : Nat) (rows : List (List Ce)) (sz : Nat) (ty : TypeId) (xs : List A0) (h : resL T s rs = some xs) {rows' rows2 : List (List Ce)} (hx : retV xs = .c (.gsl i rows')) (hK : kg s.K i = some ⟨rows2, sz, ty, false⟩) (e : rows' = rows) (e2 : rows2 = rows) (hf : rows.map (List.map (Ce.ren (rn [i] s.top))) = rows) (ho2 : ∀ r ∈ rows, ∀ c ∈ r, c.own' = true) (hp : post (.c (.gsl 0 rows)) [(0, some ⟨rows, sz, ty, false⟩)] 1) : retN T rs s post := by
  subst e e2
  exact ret1 xs h [i] (.c (.gsl 0 rows2)) [(0, some ⟨rows2, sz, ty, false⟩)] hx ⟨blk_sub (r := rn [i] s.top) (j := 0) hK rfl hf, trivial⟩ (by simp) rfl (own_one ho2) (by simp) hp
theorem and8 {x : Int} (h : 0 ≤ x ∧ x < 18446744073709551616) : IntKind.u8.wrap (IntKind.u64.wrap ((BitVec.ofInt IntKind.u64.bits x &&& BitVec.ofInt IntKind.u64.bits 255).toNat : Int)) = x % 256 := by
  rw [and255 h, u8_mod]; omega
theorem ren_cB {l : List Int} {r : Nat → Nat} : (l.map cB).map (List.map (Ce.ren r)) = l.map cB := ren_map fun _ => rfl
theorem gB_r {l : List Int} {r : Nat → Nat} (hne : l ≠ []) : (some ⟨(l.map cB).map (List.map (Ce.ren r)), 1, 5, false⟩ : Option Blk) = gB 1 5 (l.map cB) := by
  rw [ren_cB, gB_ne (by simpa using hne)]
theorem low_gB {K : Nat → Option Blk} {i : Nat} {l : List Int} {R R2 : List (List Ce)} (h : K i = some ⟨R2, 1, 5, false⟩) (hR : R = l.map cB) (hR2 : R2 = l.map cB) (hne : l ≠ []) : lowV K (.pl (.one (.gsl i R))) (.one (.ro false 1 (l.map eB))) := by
  subst hR hR2
  show lowC K (.gsl i (l.map cB)) (.ro false 1 (l.map eB))
  exact Z.low_gslm (h.trans (gB_ne (by simpa using hne)).symm) (fun _ => rfl)
theorem app_lit {A C : List Int} {S : List (List Ce)} {B : List Int} (hS : S = B.map cB) (h : C = A ++ B) : A.map cB ++ S = C.map cB := by
  rw [hS, h, List.map_append]
theorem app_lit2 {A C : List Int} {S T : List (List Ce)} {B D : List Int} (hS : S = B.map cB) (hT : T = D.map cB) (h : C = A ++ B ++ D) : A.map cB ++ S ++ T = C.map cB := by
  rw [hS, hT, h, List.map_append, List.map_append]
theorem app_litI {A C : List Int} {S : List (List Ce)} {B : List Int} (hS : S = B.map cI) (h : C = A ++ B) : A.map cI ++ S = C.map cI := by
  rw [hS, h, List.map_append]
theorem low_int {K : Nat → Option Blk} {k : IntKind} {a b : Int} (h : a = b) : lowV K (.val (.int k a)) (.one (.v (.int k b))) := by subst h; rfl
end Go.Proofs.Ytpnfogckdceiaaa
namespace Go.Proofs.Ytpnfogckdceiaaa
open Go Go.RowKit Wx
set_option linter.unusedVariables false
set_option linter.unusedSimpArgs false
set_option maxHeartbeats 4000000
theorem nan_con (a : Int)  : Con Try.prog 38 [.one (.v (.int .i64 a))] (fun rx rK rt => rx = .val (.bool false) ∧ rK = [] ∧ rt = 0) := by
  refine Z.con_ofF tabOk 6 Try.f38 _ Try.func38 (by kernel_rfl) rfl rfl rfl rfl ?_
  repeat' ((conv => whnf); first
    | with_reducible first | refine spB_t ?_)
  all_goals (try (conv => whnf))
  all_goals first
    | ((first | (with_reducible apply Z.retF1)); (focus (exact rfl)); (repeat' (first | exact trivial | (with_reducible apply Z.frz_one) | (with_reducible apply Z.fq_bool) | apply And.intro)); (all_goals (try exact (fun _ => none))); all_goals (simp))

theorem cmp_con (a b : Int)  : Con Try.prog 28 [.one (.v (.int .i64 a)), .one (.v (.int .i64 b))] (fun rx rK rt => rx = .val (.int .i64 (cmpI a b)) ∧ rK = [] ∧ rt = 0) := by
  refine Z.con_ofF tabOk 20 Try.f28 _ Try.func28 (by kernel_rfl) rfl rfl rfl rfl ?_
  repeat' ((conv => whnf); first
    | with_reducible first | refine spB_no (by decide) ?_
    | (with_reducible refine spB_dec ?_ ?_ <;> intro _ <;> (try (exfalso; first | contradiction | omega | (rename_i hz; with_reducible exact absurd rfl hz))))
    | ((first | (with_reducible apply Z.callZ_mk ?_ (nan_con _) ?_)); (rotate_left 1); (focus ((repeat' (first | exact trivial | exact rfl | apply And.intro)); done))))
  all_goals (try (conv => whnf))
  all_goals first
    | ((first | (with_reducible apply Z.retF1)); (focus (exact rfl)); (repeat' (first | exact trivial | (with_reducible apply Z.frz_one) | (with_reducible apply Z.fq_int) | apply And.intro)); (all_goals (try exact (fun _ => none))); all_goals (first | (unfold cmpI; first | rw [if_pos (by omega)] | rw [if_neg (by omega), if_pos (by omega)] | rw [if_neg (by omega), if_neg (by omega)])))

theorem or_con (a b : Int)  : Con Try.prog 27 [.one (.ro false 1 [[.v (.int .i64 a)], [.v (.int .i64 b)]])] (fun rx rK rt => rx = .val (.int .i64 (if a ≠ 0 then a else b)) ∧ rK = [] ∧ rt = 0) := by
  refine Z.con_ofF tabOk 18 Try.f27 _ Try.func27 (by kernel_rfl) rfl rfl rfl rfl ?_
  repeat' ((conv => whnf); first
    | (with_reducible refine spB_dec ?_ ?_ <;> intro _ <;> (try (exfalso; first | contradiction | omega | (rename_i hz; refine hz ?_; simp; done) | (rename_i hz; simp at hz; done) | (simp only [LN] at *; omega))))
    | (with_reducible refine spB_bne ?_ ?_ <;> intro _ <;> (try (exfalso; first | contradiction | omega | (rename_i hz; refine hz ?_; simp; done) | (rename_i hz; simp at hz; done) | (simp only [LN] at *; omega))))
    | with_reducible first | refine Z.loopZ_unroll tabOk 3 ?_
    | ((with_reducible apply rowN_mk); (focus rfl))
    | ((with_reducible apply ixN_lit); (focus (exact rfl)); (focus (exact rfl)))
    | with_reducible refine wr_i64 (by first | omega | (simp only [LN] at *; omega)) ?_)
  all_goals (try (conv => whnf))
  all_goals try (show Nat.ble _ _ = true; rfl)
  all_goals try (exfalso; rename_i hz; cases hz; done)
  all_goals try (exfalso; (try simp only [LN] at *) <;> omega)
  all_goals first
    | ((first | (with_reducible apply Z.retF1)); (focus (exact rfl)); (repeat' (first | exact trivial | (with_reducible apply Z.frz_one) | (with_reducible apply Z.fq_int) | (apply Z.fq_int) | apply And.intro)); (all_goals (try exact (fun _ => none))); all_goals (first | (simp_all; done)))

theorem compare_con (s k v s2 k2 v2 : Int)  : Con Try.prog 14 [.agg [.v (.int .i64 s), .v (.int .i64 k), .v (.int .i64 v)], .agg [.v (.int .i64 s2), .v (.int .i64 k2), .v (.int .i64 v2)]] (fun rx rK rt => rx = .val (.int .i64 (cmpR s k s2 k2)) ∧ rK = [] ∧ rt = 0) := by
  refine Z.con_ofF tabOk 17 Try.f14 _ Try.func14 (by kernel_rfl) rfl rfl rfl rfl ?_
  repeat' ((conv => whnf); first
    | ((first | (with_reducible apply Z.conZ_mz ?_ (or_con _ _) ?_) | (with_reducible apply Z.conZ_mz ?_ (cmp_con _ _) ?_)); (rotate_left 2); (focus ((repeat' (first | exact trivial | exact ⟨_, rfl, rfl, rfl⟩ | exact rfl | apply And.intro)); done)))
    | with_reducible first | refine Z.drawZ_rule tabOk mixOk ?_ | refine Z.apZ_mk (by kernel_rfl) ?_)
  all_goals (try (conv => whnf))
  all_goals first
    | ((first | (with_reducible apply Z.retF1)); (focus (exact rfl)); (repeat' (first | exact trivial | exact rfl | apply And.intro)); (all_goals (try exact (fun _ => none))); all_goals (rfl))

theorem samekey_con (s k v s2 k2 v2 : Int)  : Con Try.prog 15 [.agg [.v (.int .i64 s), .v (.int .i64 k), .v (.int .i64 v)], .agg [.v (.int .i64 s2), .v (.int .i64 k2), .v (.int .i64 v2)]] (fun rx rK rt => rx = .val (.bool (s == s2 && k == k2)) ∧ rK = [] ∧ rt = 0) := by
  refine Z.con_ofF tabOk 9 Try.f15 _ Try.func15 (by kernel_rfl) rfl rfl rfl rfl ?_
  have cq := cmp_eq s k s2 k2
  repeat' ((conv => whnf); first
    | ((first | (with_reducible apply Z.callZ_mk ?_ (compare_con _ _ _ _ _ _) ?_)); (rotate_left 6); (focus ((repeat' (first | exact trivial | exact rfl | apply And.intro)); done))))
  all_goals (try (conv => whnf))
  all_goals first
    | ((first | (with_reducible apply Z.retF1)); (focus (exact rfl)); (repeat' (first | exact trivial | (with_reducible apply Z.frz_one) | (with_reducible apply Z.fq_bool) | apply And.intro)); (all_goals (try exact (fun _ => none))); all_goals (first | exact cq))

end Go.Proofs.Ytpnfogckdceiaaa
namespace Go.Proofs.Ytpnfogckdceiaaa
open Go Go.RowKit Wx
set_option linter.unusedVariables false
set_option linter.unusedSimpArgs false
set_option maxHeartbeats 4000000
theorem of_con (l : List El) (s k v : Int) (hl : l.length ≤ 1000) : Con Try.prog 18 [.one (.ro false 5 (l.map eE)), .agg [.v (.int .i64 s), .v (.int .i64 k), .v (.int .i64 v)]] (fun rx rK rt => rx = .c (.ro true 1 ((ofR l s k).map eI)) ∧ rK = [] ∧ rt = 0) := by
  refine Z.con_ofF tabOk 31 Try.f18 _ Try.func18 (by kernel_rfl) rfl rfl rfl rfl ?_
  have hol := fun i => @ofR_len (l.take i) s k
  repeat' ((conv => whnf); first
    | with_reducible first | refine spB_t ?_)
  all_goals (try (conv => whnf))
  all_goals try (show Nat.ble _ _ = true; rfl)
  all_goals try (exfalso; rename_i hz; cases hz; done)
  all_goals try (exfalso; (try simp only [LN] at *) <;> omega)
  refine Z.loopK tabOk (fun zq : Nat => [(10, .val (.int .i64 (zq : Int))), (5, .c (.gsl 1 ((ofR (l.take zq) s k).map cI)))]) (fun zq : Nat => ([(1, (gB 1 2 ((ofR (l.take zq) s k).map cI)).map Z.Ob.b)] : Z.Kr)) (fun zq => zq ≤ l.length) (fun zq => l.length - zq) 0 2 [(3, _), (8, _), (9, _)] ⟨rfl, rfl, rfl, trivial⟩ [(0, some _)] ⟨rfl, trivial⟩ ?_ ?_ rfl rfl (Nat.zero_le _) ?_
  · repeat' (first | exact trivial | apply And.intro | exact ⟨_, rfl, Z.Imp.refl _⟩ | exact ⟨_, rfl, Z.Imp.nilg _⟩)
  · repeat' (first | exact trivial | (intro b hb; cases hb; done) | apply And.intro)
  rintro i HINV
  dsimp only at HINV ⊢
  have hol2 := hol i
  rw [List.length_take] at hol2
  by_cases hi : i < l.length
  · obtain ⟨x, hx⟩ := getElem?_some' (xs := l) (i := i) hi
    by_cases hc : x.kd = 1 ∧ x.src = s ∧ x.key = k
    · have hof := ofR_yes hx hc
      repeat' ((conv => whnf); first
        | with_reducible first | refine spB_t ?_
        | (with_reducible refine spB_dec ?_ ?_ <;> intro _ <;> (try (exfalso; first | contradiction | omega | (rename_i hz; refine hz ?_; simp; done) | (rename_i hz; simp at hz; done) | (simp only [LN] at *; omega))))
        | (with_reducible refine spB_beq ?_ ?_ <;> intro _ <;> (try (exfalso; first | contradiction | omega | (rename_i hz; refine hz ?_; simp; done) | (rename_i hz; simp at hz; done) | (simp only [LN] at *; omega))))
        | (with_reducible refine spB_mk ?_ ?_ <;> intro _ <;> (try (exfalso; first | contradiction | omega | (rename_i hz; refine hz ?_; simp; done) | (rename_i hz; simp at hz; done) | (simp only [LN] at *; omega))))
        | with_reducible first | refine Z.rowN_known hx ?_
        | ((with_reducible refine posE_pos ?_ ?_); (focus ((try simp only [LN] at *) <;> omega)))
        | ((with_reducible apply ixN_litp); (focus (exact rfl)); (focus ((try simp only [LN] at *) <;> omega)))
        | ((with_reducible refine apdN.mk ?_ ?_ ?_ ?_ ?_ ?_); (focus (first | rfl)); (focus (first | exact one_all (by rfl))); (focus ((try simp only [LN] at *) <;> omega)); (focus ((try simp only [LN] at *) <;> omega)); (focus ((try simp only [LN] at *) <;> omega)))
        | with_reducible refine wr_i64 (by first | omega | (simp only [LN] at *; omega)) ?_
        | ((first | (with_reducible apply Z.callZ_mk ?_ (samekey_con _ _ _ _ _ _) ?_)); (rotate_left 6); (focus ((repeat' (first | exact trivial | exact rfl | apply And.intro)); done)))
        | ((with_reducible refine eqN_mk2 ?_ ?_); (focus (exact Z.kb_some rfl))))
      all_goals (try (conv => whnf))
      all_goals try (show Nat.ble _ _ = true; rfl)
      all_goals try (exfalso; rename_i hz; cases hz; done)
      all_goals try (exfalso; (try simp only [LN] at *) <;> omega)
      all_goals try (exfalso; simp_all; done)
      all_goals first
        | ((refine Z.rndK ((i + 1)) (fun s => [0, s.idAt 5]) rfl rfl rfl rfl ?_ ?_ ?_ ?_); (focus (repeat' (first | exact trivial | exact congrArg (fun r => some (AV.c (Ce.gsl _ r))) (app_litI (B := [x.val]) rfl hof) | exact rfl | apply And.intro))); (focus (repeat' (first | exact trivial | exact Z.gB_sub' rfl (app_litI (B := [x.val]) rfl hof) (ren_map fun _ => rfl) | (intro b hb; cases hb; rfl) | apply And.intro))); (focus (((try dsimp only); omega))); ((try dsimp only); omega))
    · have hof := ofR_no hx hc
      repeat' ((conv => whnf); first
        | with_reducible first | refine spB_t ?_
        | with_reducible first | refine spB_no (by decide) ?_
        | (with_reducible refine spB_dec ?_ ?_ <;> intro _ <;> (try (exfalso; first | contradiction | omega | (rename_i hz; refine hz ?_; simp; done) | (rename_i hz; simp at hz; done) | (simp only [LN] at *; omega))))
        | (with_reducible refine spB_beq ?_ ?_ <;> intro _ <;> (try (exfalso; first | contradiction | omega | (rename_i hz; refine hz ?_; simp; done) | (rename_i hz; simp at hz; done) | (simp only [LN] at *; omega))))
        | (with_reducible refine spB_mk ?_ ?_ <;> intro _ <;> (try (exfalso; first | contradiction | omega | (rename_i hz; refine hz ?_; simp; done) | (rename_i hz; simp at hz; done) | (simp only [LN] at *; omega))))
        | with_reducible first | refine Z.rowN_known hx ?_
        | ((with_reducible refine posE_pos ?_ ?_); (focus ((try simp only [LN] at *) <;> omega)))
        | ((with_reducible apply ixN_litp); (focus (exact rfl)); (focus ((try simp only [LN] at *) <;> omega)))
        | ((with_reducible refine apdN.mk ?_ ?_ ?_ ?_ ?_ ?_); (focus (first | rfl)); (focus (first | exact one_all (by rfl))); (focus ((try simp only [LN] at *) <;> omega)); (focus ((try simp only [LN] at *) <;> omega)); (focus ((try simp only [LN] at *) <;> omega)))
        | with_reducible refine wr_i64 (by first | omega | (simp only [LN] at *; omega)) ?_
        | ((first | (with_reducible apply Z.callZ_mk ?_ (samekey_con _ _ _ _ _ _) ?_)); (rotate_left 6); (focus ((repeat' (first | exact trivial | exact rfl | apply And.intro)); done)))
        | ((with_reducible refine eqN_mk2 ?_ ?_); (focus (exact Z.kb_some rfl))))
      all_goals (try (conv => whnf))
      all_goals try (show Nat.ble _ _ = true; rfl)
      all_goals try (exfalso; rename_i hz; cases hz; done)
      all_goals try (exfalso; (try simp only [LN] at *) <;> omega)
      all_goals try (exfalso; simp_all; done)
      all_goals first
        | ((refine Z.rndK ((i + 1)) (fun s => [0, s.idAt 5]) rfl rfl rfl rfl ?_ ?_ ?_ ?_); (focus (repeat' (first | exact trivial | exact congrArg (fun r => some (AV.c (Ce.gsl _ (r.map cI)))) hof.symm | exact rfl | apply And.intro))); (focus (repeat' (first | exact trivial | exact Z.gB_sub rfl (congrArg (List.map cI) hof.symm) (ren_map fun _ => rfl) | (intro b hb; cases hb; rfl) | apply And.intro))); (focus (((try dsimp only); omega))); ((try dsimp only); omega))
  have hil : i = l.length := by omega
  subst hil
  rw [List.take_length]
  repeat' ((conv => whnf); first
    | (with_reducible refine spB_dec ?_ ?_ <;> intro _ <;> (try (exfalso; first | contradiction | omega | (rename_i hz; refine hz ?_; simp; done) | (rename_i hz; simp at hz; done) | (simp only [LN] at *; omega)))))
  all_goals (try (conv => whnf))
  all_goals try (show Nat.ble _ _ = true; rfl)
  all_goals try (exfalso; rename_i hz; cases hz; done)
  all_goals try (exfalso; (try simp only [LN] at *) <;> omega)
  all_goals first
    | ((first | (with_reducible apply Z.retF1)); (focus (exact rfl)); (repeat' (first | exact trivial | (with_reducible apply Z.frz_one) | ((with_reducible apply Z.fq_gsl); (focus (first | exact Z.isB_map _)); (focus (exact fun _ => rfl))) | exact rfl | apply And.intro)); (all_goals (try exact (fun _ => none))); all_goals (first | (simp; done)))

theorem rof_con (l : List El) (s k v : Int) (hl : l.length ≤ 1000) : Con Try.prog 19 [.one (.ro false 5 (l.map eE)), .agg [.v (.int .i64 s), .v (.int .i64 k), .v (.int .i64 v)]] (fun rx rK rt => rx = .c (.ro true 1 ((ofR l s k).map eI)) ∧ rK = [] ∧ rt = 0) := by
  refine Z.con_ofF tabOk 45 Try.f19 _ Try.func19 (by kernel_rfl) rfl rfl rfl rfl ?_
  have hol := fun i => @ofR_len (l.take i) s k
  repeat' ((conv => whnf); first
    | with_reducible first | refine spB_t ?_)
  all_goals (try (conv => whnf))
  all_goals try (show Nat.ble _ _ = true; rfl)
  all_goals try (exfalso; rename_i hz; cases hz; done)
  all_goals try (exfalso; (try simp only [LN] at *) <;> omega)
  refine Z.loopK tabOk (fun zq : Nat => [(6, .val (.int .i64 (zq : Int))), (5, .c (.gsl 1 ((ofR (l.take zq) s k).map cI)))]) (fun zq : Nat => ([(1, (gB 1 2 ((ofR (l.take zq) s k).map cI)).map Z.Ob.b)] : Z.Kr)) (fun zq => zq ≤ l.length) (fun zq => l.length - zq) 0 2 [(0, _), (3, _)] ⟨rfl, rfl, trivial⟩ [(0, some _)] ⟨rfl, trivial⟩ ?_ ?_ rfl rfl (Nat.zero_le _) ?_
  · repeat' (first | exact trivial | apply And.intro | exact ⟨_, rfl, Z.Imp.refl _⟩ | exact ⟨_, rfl, Z.Imp.nilg _⟩)
  · repeat' (first | exact trivial | (intro b hb; cases hb; done) | apply And.intro)
  rintro i HINV
  dsimp only at HINV ⊢
  have hol2 := hol i
  rw [List.length_take] at hol2
  by_cases hi : i < l.length
  · obtain ⟨x, hx⟩ := getElem?_some' (xs := l) (i := i) hi
    by_cases hc : x.kd = 1 ∧ x.src = s ∧ x.key = k
    · have hof := ofR_yes hx hc
      repeat' ((conv => whnf); first
        | with_reducible first | refine spB_t ?_
        | (with_reducible refine spB_dec ?_ ?_ <;> intro _ <;> (try (exfalso; first | contradiction | omega | (rename_i hz; refine hz ?_; simp; done) | (rename_i hz; simp at hz; done) | (simp only [LN] at *; omega))))
        | (with_reducible refine spB_beq ?_ ?_ <;> intro _ <;> (try (exfalso; first | contradiction | omega | (rename_i hz; refine hz ?_; simp; done) | (rename_i hz; simp at hz; done) | (simp only [LN] at *; omega))))
        | with_reducible first | refine Z.rowN_known hx ?_
        | ((with_reducible refine posE_pos ?_ ?_); (focus ((try simp only [LN] at *) <;> omega)))
        | ((with_reducible apply ixN_litp); (focus (exact rfl)); (focus ((try simp only [LN] at *) <;> omega)))
        | ((with_reducible refine apdN.mk ?_ ?_ ?_ ?_ ?_ ?_); (focus (first | rfl)); (focus (first | exact one_all (by rfl))); (focus ((try simp only [LN] at *) <;> omega)); (focus ((try simp only [LN] at *) <;> omega)); (focus ((try simp only [LN] at *) <;> omega)))
        | with_reducible refine wr_i64 (by first | omega | (simp only [LN] at *; omega)) ?_
        | ((with_reducible refine eqN_mk2 ?_ ?_); (focus (exact Z.kb_some rfl))))
      all_goals (try (conv => whnf))
      all_goals try (show Nat.ble _ _ = true; rfl)
      all_goals try (exfalso; rename_i hz; cases hz; done)
      all_goals try (exfalso; (try simp only [LN] at *) <;> omega)
      all_goals try (exfalso; simp_all; done)
      all_goals first
        | ((refine Z.rndK ((i + 1)) (fun s => [0, s.idAt 5]) rfl rfl rfl rfl ?_ ?_ ?_ ?_); (focus (repeat' (first | exact trivial | exact congrArg (fun r => some (AV.c (Ce.gsl _ r))) (app_litI (B := [x.val]) rfl hof) | exact rfl | apply And.intro))); (focus (repeat' (first | exact trivial | exact Z.gB_sub' rfl (app_litI (B := [x.val]) rfl hof) (ren_map fun _ => rfl) | (intro b hb; cases hb; rfl) | apply And.intro))); (focus (((try dsimp only); omega))); ((try dsimp only); omega))
    · have hof := ofR_no hx hc
      repeat' ((conv => whnf); first
        | with_reducible first | refine spB_t ?_
        | with_reducible first | refine spB_no (by decide) ?_
        | (with_reducible refine spB_dec ?_ ?_ <;> intro _ <;> (try (exfalso; first | contradiction | omega | (rename_i hz; refine hz ?_; simp; done) | (rename_i hz; simp at hz; done) | (simp only [LN] at *; omega))))
        | (with_reducible refine spB_beq ?_ ?_ <;> intro _ <;> (try (exfalso; first | contradiction | omega | (rename_i hz; refine hz ?_; simp; done) | (rename_i hz; simp at hz; done) | (simp only [LN] at *; omega))))
        | with_reducible first | refine Z.rowN_known hx ?_
        | ((with_reducible apply ixN_litp); (focus (exact rfl)); (focus ((try simp only [LN] at *) <;> omega)))
        | with_reducible refine wr_i64 (by first | omega | (simp only [LN] at *; omega)) ?_)
      all_goals (try (conv => whnf))
      all_goals try (show Nat.ble _ _ = true; rfl)
      all_goals try (exfalso; rename_i hz; cases hz; done)
      all_goals try (exfalso; (try simp only [LN] at *) <;> omega)
      all_goals try (exfalso; simp_all; done)
      all_goals first
        | ((refine Z.rndK ((i + 1)) (fun s => [0, s.idAt 5]) rfl rfl rfl rfl ?_ ?_ ?_ ?_); (focus (repeat' (first | exact trivial | exact congrArg (fun r => some (AV.c (Ce.gsl _ (r.map cI)))) hof.symm | exact rfl | apply And.intro))); (focus (repeat' (first | exact trivial | exact Z.gB_sub rfl (congrArg (List.map cI) hof.symm) (ren_map fun _ => rfl) | (intro b hb; cases hb; rfl) | apply And.intro))); (focus (((try dsimp only); omega))); ((try dsimp only); omega))
  have hil : i = l.length := by omega
  subst hil
  rw [List.take_length]
  repeat' ((conv => whnf); first
    | (with_reducible refine spB_dec ?_ ?_ <;> intro _ <;> (try (exfalso; first | contradiction | omega | (rename_i hz; refine hz ?_; simp; done) | (rename_i hz; simp at hz; done) | (simp only [LN] at *; omega)))))
  all_goals (try (conv => whnf))
  all_goals try (show Nat.ble _ _ = true; rfl)
  all_goals try (exfalso; rename_i hz; cases hz; done)
  all_goals try (exfalso; (try simp only [LN] at *) <;> omega)
  all_goals first
    | ((first | (with_reducible apply Z.retF1)); (focus (exact rfl)); (repeat' (first | exact trivial | (with_reducible apply Z.frz_one) | ((with_reducible apply Z.fq_gsl); (focus (first | exact Z.isB_map _)); (focus (exact fun _ => rfl))) | exact rfl | apply And.intro)); (all_goals (try exact (fun _ => none))); all_goals (first | (simp; done)))

end Go.Proofs.Ytpnfogckdceiaaa
namespace Go.Proofs.Ytpnfogckdceiaaa
open Go Go.RowKit Wx
set_option linter.unusedVariables false
set_option linter.unusedSimpArgs false
set_option maxHeartbeats 4000000
theorem rrow_con (l : List El) (hl : l.length ≤ 9223372036854775807) (hu : ∀ e ∈ l, 0 ≤ e.num) : Con Try.prog 20 [.one (.ro false 5 (l.map eE))] (fun rx rK rt => rx = .val (.bool (okEs l && decide (l.length ≤ 200))) ∧ rK = [] ∧ rt = 0) := by
  refine Z.con_ofF tabOk 19 Try.f20 _ Try.func20 (by kernel_rfl) rfl rfl rfl rfl ?_
  repeat' ((conv => whnf); first
    | with_reducible first | refine spB_t ?_)
  all_goals (try (conv => whnf))
  all_goals try (show Nat.ble _ _ = true; rfl)
  refine Z.loopK tabOk (fun zq : Nat => [(3, .val (.int .i64 (zq : Int)))]) (fun zq : Nat => ([] : Z.Kr)) (fun zq => zq ≤ l.length ∧ okEs l = okEs (l.drop zq)) (fun zq => l.length - zq) 0 0 [(0, _)] ⟨rfl, trivial⟩ [] trivial ?_ ?_ rfl rfl ⟨Nat.zero_le _, rfl⟩ ?_
  · repeat' (first | exact trivial | apply And.intro | exact ⟨_, rfl, Z.Imp.refl _⟩)
  · repeat' (first | exact trivial)
  rintro i HINV
  dsimp only at HINV ⊢
  obtain ⟨HI, HO⟩ := HINV
  by_cases hi : i < l.length
  · obtain ⟨x, hx⟩ := getElem?_some' (xs := l) (i := i) hi
    have ce := rightE_con x (hu x (List.mem_of_getElem? hx))
    have hat := okEs_at hx
    cases hok : okE x
    all_goals rw [hok] at ce hat
    all_goals (
      repeat' ((conv => whnf); first
        | with_reducible first | refine spB_t ?_
        | ((with_reducible apply spB_cong); (focus (simp only [beq_self_eq_true, bne_self_eq_false, Bool.true_bne, Bool.false_bne, Bool.bne_true, Bool.bne_false, Bool.true_beq, Bool.false_beq, Bool.not_true, Bool.not_false, Bool.not_not, Int.reduceBEq, Int.reduceBNe, Int.reduceLE, Int.reduceLT, Int.reduceEq, decide_true, decide_false]; rfl)))
        | with_reducible first | refine spB_no (by decide) ?_
        | (with_reducible refine spB_dec ?_ ?_ <;> intro _ <;> (try (exfalso; first | contradiction | omega | (rename_i hz; refine hz ?_; simp; done) | (rename_i hz; simp at hz; done) | (simp only [LN] at *; omega))))
        | with_reducible first | refine Z.rowN_known hx ?_
        | ((with_reducible apply ixN_litp); (focus (exact rfl)); (focus ((try simp only [LN] at *) <;> omega)))
        | with_reducible refine wr_i64 (by first | omega | (simp only [LN] at *; omega)) ?_
        | ((first | (with_reducible refine Z.callZ_mk ?_ (ce) ?_)); (focus ((repeat' (first | exact trivial | exact rfl | apply And.intro)); done))))
      all_goals (try (conv => whnf)))
    all_goals try (show Nat.ble _ _ = true; rfl)
    all_goals first
      | ((refine Z.rndK ((i + 1)) (fun s => []) rfl rfl rfl rfl ?_ ?_ ?_ ?_); (focus (repeat' (first | exact trivial | exact rfl | apply And.intro))); (focus (repeat' (first | exact trivial))); (focus (exact ⟨by (try dsimp only); omega, by (try dsimp only); rw [HO, hat, Bool.true_and]⟩)); ((try dsimp only); omega))
      | ((first | (with_reducible apply Z.retF1)); (focus (exact rfl)); (repeat' (first | exact trivial | (with_reducible apply Z.frz_one) | (with_reducible apply Z.fq_bool) | apply And.intro)); (all_goals (try exact (fun _ => none))); all_goals (rw [HO, hat]; rfl))
  have hil : i = l.length := by omega
  rw [hil, List.drop_length] at HO
  repeat' ((conv => whnf); first
    | (with_reducible refine spB_dec ?_ ?_ <;> intro _ <;> (try (exfalso; first | contradiction | omega | (rename_i hz; refine hz ?_; simp; done) | (rename_i hz; simp at hz; done) | (simp only [LN] at *; omega)))))
  all_goals (try (conv => whnf))
  all_goals try (show Nat.ble _ _ = true; rfl)
  all_goals first
    | ((first | (with_reducible apply Z.retF1)); (focus (exact rfl)); (repeat' (first | exact trivial | (with_reducible apply Z.frz_one) | (with_reducible apply Z.fq_bool) | apply And.intro)); (all_goals (try exact (fun _ => none))); all_goals (rw [HO]; simp [okEs]; omega))

theorem both_con (a b : List Int) (ha : a ≠ []) (hla : a.length ≤ 1099511627776) (hlb : b.length ≤ 1099511627776) : Con Try.prog 30 [.one (.ro false 1 (a.map eB)), .one (.ro false 1 (b.map eB))] (fun rx rK rt => rx = .c (.gsl 0 ((a ++ b).map cB)) ∧ rK = [(0, some ⟨(a ++ b).map cB, 1, 5, false⟩)] ∧ rt = 1) := by
  refine Z.con_ofZ tabOk 35 Try.f30 _ Try.func30 (by kernel_rfl) rfl rfl rfl rfl ?_
  repeat' ((conv => whnf); first
    | with_reducible first | refine spB_t ?_)
  all_goals (try (conv => whnf))
  all_goals try (show Nat.ble _ _ = true; rfl)
  all_goals try (exfalso; rename_i hz; cases hz; done)
  all_goals try (exfalso; (try simp only [LN] at *) <;> omega)
  refine Z.loopK tabOk (fun zq : Nat => [(6, .val (.int .i64 (zq : Int))), (5, .c (.gsl 0 ((a.take zq).map cB)))]) (fun zq : Nat => ([(0, (gB 1 5 ((a.take zq).map cB)).map Z.Ob.b)] : Z.Kr)) (fun zq => zq ≤ a.length) (fun zq => a.length - zq) 0 1 [(0, _), (1, _)] ⟨rfl, rfl, trivial⟩ [] trivial ?_ ?_ rfl rfl (Nat.zero_le _) ?_
  · repeat' (first | exact trivial | apply And.intro | exact ⟨_, rfl, Z.Imp.refl _⟩ | exact ⟨_, rfl, Z.Imp.nilg _⟩)
  · repeat' (first | exact trivial | (intro b hb; cases hb; done) | apply And.intro)
  rintro i HINV
  dsimp only at HINV ⊢
  by_cases hi : i < a.length
  · obtain ⟨x, hx⟩ := getElem?_some' (xs := a) (i := i) hi
    have hof := take_snoc hx
    repeat' ((conv => whnf); first
      | (with_reducible refine spB_dec ?_ ?_ <;> intro _ <;> (try (exfalso; first | contradiction | omega | (rename_i hz; refine hz ?_; simp; done) | (rename_i hz; simp at hz; done) | (simp only [LN] at *; omega))))
      | with_reducible first | refine Z.rowN_known hx ?_
      | ((with_reducible refine posE_pos ?_ ?_); (focus ((try simp only [LN] at *) <;> omega)))
      | ((with_reducible apply ixN_litp); (focus (exact rfl)); (focus ((try simp only [LN] at *) <;> omega)))
      | ((with_reducible refine apdN.mk ?_ ?_ ?_ ?_ ?_ ?_); (focus (first | rfl)); (focus (first | exact one_all (by rfl))); (focus ((try simp only [LN] at *) <;> omega)); (focus ((try simp only [LN] at *) <;> omega)); (focus ((try simp only [LN] at *) <;> omega)))
      | with_reducible refine wr_i64 (by first | omega | (simp only [LN] at *; omega)) ?_
      | ((with_reducible refine eqN_mk2 ?_ ?_); (focus (exact Z.kb_some rfl))))
    all_goals (try (conv => whnf))
    all_goals try (show Nat.ble _ _ = true; rfl)
    all_goals try (exfalso; rename_i hz; cases hz; done)
    all_goals try (exfalso; (try simp only [LN] at *) <;> omega)
    all_goals first
      | ((refine Z.rndK ((i + 1)) (fun s => [s.idAt 5]) rfl rfl rfl rfl ?_ ?_ ?_ ?_); (focus (repeat' (first | exact trivial | exact congrArg (fun r => some (AV.c (Ce.gsl _ r))) (app_lit (B := [x]) rfl hof) | exact rfl | apply And.intro))); (focus (repeat' (first | exact trivial | exact Z.gB_sub' rfl (app_lit (B := [x]) rfl hof) (ren_map fun _ => rfl) | apply And.intro))); (focus (((try dsimp only); omega))); ((try dsimp only); omega))
  have hil : i = a.length := by omega
  subst hil
  rw [List.take_length]
  repeat' ((conv => whnf); first
    | (with_reducible refine spB_dec ?_ ?_ <;> intro _ <;> (try (exfalso; first | contradiction | omega | (rename_i hz; refine hz ?_; simp; done) | (rename_i hz; simp at hz; done) | (simp only [LN] at *; omega)))))
  all_goals (try (conv => whnf))
  all_goals try (show Nat.ble _ _ = true; rfl)
  all_goals try (exfalso; rename_i hz; cases hz; done)
  all_goals try (exfalso; (try simp only [LN] at *) <;> omega)
  refine Z.loopK tabOk (fun zq : Nat => [(7, .val (.int .i64 (zq : Int))), (5, .c (.gsl 0 ((a ++ b.take zq).map cB)))]) (fun zq : Nat => ([(0, (gB 1 5 ((a ++ b.take zq).map cB)).map Z.Ob.b)] : Z.Kr)) (fun zq => zq ≤ b.length) (fun zq => b.length - zq) 0 1 [(1, _)] ⟨rfl, trivial⟩ [] trivial ?_ ?_ rfl rfl (Nat.zero_le _) ?_
  · repeat' (first | exact trivial | apply And.intro | exact ⟨_, rfl, Z.Imp.refl _⟩ | (refine ⟨_, rfl, ?_⟩; refine Z.Imp.of_eq ?_; exact congrArg (fun z => Ce.gsl 0 (List.map cB z)) (by simp); done))
  · repeat' (first | exact trivial | exact (fun b9 hb => ⟨b9, (by rw [List.take_zero, List.append_nil] at hb; exact hb), Z.ImpO.refl b9⟩) | apply And.intro)
  rintro i HINV
  dsimp only at HINV ⊢
  by_cases hi : i < b.length
  · obtain ⟨x, hx⟩ := getElem?_some' (xs := b) (i := i) hi
    have hof : a ++ b.take (i + 1) = (a ++ b.take i) ++ [x] := by rw [take_snoc hx, List.append_assoc]
    repeat' ((conv => whnf); first
      | (with_reducible refine spB_dec ?_ ?_ <;> intro _ <;> (try (exfalso; first | contradiction | omega | (rename_i hz; refine hz ?_; simp; done) | (rename_i hz; simp at hz; done) | (simp only [LN] at *; omega))))
      | with_reducible first | refine Z.rowN_known hx ?_
      | ((with_reducible refine posE_pos ?_ ?_); (focus ((try simp only [LN] at *) <;> omega)))
      | ((with_reducible apply ixN_litp); (focus (exact rfl)); (focus ((try simp only [LN] at *) <;> omega)))
      | ((with_reducible refine apdN.mk ?_ ?_ ?_ ?_ ?_ ?_); (focus (first | rfl)); (focus (first | exact one_all (by rfl))); (focus ((try simp only [LN] at *) <;> omega)); (focus ((try simp only [LN] at *) <;> omega)); (focus ((try simp only [LN] at *) <;> omega)))
      | with_reducible refine wr_i64 (by first | omega | (simp only [LN] at *; omega)) ?_
      | ((with_reducible refine eqN_mk2 ?_ ?_); (focus (exact Z.kb_some rfl))))
    all_goals (try (conv => whnf))
    all_goals try (show Nat.ble _ _ = true; rfl)
    all_goals try (exfalso; rename_i hz; cases hz; done)
    all_goals try (exfalso; (try simp only [LN] at *) <;> omega)
    all_goals first
      | ((refine Z.rndK ((i + 1)) (fun s => [s.idAt 5]) rfl rfl rfl rfl ?_ ?_ ?_ ?_); (focus (repeat' (first | exact trivial | exact congrArg (fun r => some (AV.c (Ce.gsl _ r))) (app_lit (B := [x]) rfl hof) | exact rfl | apply And.intro))); (focus (repeat' (first | exact trivial | exact Z.gB_sub' rfl (app_lit (B := [x]) rfl hof) (ren_map fun _ => rfl) | apply And.intro))); (focus (((try dsimp only); omega))); ((try dsimp only); omega))
  have hil : i = b.length := by omega
  subst hil
  rw [List.take_length]
  have hgb : gB 1 5 ((a ++ b).map cB) = some ⟨(a ++ b).map cB, 1, 5, false⟩ := gB_ne (by simp [ha])
  rw [hgb]
  repeat' ((conv => whnf); first
    | (with_reducible refine spB_dec ?_ ?_ <;> intro _ <;> (try (exfalso; first | contradiction | omega | (rename_i hz; refine hz ?_; simp; done) | (rename_i hz; simp at hz; done) | (simp only [LN] at *; omega)))))
  all_goals (try (conv => whnf))
  all_goals try (show Nat.ble _ _ = true; rfl)
  all_goals try (exfalso; rename_i hz; cases hz; done)
  all_goals try (exfalso; (try simp only [LN] at *) <;> omega)
  all_goals first
    | (refine ret1g 0 ((a ++ b).map cB) 1 5 _ rfl rfl (by first | rfl | exact Z.kb_some rfl) rfl rfl ren_cB (own_map fun _ => rfl) ⟨rfl, rfl, rfl⟩)

end Go.Proofs.Ytpnfogckdceiaaa
namespace Go.Proofs.Ytpnfogckdceiaaa
open Go Go.RowKit Wx
set_option linter.unusedVariables false
set_option linter.unusedSimpArgs false
set_option maxHeartbeats 4000000
theorem high0 (x : Int)  : Con Try.prog 31 [.one (.v (.int .u64 x)), .one (.v (.int .i64 0))] (fun rx rK rt => rx = .val (.slice none 0 0) ∧ rK = [] ∧ rt = 0) := by
  refine Z.con_ofZ tabOk 17 Try.f31 _ Try.func31 (by kernel_rfl) rfl rfl rfl rfl ?_
  repeat' ((conv => whnf); first
    | with_reducible first | refine spB_t ?_
    | ((with_reducible apply spB_cong); (focus (simp only [beq_self_eq_true, bne_self_eq_false, Bool.true_bne, Bool.false_bne, Bool.bne_true, Bool.bne_false, Bool.true_beq, Bool.false_beq, Bool.not_true, Bool.not_false, Bool.not_not, Int.reduceBEq, Int.reduceBNe, Int.reduceLE, Int.reduceLT, Int.reduceEq, decide_true, decide_false]; rfl))))
  all_goals (try (conv => whnf))
  all_goals try (show Nat.ble _ _ = true; rfl)
  all_goals try (exfalso; rename_i hz; cases hz; done)
  all_goals try (exfalso; (try simp only [LN] at *) <;> omega)
  all_goals first
    | (refine ret0 _ rfl _ rfl (fun _ => rfl) rfl ⟨rfl, rfl, rfl⟩)

theorem high1 (x : Int) (hx : 0 ≤ x ∧ x < 18446744073709551616) : Con Try.prog 31 [.one (.v (.int .u64 x)), .one (.v (.int .i64 1))] (fun rx rK rt => rx = .c (.gsl 0 ((be 1 x).map cB)) ∧ rK = [(0, some ⟨(be 1 x).map cB, 1, 5, false⟩)] ∧ rt = 1) := by
  refine Z.con_ofZ tabOk 17 Try.f31 _ Try.func31 (by kernel_rfl) rfl rfl rfl rfl ?_
  repeat' ((conv => whnf); first
    | ((with_reducible apply spB_cong); (focus (simp only [beq_self_eq_true, bne_self_eq_false, Bool.true_bne, Bool.false_bne, Bool.bne_true, Bool.bne_false, Bool.true_beq, Bool.false_beq, Bool.not_true, Bool.not_false, Bool.not_not, Int.reduceBEq, Int.reduceBNe, Int.reduceLE, Int.reduceLT, Int.reduceEq, decide_true, decide_false]; rfl)))
    | with_reducible first | refine spB_no (by decide) ?_
    | (with_reducible refine vN_shr8 (by omega) ?_)
    | (refine wr_mk (x % 256) (and8 hx) ?_)
    | ((with_reducible refine posE_pos ?_ ?_); (focus ((try simp only [LN] at *) <;> omega)))
    | ((with_reducible refine eqN_mk2 ?_ ?_); (focus rfl))
    | ((with_reducible refine apdN.mk ?_ ?_ ?_ ?_ ?_ ?_); (focus (first | rfl)); (focus (first | exact one_all (by rfl))); (focus ((try simp only [LN] at *) <;> omega)); (focus ((try simp only [LN] at *) <;> omega)); (focus ((try simp only [LN] at *) <;> omega)))
    | with_reducible refine wr_i64 (by first | omega | (simp only [LN] at *; omega)) ?_
    | ((first | (with_reducible apply Z.callZ_mk ?_ (high0 _) ?_)); (rotate_left 1); (focus ((repeat' (first | exact trivial | exact low_int (by omega) | exact rfl | apply And.intro)); done))))
  all_goals (try (conv => whnf))
  all_goals try (show Nat.ble _ _ = true; rfl)
  all_goals try (exfalso; rename_i hz; cases hz; done)
  all_goals try (exfalso; (try simp only [LN] at *) <;> omega)
  all_goals first
    | (refine ret1g (1) ((be 1 x).map cB) 1 5 _ rfl rfl (by first | rfl | exact Z.kb_some rfl) (rfl) (rfl) ren_cB (own_map fun _ => rfl) ⟨rfl, rfl, rfl⟩)

theorem highs (n : Nat) (x m : Int) (hx : 0 ≤ x ∧ x < 18446744073709551616) (hn : n ≠ 0) (hm : m = (n : Int) + 1) (hn8 : n ≤ 8) (ih : Con Try.prog 31 [.one (.v (.int .u64 (x / 256))), .one (.v (.int .i64 (m - 1)))] (fun rx rK rt => rx = .c (.gsl 0 ((be n (x / 256)).map cB)) ∧ rK = [(0, some ⟨(be n (x / 256)).map cB, 1, 5, false⟩)] ∧ rt = 1)) : Con Try.prog 31 [.one (.v (.int .u64 x)), .one (.v (.int .i64 m))] (fun rx rK rt => rx = .c (.gsl 0 ((be (n + 1) x).map cB)) ∧ rK = [(0, some ⟨(be (n + 1) x).map cB, 1, 5, false⟩)] ∧ rt = 1) := by
  refine Z.con_ofZ tabOk 17 Try.f31 _ Try.func31 (by kernel_rfl) rfl rfl rfl rfl ?_
  have hbn : be n (x / 256) ≠ [] := fun h9 => by have h8 := @be_len n (x / 256); rw [h9] at h8; exact hn h8.symm
  have hbl := @be_len n (x / 256)
  repeat' ((conv => whnf); first
    | (with_reducible refine spB_beq ?_ ?_ <;> intro _ <;> (try (exfalso; first | contradiction | omega | (rename_i hz; refine hz ?_; simp; done) | (rename_i hz; simp at hz; done) | (simp only [LN] at *; omega))))
    | (with_reducible refine vN_shr8 (by omega) ?_)
    | (refine wr_mk (x % 256) (and8 hx) ?_)
    | ((with_reducible refine eqN_mk2 ?_ ?_); (focus (exact (Z.kb_some rfl).trans (gB_r (by assumption)))))
    | ((with_reducible refine posE_pos ?_ ?_); (focus ((try simp only [LN] at *) <;> omega)))
    | ((with_reducible refine eqN_mk2 ?_ ?_); (focus rfl))
    | ((with_reducible refine apdN.mk ?_ ?_ ?_ ?_ ?_ ?_); (focus (first | rfl)); (focus (first | exact one_all (by rfl))); (focus ((try simp only [LN] at *) <;> omega)); (focus ((try simp only [LN] at *) <;> omega)); (focus ((try simp only [LN] at *) <;> omega)))
    | with_reducible refine wr_i64 (by first | omega | (simp only [LN] at *; omega)) ?_
    | ((first | (with_reducible refine Z.callZ_mk ?_ (ih) ?_)); (focus ((repeat' (first | exact trivial | exact low_int (by omega) | apply And.intro)); done))))
  all_goals (try (conv => whnf))
  all_goals try (show Nat.ble _ _ = true; rfl)
  all_goals try (exfalso; rename_i hz; cases hz; done)
  all_goals try (exfalso; (try simp only [LN] at *) <;> omega)
  all_goals first
    | (refine ret1g (2) ((be (n + 1) x).map cB) 1 5 _ rfl rfl (by first | rfl | exact Z.kb_some rfl) (app_lit (B := [x % 256]) rfl rfl) (app_lit (B := [x % 256]) rfl rfl) ren_cB (own_map fun _ => rfl) ⟨rfl, rfl, rfl⟩)

theorem high_con : ∀ (n : Nat) (x m : Int) (hx : 0 ≤ x ∧ x < 18446744073709551616) (hm : m = (n : Int) + 1) (hn8 : n ≤ 7), Con Try.prog 31 [.one (.v (.int .u64 x)), .one (.v (.int .i64 m))] (fun rx rK rt => rx = .c (.gsl 0 ((be (n + 1) x).map cB)) ∧ rK = [(0, some ⟨(be (n + 1) x).map cB, 1, 5, false⟩)] ∧ rt = 1)
  | 0, x, m, hx, hm, _ => by subst hm; exact high1 x hx
  | n + 1, x, m, hx, hm, h8 => highs (n + 1) x m hx (by omega) hm (by omega) (high_con n (x / 256) (m - 1) (by omega) (by omega) (by omega))
theorem high8 (x : Int) (hx : 0 ≤ x ∧ x < 18446744073709551616) : Con Try.prog 31 [.one (.v (.int .u64 x)), .one (.v (.int .i64 8))] (fun rx rK rt => rx = .c (.gsl 0 ((be 8 x).map cB)) ∧ rK = [(0, some ⟨(be 8 x).map cB, 1, 5, false⟩)] ∧ rt = 1) := high_con 7 x 8 hx (by decide) (by decide)
theorem same1_con (a b : List Int) (hla : a.length ≤ 9223372036854775807)  : Con Try.prog 21 [.one (.ro false 1 (a.map eB)), .one (.ro false 1 (b.map eB))] (fun rx rK rt => rx = .val (.bool (decide (a = b))) ∧ rK = [] ∧ rt = 0) := by
  refine Z.con_ofF tabOk 26 Try.f21 _ Try.func21 (by kernel_rfl) rfl rfl rfl rfl ?_
  repeat' ((conv => whnf); first
    | (with_reducible refine spB_bne ?_ ?_ <;> intro _ <;> (try (exfalso; first | contradiction | omega | (rename_i hz; with_reducible exact absurd rfl hz)))))
  all_goals (try (conv => whnf))
  all_goals try ((first | (with_reducible apply Z.retF1)); (focus (exact rfl)); (repeat' (first | exact trivial | (with_reducible apply Z.frz_one) | (with_reducible apply Z.fq_bool) | apply And.intro)); (all_goals (try exact (fun _ => none))); all_goals (exact bool_f (ne_len (by simp only [LN] at *; omega))))
  refine Z.loopK tabOk (fun zq : Nat => [(5, .val (.int .i64 (zq : Int)))]) (fun zq : Nat => ([] : Z.Kr)) (fun zq => zq ≤ a.length ∧ a.length = b.length ∧ a.take zq = b.take zq) (fun zq => a.length - zq) 0 0 [(0, _), (1, _)] ⟨rfl, rfl, trivial⟩ [] trivial ?_ ?_ rfl rfl ⟨Nat.zero_le _, by simp only [LN] at *; omega, rfl⟩ ?_
  · repeat' (first | exact trivial | apply And.intro | exact ⟨_, rfl, Z.Imp.refl _⟩)
  · repeat' (first | exact trivial)
  rintro i HINV
  dsimp only at HINV ⊢
  obtain ⟨HI, HL, HT⟩ := HINV
  repeat' ((conv => whnf); first
    | (with_reducible refine spB_dec ?_ ?_ <;> intro _ <;> (try (exfalso; first | contradiction | omega | (rename_i hz; with_reducible exact absurd rfl hz))))
    | (with_reducible refine spB_bne ?_ ?_ <;> intro _ <;> (try (exfalso; first | contradiction | omega | (rename_i hz; with_reducible exact absurd rfl hz))))
    | ((with_reducible apply ixN_litp); (focus (exact rfl)); (focus ((try simp only [LN] at *) <;> omega)))
    | with_reducible refine wr_i64 (by first | omega | (simp only [LN] at *; omega)) ?_
    | ((with_reducible refine rowN_map ?_ ?_); (focus ((try simp only [LN] at *) <;> omega)); intro x hx)
    | with_reducible first | refine Z.drawZ_rule tabOk mixOk ?_ | refine Z.apZ_mk (by kernel_rfl) ?_)
  all_goals (try (conv => whnf))
  all_goals first
    | ((refine Z.rndK (i + 1) (fun s => []) rfl rfl rfl rfl ?_ ?_ ?_ ?_); (focus (repeat' (first | exact trivial | exact rfl | apply And.intro))); (focus (repeat' (first | exact trivial))); (focus (refine ⟨by simp only [LN] at *; omega, HL, eq_step HT (by assumption) (by assumption) ?_⟩; (first | assumption))); (try simp only [LN] at *); (try dsimp only); omega)
    | ((first | (with_reducible apply Z.retF1)); (focus (exact rfl)); (repeat' (first | exact trivial | (with_reducible apply Z.frz_one) | (with_reducible apply Z.fq_bool) | apply And.intro)); (all_goals (try exact (fun _ => none))); all_goals (first | exact bool_t (eq_end HL HT (by simp only [LN] at *; omega)) | (refine bool_f (ne_at (by assumption) (by assumption) ?_); intro e; subst e; first | contradiction | (simp_all; done))))

theorem sameI_con (a b : List Int) (hla : a.length ≤ 9223372036854775807)  : Con Try.prog 17 [.one (.ro false 1 (a.map eI)), .one (.ro false 1 (b.map eI))] (fun rx rK rt => rx = .val (.bool (decide (a = b))) ∧ rK = [] ∧ rt = 0) := by
  refine Z.con_ofF tabOk 26 Try.f17 _ Try.func17 (by kernel_rfl) rfl rfl rfl rfl ?_
  repeat' ((conv => whnf); first
    | (with_reducible refine spB_bne ?_ ?_ <;> intro _ <;> (try (exfalso; first | contradiction | omega | (rename_i hz; with_reducible exact absurd rfl hz)))))
  all_goals (try (conv => whnf))
  all_goals try ((first | (with_reducible apply Z.retF1)); (focus (exact rfl)); (repeat' (first | exact trivial | (with_reducible apply Z.frz_one) | (with_reducible apply Z.fq_bool) | apply And.intro)); (all_goals (try exact (fun _ => none))); all_goals (exact bool_f (ne_len (by simp only [LN] at *; omega))))
  refine Z.loopK tabOk (fun zq : Nat => [(13, .val (.int .i64 (zq : Int)))]) (fun zq : Nat => ([] : Z.Kr)) (fun zq => zq ≤ a.length ∧ a.length = b.length ∧ a.take zq = b.take zq) (fun zq => a.length - zq) 0 0 [(0, _), (1, _), (12, _)] ⟨rfl, rfl, rfl, trivial⟩ [] trivial ?_ ?_ rfl rfl ⟨Nat.zero_le _, by simp only [LN] at *; omega, rfl⟩ ?_
  · repeat' (first | exact trivial | apply And.intro | exact ⟨_, rfl, Z.Imp.refl _⟩)
  · repeat' (first | exact trivial)
  rintro i HINV
  dsimp only at HINV ⊢
  obtain ⟨HI, HL, HT⟩ := HINV
  repeat' ((conv => whnf); first
    | (with_reducible refine spB_dec ?_ ?_ <;> intro _ <;> (try (exfalso; first | contradiction | omega | (rename_i hz; with_reducible exact absurd rfl hz))))
    | (with_reducible refine spB_bne ?_ ?_ <;> intro _ <;> (try (exfalso; first | contradiction | omega | (rename_i hz; with_reducible exact absurd rfl hz))))
    | ((with_reducible apply ixN_litp); (focus (exact rfl)); (focus ((try simp only [LN] at *) <;> omega)))
    | with_reducible refine wr_i64 (by first | omega | (simp only [LN] at *; omega)) ?_
    | ((with_reducible refine rowN_map ?_ ?_); (focus ((try simp only [LN] at *) <;> omega)); intro x hx)
    | with_reducible first | refine Z.drawZ_rule tabOk mixOk ?_ | refine Z.apZ_mk (by kernel_rfl) ?_)
  all_goals (try (conv => whnf))
  all_goals first
    | ((refine Z.rndK (i + 1) (fun s => []) rfl rfl rfl rfl ?_ ?_ ?_ ?_); (focus (repeat' (first | exact trivial | exact rfl | apply And.intro))); (focus (repeat' (first | exact trivial))); (focus (refine ⟨by simp only [LN] at *; omega, HL, eq_step HT (by assumption) (by assumption) ?_⟩; (first | assumption))); (try simp only [LN] at *); (try dsimp only); omega)
    | ((first | (with_reducible apply Z.retF1)); (focus (exact rfl)); (repeat' (first | exact trivial | (with_reducible apply Z.frz_one) | (with_reducible apply Z.fq_bool) | apply And.intro)); (all_goals (try exact (fun _ => none))); all_goals (first | exact bool_t (eq_end HL HT (by simp only [LN] at *; omega)) | (refine bool_f (ne_at (by assumption) (by assumption) ?_); intro e; subst e; first | contradiction | (simp_all; done))))

end Go.Proofs.Ytpnfogckdceiaaa
namespace Go.Proofs.Ytpnfogckdceiaaa
open Go Go.RowKit Wx
set_option linter.unusedVariables false
set_option linter.unusedSimpArgs false
set_option maxHeartbeats 4000000
theorem bytes_con (l : List El) (hl : l.length ≤ 200) (hk : okEs l = true) : Con Try.prog 22 [.one (.ro false 5 (l.map eE))] (fun rx rK rt => rx = .c (.ro true 1 ((enc l).map eB)) ∧ rK = [] ∧ rt = 0) := by
  refine Z.con_ofF tabOk 55 Try.f22 _ Try.func22 (by kernel_rfl) rfl rfl rfl rfl ?_
  repeat' ((conv => whnf); first
    | with_reducible first | refine wr_mod8 ?_)
  all_goals (try (conv => whnf))
  all_goals try (show Nat.ble _ _ = true; rfl)
  all_goals try (exfalso; rename_i hz; cases hz; done)
  all_goals try (exfalso; (try simp only [LN] at *) <;> omega)
  refine Z.loopK tabOk (fun zq : Nat => [(4, .val (.int .i64 (zq : Int))), (3, .c (.gsl 0 (((((List.map eE l).length : Int) % 256) :: encs (l.take zq)).map cB)))]) (fun zq : Nat => ([(0, (gB 1 5 (((((List.map eE l).length : Int) % 256) :: encs (l.take zq)).map cB)).map Z.Ob.b)] : Z.Kr)) (fun zq => zq ≤ l.length) (fun zq => l.length - zq) 0 1 [(0, _)] ⟨rfl, trivial⟩ [] trivial ?_ ?_ rfl rfl (Nat.zero_le _) ?_
  · repeat' (first | exact trivial | apply And.intro | exact ⟨_, rfl, Z.Imp.refl _⟩ | exact ⟨_, rfl, oslg (by simp) (by simp [encs])⟩)
  · repeat' (first | exact trivial | exact (fun b hb => ⟨b, hb, Z.ImpO.refl b⟩) | apply And.intro)
  rintro i HINV
  dsimp only at HINV ⊢
  have hel := @encs_take l i
  by_cases hi : i < l.length
  · obtain ⟨x, hx⟩ := getElem?_some' (xs := l) (i := i) hi
    have hok : okE x = true := List.all_eq_true.1 hk x (List.mem_of_getElem? hx)
    have hen := encs_at hx
    rcases okE_all hok with h | h | h
    · skip
      have ch := high8 (IntKind.u64.wrap x.val) (by first | exact u64_rng _ | omega)
      have hbn : be 8 (IntKind.u64.wrap x.val) ≠ [] := fun h9 => by have h8 := @be_len 8 (IntKind.u64.wrap x.val); rw [h9] at h8; cases h8
      have hbl := @be_len 8 (IntKind.u64.wrap x.val)
      have cb := both_con (((((List.map eE l).length : Int) % 256) :: encs (l.take i)) ++ [x.kd % 256] ++ [x.src % 256, x.key % 256]) (be 8 (IntKind.u64.wrap x.val)) (by simp) (by simp only [LN] at *; omega) (by rw [hbl]; decide)
      have heq : ((((List.map eE l).length : Int) % 256) :: encs (l.take i)) ++ [x.kd % 256] ++ [x.src % 256, x.key % 256] ++ be 8 (IntKind.u64.wrap x.val) = (((List.map eE l).length : Int) % 256) :: encs (l.take (i + 1)) := by rw [hen, ← encE_1 hok h.1]; simp
      repeat' ((conv => whnf); first
        | (with_reducible refine spB_dec ?_ ?_ <;> intro _ <;> (try (exfalso; first | contradiction | omega | (rename_i hz; refine hz ?_; simp; done) | (rename_i hz; simp at hz; done) | (simp only [LN] at *; omega))))
        | (with_reducible refine spB_beq ?_ ?_ <;> intro _ <;> (try (exfalso; first | contradiction | omega | (rename_i hz; refine hz ?_; simp; done) | (rename_i hz; simp at hz; done) | (simp only [LN] at *; omega))))
        | with_reducible first | refine Z.rowN_known hx ?_ | refine wr_mod8 ?_ | refine wr_mk (IntKind.u64.wrap x.val) rfl ?_
        | ((with_reducible refine posE_pos ?_ ?_); (focus ((try simp only [LN] at *) <;> omega)))
        | ((with_reducible apply ixN_litp); (focus (exact rfl)); (focus ((try simp only [LN] at *) <;> omega)))
        | ((with_reducible refine eqN_mk2 ?_ ?_); (focus rfl))
        | ((with_reducible refine apdN.mk ?_ ?_ ?_ ?_ ?_ ?_); (focus (first | rfl)); (focus (first | exact one_all (by rfl))); (focus ((try simp only [LN] at *) <;> omega)); (focus ((try simp only [LN] at *) <;> omega)); (focus ((try simp only [LN] at *) <;> omega)))
        | with_reducible refine wr_i64 (by first | omega | (simp only [LN] at *; omega)) ?_
        | ((first | (with_reducible refine Z.conZ_mz ?_ (cb) ?_) | (with_reducible refine Z.conZ_mz ?_ (ch) ?_)); (focus ((repeat' (first | exact trivial | (refine low_gB (by first | rfl | exact Z.kb_some rfl) ?_ ?_ ?_; (focus (first | exact rfl | exact app_lit2 rfl rfl rfl)); (focus (first | exact rfl | exact app_lit2 rfl rfl rfl)); (focus (first | assumption | (simp; done)))) | exact rfl | apply And.intro)); done)))
        | with_reducible first | refine Z.drawZ_rule tabOk mixOk ?_ | refine Z.apZ_mk (by kernel_rfl) ?_)
      all_goals (try (conv => whnf))
      all_goals try (show Nat.ble _ _ = true; rfl)
      all_goals try (exfalso; rename_i hz; cases hz; done)
      all_goals try (exfalso; (try simp only [LN] at *) <;> omega)
      all_goals first
        | ((refine Z.rndK ((i + 1)) (fun s => [s.idAt 3]) rfl rfl rfl rfl ?_ ?_ ?_ ?_); (focus (repeat' (first | exact trivial | exact congrArg (fun r => some (AV.c (Ce.gsl _ (r.map cB)))) heq | exact rfl | apply And.intro))); (focus (repeat' (first | exact trivial | exact Z.gB_sub' rfl (ren_cB.trans (congrArg (List.map cB) heq)) (ren_map fun _ => rfl) | apply And.intro))); (focus (((try dsimp only); omega))); ((try dsimp only); omega))
    · skip
      have ch := high8 x.num (by first | exact u64_rng _ | omega)
      have hbn : be 8 x.num ≠ [] := fun h9 => by have h8 := @be_len 8 x.num; rw [h9] at h8; cases h8
      have hbl := @be_len 8 x.num
      have cb := both_con (((((List.map eE l).length : Int) % 256) :: encs (l.take i)) ++ [x.kd % 256]) (be 8 x.num) (by simp) (by simp only [LN] at *; omega) (by rw [hbl]; decide)
      have heq : ((((List.map eE l).length : Int) % 256) :: encs (l.take i)) ++ [x.kd % 256] ++ be 8 x.num = (((List.map eE l).length : Int) % 256) :: encs (l.take (i + 1)) := by rw [hen, ← encE_2 h.1]; simp
      repeat' ((conv => whnf); first
        | (with_reducible refine spB_dec ?_ ?_ <;> intro _ <;> (try (exfalso; first | contradiction | omega | (rename_i hz; refine hz ?_; simp; done) | (rename_i hz; simp at hz; done) | (simp only [LN] at *; omega))))
        | (with_reducible refine spB_beq ?_ ?_ <;> intro _ <;> (try (exfalso; first | contradiction | omega | (rename_i hz; refine hz ?_; simp; done) | (rename_i hz; simp at hz; done) | (simp only [LN] at *; omega))))
        | with_reducible first | refine Z.rowN_known hx ?_ | refine wr_mod8 ?_
        | ((with_reducible refine posE_pos ?_ ?_); (focus ((try simp only [LN] at *) <;> omega)))
        | ((with_reducible apply ixN_litp); (focus (exact rfl)); (focus ((try simp only [LN] at *) <;> omega)))
        | ((with_reducible refine eqN_mk2 ?_ ?_); (focus rfl))
        | ((with_reducible refine apdN.mk ?_ ?_ ?_ ?_ ?_ ?_); (focus (first | rfl)); (focus (first | exact one_all (by rfl))); (focus ((try simp only [LN] at *) <;> omega)); (focus ((try simp only [LN] at *) <;> omega)); (focus ((try simp only [LN] at *) <;> omega)))
        | with_reducible refine wr_i64 (by first | omega | (simp only [LN] at *; omega)) ?_
        | ((first | (with_reducible refine Z.callZ_mk ?_ (cb) ?_) | (with_reducible refine Z.callZ_mk ?_ (ch) ?_)); (focus ((repeat' (first | exact trivial | (refine low_gB (by first | rfl | exact Z.kb_some rfl) ?_ ?_ ?_; (focus (first | exact rfl | exact app_lit rfl rfl)); (focus (first | exact rfl | exact app_lit rfl rfl)); (focus (first | assumption | (simp; done)))) | exact rfl | apply And.intro)); done))))
      all_goals (try (conv => whnf))
      all_goals try (show Nat.ble _ _ = true; rfl)
      all_goals try (exfalso; rename_i hz; cases hz; done)
      all_goals try (exfalso; (try simp only [LN] at *) <;> omega)
      all_goals first
        | ((refine Z.rndK ((i + 1)) (fun s => [s.idAt 3]) rfl rfl rfl rfl ?_ ?_ ?_ ?_); (focus (repeat' (first | exact trivial | exact congrArg (fun r => some (AV.c (Ce.gsl _ (r.map cB)))) heq | exact rfl | apply And.intro))); (focus (repeat' (first | exact trivial | exact Z.gB_sub' rfl (ren_cB.trans (congrArg (List.map cB) heq)) (ren_map fun _ => rfl) | apply And.intro))); (focus (((try dsimp only); omega))); ((try dsimp only); omega))
    · skip
      have heq : ((((List.map eE l).length : Int) % 256) :: encs (l.take i)) ++ [x.kd % 256] = (((List.map eE l).length : Int) % 256) :: encs (l.take (i + 1)) := by rw [hen, ← encE_3 h.1]; simp
      repeat' ((conv => whnf); first
        | (with_reducible refine spB_dec ?_ ?_ <;> intro _ <;> (try (exfalso; first | contradiction | omega | (rename_i hz; refine hz ?_; simp; done) | (rename_i hz; simp at hz; done) | (simp only [LN] at *; omega))))
        | (with_reducible refine spB_beq ?_ ?_ <;> intro _ <;> (try (exfalso; first | contradiction | omega | (rename_i hz; refine hz ?_; simp; done) | (rename_i hz; simp at hz; done) | (simp only [LN] at *; omega))))
        | with_reducible first | refine Z.rowN_known hx ?_ | refine wr_mod8 ?_
        | ((with_reducible refine posE_pos ?_ ?_); (focus ((try simp only [LN] at *) <;> omega)))
        | ((with_reducible apply ixN_litp); (focus (exact rfl)); (focus ((try simp only [LN] at *) <;> omega)))
        | ((with_reducible refine eqN_mk2 ?_ ?_); (focus rfl))
        | ((with_reducible refine apdN.mk ?_ ?_ ?_ ?_ ?_ ?_); (focus (first | rfl)); (focus (first | exact one_all (by rfl))); (focus ((try simp only [LN] at *) <;> omega)); (focus ((try simp only [LN] at *) <;> omega)); (focus ((try simp only [LN] at *) <;> omega)))
        | with_reducible refine wr_i64 (by first | omega | (simp only [LN] at *; omega)) ?_)
      all_goals (try (conv => whnf))
      all_goals try (show Nat.ble _ _ = true; rfl)
      all_goals try (exfalso; rename_i hz; cases hz; done)
      all_goals try (exfalso; (try simp only [LN] at *) <;> omega)
      all_goals first
        | ((refine Z.rndK ((i + 1)) (fun s => [s.idAt 3]) rfl rfl rfl rfl ?_ ?_ ?_ ?_); (focus (repeat' (first | exact trivial | exact congrArg (fun r => some (AV.c (Ce.gsl _ r))) (app_lit (B := [x.kd % 256]) rfl heq.symm) | exact rfl | apply And.intro))); (focus (repeat' (first | exact trivial | exact Z.gB_sub' rfl (app_lit (B := [x.kd % 256]) rfl heq.symm) (ren_map fun _ => rfl) | apply And.intro))); (focus (((try dsimp only); omega))); ((try dsimp only); omega))
  have hil : i = l.length := by omega
  subst hil
  have hen : enc l = (((List.map eE l).length : Int) % 256) :: encs (l.take l.length) := by rw [List.take_length, enc, List.length_map, show (l.length : Int) % 256 = l.length by omega]
  rw [hen]
  repeat' ((conv => whnf); first
    | (with_reducible refine spB_dec ?_ ?_ <;> intro _ <;> (try (exfalso; first | contradiction | omega | (rename_i hz; refine hz ?_; simp; done) | (rename_i hz; simp at hz; done) | (simp only [LN] at *; omega)))))
  all_goals (try (conv => whnf))
  all_goals try (show Nat.ble _ _ = true; rfl)
  all_goals try (exfalso; rename_i hz; cases hz; done)
  all_goals try (exfalso; (try simp only [LN] at *) <;> omega)
  all_goals first
    | ((first | (with_reducible apply Z.retF1)); (focus (exact rfl)); (repeat' (first | exact trivial | (with_reducible apply Z.frz_one) | ((with_reducible apply Z.fq_gsl); (focus (first | rfl)); (focus (exact fun _ => rfl))) | exact rfl | apply And.intro)); (all_goals (try exact (fun _ => none))); all_goals (first | (simp; done)))

end Go.Proofs.Ytpnfogckdceiaaa
namespace Go.Proofs.Ytpnfogckdceiaaa
open Go Go.RowKit Wx
set_option linter.unusedVariables false
set_option linter.unusedSimpArgs false
set_option maxHeartbeats 4000000
theorem wakes_con : Con Try.prog 8 [] (fun x K t => x = .val (.bool true) ∧ K = [] ∧ t = 0) := Y.con_run ftabOk tabOk mixOk 40 12 (by kernel_rfl) (by kernel_rfl)
theorem low_apE {l : List El} {R : List (List Ce)} {n : Nat} (hR : R = l.map cE) (hn : n = l.length) : ∃ rows, Ce.ro false 5 (l.map eE) = Ce.ro false 5 rows ∧ rows.length = n ∧ ((R.drop 0).take n).map (List.map RT.of) = rows.map (List.map some) := by
  subst hR hn
  exact low_osl fun _ => rfl
theorem ap_ce {l : List El} {fl : Bool} {R : List (List Ce)} : List.take 0 R ++ (l.map eE).map (List.map (RT.ce fl)) = l.map cE := by
  rw [List.take_zero, List.nil_append]; exact map_ce fun _ => rfl
theorem bytesLaw_con (l : List El) (s k v : Int) (hl : l.length ≤ 9223372036854775807) (hu : ∀ e ∈ l, 0 ≤ e.num) : Con Try.prog 4 [.one (.ro false 5 (l.map eE)), .agg [.v (.int .i64 s), .v (.int .i64 k), .v (.int .i64 v)]] (fun rx rK rt => rx = .val (.bool true) ∧ rK = [] ∧ rt = 0) := by
  refine Z.con_ofF tabOk 50 Try.f4 _ Try.func4 (by kernel_rfl) rfl rfl rfl rfl ?_
  by_cases h1 : 1000 < l.length
  · skip
    repeat' ((conv => whnf); first
      | ((with_reducible apply spB_cong); (focus (simp only [beq_self_eq_true, bne_self_eq_false, Bool.true_bne, Bool.false_bne, Bool.bne_true, Bool.bne_false, Bool.true_beq, Bool.false_beq, Bool.not_true, Bool.not_false, Bool.not_not, Int.reduceBEq, Int.reduceBNe, Int.reduceLE, Int.reduceLT, Int.reduceEq, decide_true, decide_false]; rfl)))
      | with_reducible first | refine spB_no (by decide) ?_
      | (with_reducible refine spB_dec ?_ ?_ <;> intro _ <;> (try (exfalso; first | contradiction | omega | (rename_i hz; refine hz ?_; simp; done) | (rename_i hz; simp at hz; done) | (simp only [LN] at *; omega))))
      | ((first | (with_reducible refine Z.callZ_mk ?_ (wakes_con) ?_)); (focus ((repeat' (first | exact trivial)); done))))
    all_goals (try (conv => whnf))
    all_goals try (show Nat.ble _ _ = true; rfl)
    all_goals try (exfalso; rename_i hz; cases hz; done)
    all_goals try (exfalso; (try simp only [LN] at *) <;> omega)
    all_goals first
      | ((first | (with_reducible apply Z.retF1)); (focus (exact rfl)); (repeat' (first | exact trivial | (with_reducible apply Z.frz_one) | (with_reducible apply Z.fq_bool) | exact rfl | apply And.intro)); (all_goals (try exact (fun _ => none))); all_goals (rfl))
  have cen := encode_con l hl hu
  have co := of_con l s k v (by omega)
  have cro := rof_con l s k v (by omega)
  have hol := @ofR_len l s k
  have cs := sameI_con (ofR l s k) (ofR l s k) (by omega)
  rw [decide_eq_true rfl] at cs
  have cr := rrow_con l hl hu
  by_cases h2 : 200 < l.length
  · rw [show encR l = ([], 3) by unfold encR; rw [if_pos h2]] at cen
    rw [decide_eq_false (show ¬ l.length ≤ 200 by omega), Bool.and_false] at cr
    dsimp only at cen
    rcases l with _ | ⟨e0, l⟩
    all_goals (
      repeat' ((conv => whnf); first
        | with_reducible first | refine spB_t ?_
        | ((with_reducible apply spB_cong); (focus (simp only [beq_self_eq_true, bne_self_eq_false, Bool.true_bne, Bool.false_bne, Bool.bne_true, Bool.bne_false, Bool.true_beq, Bool.false_beq, Bool.not_true, Bool.not_false, Bool.not_not, Int.reduceBEq, Int.reduceBNe, Int.reduceLE, Int.reduceLT, Int.reduceEq, decide_true, decide_false]; rfl)))
        | with_reducible first | refine spB_yes (by decide) ?_ | refine spB_no (by decide) ?_
        | (with_reducible refine spB_dec ?_ ?_ <;> intro _ <;> (try (exfalso; first | contradiction | omega | (rename_i hz; refine hz ?_; simp; done) | (rename_i hz; simp at hz; done) | (simp only [LN] at *; omega))))
        | ((with_reducible refine apdE_r ?_); (with_reducible refine aprN.mk ⟨_, rfl, ?_⟩ ?_ ?_ ?_ ?_); (focus ((try simp only [LN] at *) <;> omega)); (focus (first | rfl)); (focus (first | exact one_all (by rfl))); (focus ((try simp only [LN] at *) <;> omega)))
        | ((with_reducible refine apdE_k ?_); (with_reducible refine apkN.mk ⟨_, rfl, ?_⟩ ?_); (focus ((try simp only [LN] at *) <;> omega)))
        | ((with_reducible refine apdN.mk ?_ ?_ ?_ ?_ ?_ ?_); (focus (first | (simp; done))); (focus (first | exact one_map2 (fun _ => rfl))); (focus ((try simp only [LN] at *) <;> omega)); (focus ((try simp only [LN] at *) <;> omega)); (focus ((try simp only [LN] at *) <;> omega)))
        | ((first | (with_reducible refine Z.callZ_mk ?_ (wakes_con) ?_) | (with_reducible refine Z.callZ_mk ?_ (cen) ?_) | (with_reducible refine Z.conZ_mz ?_ (cs) ?_) | (with_reducible refine Z.conZ_mz ?_ (co) ?_) | (with_reducible refine Z.conZ_mz ?_ (cro) ?_) | (with_reducible refine Z.callZ_mk ?_ (cr) ?_)); (focus ((repeat' (first | exact trivial | (refine low_apE ?_ ?_; (focus (first | exact ap_ce | rfl)); (focus (first | rfl | (simp; done)))) | exact rfl | apply And.intro)); done)))
        | with_reducible first | refine Z.drawZ_rule tabOk mixOk ?_ | refine Z.apZ_mk (by kernel_rfl) ?_)
      all_goals (try (conv => whnf)))
    all_goals try (show Nat.ble _ _ = true; rfl)
    all_goals try (exfalso; rename_i hz; cases hz; done)
    all_goals try (exfalso; (try simp only [LN] at *) <;> omega)
    all_goals first
      | ((first | (with_reducible apply Z.retF1)); (focus (exact rfl)); (repeat' (first | exact trivial | (with_reducible apply Z.frz_one) | (with_reducible apply Z.fq_bool) | exact rfl | apply And.intro)); (all_goals (try exact (fun _ => none))); all_goals (first | (simp; done)))
  rw [decide_eq_true (show l.length ≤ 200 by omega), Bool.and_true] at cr
  cases hk : okEs l
  · rw [show encR l = ([], 151) by unfold encR; rw [if_neg h2, hk]; rfl] at cen
    rw [hk] at cr
    dsimp only at cen
    rcases l with _ | ⟨e0, l⟩
    all_goals (
      repeat' ((conv => whnf); first
        | with_reducible first | refine spB_t ?_
        | ((with_reducible apply spB_cong); (focus (simp only [beq_self_eq_true, bne_self_eq_false, Bool.true_bne, Bool.false_bne, Bool.bne_true, Bool.bne_false, Bool.true_beq, Bool.false_beq, Bool.not_true, Bool.not_false, Bool.not_not, Int.reduceBEq, Int.reduceBNe, Int.reduceLE, Int.reduceLT, Int.reduceEq, decide_true, decide_false]; rfl)))
        | with_reducible first | refine spB_yes (by decide) ?_ | refine spB_no (by decide) ?_
        | (with_reducible refine spB_dec ?_ ?_ <;> intro _ <;> (try (exfalso; first | contradiction | omega | (rename_i hz; refine hz ?_; simp; done) | (rename_i hz; simp at hz; done) | (simp only [LN] at *; omega))))
        | ((with_reducible refine apdE_r ?_); (with_reducible refine aprN.mk ⟨_, rfl, ?_⟩ ?_ ?_ ?_ ?_); (focus ((try simp only [LN] at *) <;> omega)); (focus (first | rfl)); (focus (first | exact one_all (by rfl))); (focus ((try simp only [LN] at *) <;> omega)))
        | ((with_reducible refine apdE_k ?_); (with_reducible refine apkN.mk ⟨_, rfl, ?_⟩ ?_); (focus ((try simp only [LN] at *) <;> omega)))
        | ((with_reducible refine apdN.mk ?_ ?_ ?_ ?_ ?_ ?_); (focus (first | (simp; done))); (focus (first | exact one_map2 (fun _ => rfl))); (focus ((try simp only [LN] at *) <;> omega)); (focus ((try simp only [LN] at *) <;> omega)); (focus ((try simp only [LN] at *) <;> omega)))
        | ((first | (with_reducible refine Z.callZ_mk ?_ (wakes_con) ?_) | (with_reducible refine Z.callZ_mk ?_ (cen) ?_) | (with_reducible refine Z.conZ_mz ?_ (cs) ?_) | (with_reducible refine Z.conZ_mz ?_ (co) ?_) | (with_reducible refine Z.conZ_mz ?_ (cro) ?_) | (with_reducible refine Z.callZ_mk ?_ (cr) ?_)); (focus ((repeat' (first | exact trivial | (refine low_apE ?_ ?_; (focus (first | exact ap_ce | rfl)); (focus (first | rfl | (simp; done)))) | exact rfl | apply And.intro)); done)))
        | with_reducible first | refine Z.drawZ_rule tabOk mixOk ?_ | refine Z.apZ_mk (by kernel_rfl) ?_)
      all_goals (try (conv => whnf)))
    all_goals try (show Nat.ble _ _ = true; rfl)
    all_goals try (exfalso; rename_i hz; cases hz; done)
    all_goals try (exfalso; (try simp only [LN] at *) <;> omega)
    all_goals first
      | ((first | (with_reducible apply Z.retF1)); (focus (exact rfl)); (repeat' (first | exact trivial | (with_reducible apply Z.frz_one) | (with_reducible apply Z.fq_bool) | exact rfl | apply And.intro)); (all_goals (try exact (fun _ => none))); all_goals (first | (simp; done)))
  · rw [show encR l = (enc l, 0) by unfold encR; rw [if_neg h2, hk]; rfl] at cen
    rw [hk] at cr
    dsimp only at cen
    have cb := bytes_con l (by omega) hk
    have hel := encs_len l
    have cs1 := same1_con (enc l) (enc l) (by unfold enc; simp only [List.length_cons]; omega)
    rw [decide_eq_true rfl] at cs1
    rcases l with _ | ⟨e0, l⟩
    all_goals (
      repeat' ((conv => whnf); first
        | with_reducible first | refine spB_t ?_
        | ((with_reducible apply spB_cong); (focus (simp only [beq_self_eq_true, bne_self_eq_false, Bool.true_bne, Bool.false_bne, Bool.bne_true, Bool.bne_false, Bool.true_beq, Bool.false_beq, Bool.not_true, Bool.not_false, Bool.not_not, Int.reduceBEq, Int.reduceBNe, Int.reduceLE, Int.reduceLT, Int.reduceEq, decide_true, decide_false]; rfl)))
        | with_reducible first | refine spB_no (by decide) ?_
        | (with_reducible refine spB_dec ?_ ?_ <;> intro _ <;> (try (exfalso; first | contradiction | omega | (rename_i hz; refine hz ?_; simp; done) | (rename_i hz; simp at hz; done) | (simp only [LN] at *; omega))))
        | ((with_reducible refine apdE_r ?_); (with_reducible refine aprN.mk ⟨_, rfl, ?_⟩ ?_ ?_ ?_ ?_); (focus ((try simp only [LN] at *) <;> omega)); (focus (first | rfl)); (focus (first | exact one_all (by rfl))); (focus ((try simp only [LN] at *) <;> omega)))
        | ((with_reducible refine apdE_k ?_); (with_reducible refine apkN.mk ⟨_, rfl, ?_⟩ ?_); (focus ((try simp only [LN] at *) <;> omega)))
        | ((with_reducible refine apdN.mk ?_ ?_ ?_ ?_ ?_ ?_); (focus (first | (simp; done))); (focus (first | exact one_map2 (fun _ => rfl))); (focus ((try simp only [LN] at *) <;> omega)); (focus ((try simp only [LN] at *) <;> omega)); (focus ((try simp only [LN] at *) <;> omega)))
        | ((first | (with_reducible refine Z.callZ_mk ?_ (wakes_con) ?_) | (with_reducible refine Z.callZ_mk ?_ (cen) ?_) | (with_reducible refine Z.conZ_mz ?_ (cs) ?_) | (with_reducible refine Z.conZ_mz ?_ (co) ?_) | (with_reducible refine Z.conZ_mz ?_ (cro) ?_) | (with_reducible refine Z.callZ_mk ?_ (cr) ?_) | (with_reducible refine Z.callZ_mk ?_ (cs1) ?_) | (with_reducible refine Z.callZ_mk ?_ (cb) ?_)); (focus ((repeat' (first | exact trivial | (refine low_apE ?_ ?_; (focus (first | exact ap_ce | rfl)); (focus (first | rfl | (simp; done)))) | exact rfl | apply And.intro)); done)))
        | with_reducible first | refine Z.drawZ_rule tabOk mixOk ?_ | refine Z.apZ_mk (by kernel_rfl) ?_)
      all_goals (try (conv => whnf)))
    all_goals try (show Nat.ble _ _ = true; rfl)
    all_goals try (exfalso; rename_i hz; cases hz; done)
    all_goals try (exfalso; (try simp only [LN] at *) <;> omega)
    all_goals first
      | ((first | (with_reducible apply Z.retF1)); (focus (exact rfl)); (repeat' (first | exact trivial | exact rfl | apply And.intro)); (all_goals (try exact (fun _ => none))); all_goals (first | (simp; done)))

end Go.Proofs.Ytpnfogckdceiaaa
namespace Go.Proofs.Ytpnfogckdceiaaa
open Go Go.RowKit Wx
set_option linter.unusedVariables false
set_option linter.unusedSimpArgs false
set_option maxHeartbeats 4000000
theorem wf_u {z : Int} (h : (Lit.int .u64 z).wf = true) : 0 ≤ z := by
  simp [Lit.wf, IntKind.min, IntKind.max, IntKind.signed, IntKind.bits] at h; omega
def okEl (x : El) : Prop := (Lit.int .i64 x.val).wf = true ∧ (Lit.int .u64 x.num).wf = true
theorem rowEl (row : List RT) (h : RowF (.st (.cons 3 1 (.int .i64) (.cons 23 3 (.st (.cons 3 1 (.int .i64) (.cons 3 1 (.int .i64) (.cons 2 1 (.int .i64) .nil)))) (.cons 24 1 (.int .u64) .nil)))) row) : ∃ x, row = eE x ∧ okEl x := by
  obtain ⟨c0, s0, rfl, _, ⟨y0, rfl, _⟩, c1, s1, rfl, _, ⟨d0, t0, rfl, _, ⟨x0, rfl, _⟩, d1, t1, rfl, _, ⟨x1, rfl, _⟩, d2, t2, rfl, _, ⟨x2, rfl, w1⟩, rfl⟩, c2, s2, rfl, _, ⟨y2, rfl, w2⟩, rfl⟩ := h
  exact ⟨⟨y0, x0, x1, x2, y2⟩, rfl, w1, w2⟩
structure Rk where
  s : Int
  k : Int
  v : Int
abbrev eRk (x : Rk) : List RT := [RT.v (.int .i64 x.s), RT.v (.int .i64 x.k), RT.v (.int .i64 x.v)]
def okRk (x : Rk) : Prop := (Lit.int .i64 x.s).wf = true ∧ (Lit.int .i64 x.k).wf = true ∧ (Lit.int .i64 x.v).wf = true ∧ True
theorem rowRk (row : List RT) (h : RowF (.st (.cons 3 1 (.int .i64) (.cons 3 1 (.int .i64) (.cons 2 1 (.int .i64) .nil)))) row) : ∃ x, row = eRk x ∧ okRk x := by
  obtain ⟨a0, r0, rfl, _, ⟨z0, rfl, w0⟩, a1, r1, rfl, _, ⟨z1, rfl, w1⟩, a2, r2, rfl, _, ⟨z2, rfl, w2⟩, rfl⟩ := h
  exact ⟨⟨z0, z1, z2⟩, rfl, w0, w1, w2, trivial⟩
namespace recordBytes
theorem main (avs : List A0) (h : All2 FitA [(.sl (.st (.cons 3 1 (.int .i64) (.cons 23 3 (.st (.cons 3 1 (.int .i64) (.cons 3 1 (.int .i64) (.cons 2 1 (.int .i64) .nil)))) (.cons 24 1 (.int .u64) .nil)))) 26 5), (.st (.cons 3 1 (.int .i64) (.cons 3 1 (.int .i64) (.cons 2 1 (.int .i64) .nil))))] avs) : Con Try.prog 4 avs (fun x K t => x = .val (.bool true) ∧ K = [] ∧ t = 0) := by
  obtain ⟨x0, x1, rfl, h0, h1⟩ : ∃ x0 x1, avs = [x0, x1] ∧ FitA (.sl (.st (.cons 3 1 (.int .i64) (.cons 23 3 (.st (.cons 3 1 (.int .i64) (.cons 3 1 (.int .i64) (.cons 2 1 (.int .i64) .nil)))) (.cons 24 1 (.int .u64) .nil)))) 26 5) x0 ∧ FitA (.st (.cons 3 1 (.int .i64) (.cons 3 1 (.int .i64) (.cons 2 1 (.int .i64) .nil)))) x1 := by
    cases avs with
    | nil => exact h.elim
    | cons x0 r => cases r with
      | nil => exact h.2.elim
      | cons x1 r => cases r with
        | nil => exact ⟨x0, x1, rfl, h.1, h.2.1⟩
        | cons => exact h.2.2.elim
  clear h
  obtain ⟨r0, ⟨rows0, hr0, ll, hrows0⟩, rfl⟩ := h0
  simp only [List.cons.injEq, and_true] at hr0
  subst hr0
  obtain ⟨l, rfl, kl⟩ := rows_map eE (okEl) rowEl rows0 hrows0
  rw [List.length_map] at ll
  obtain ⟨row1, hrow1, rfl⟩ := h1
  obtain ⟨r, rfl, kr⟩ := rowRk row1 hrow1
  exact bytesLaw_con l r.s r.k r.v (by simpa [maxLen] using ll) (fun e he => wf_u (kl e he).2)
end recordBytes
end Go.Proofs.Ytpnfogckdceiaaa
