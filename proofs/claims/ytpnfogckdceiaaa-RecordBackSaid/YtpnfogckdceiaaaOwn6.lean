import Derived.Test.YtpnfogckdceiaaaLib3
import Derived.Test.YtpnfogckdceiaaaLib5
import Derived.Test.YtpnfogckdceiaaaLib4
namespace Go.Proofs.Ytpnfogckdceiaaa
open Go Go.RowKit Wx
set_option linter.unusedVariables false
set_option linter.unusedSimpArgs false
set_option maxHeartbeats 4000000
structure El where
  kd : Int
  src : Int
  key : Int
  val : Int
  num : Int
deriving DecidableEq
abbrev eE (x : El) : List RT := [RT.v (.int .i64 x.kd), RT.v (.int .i64 x.src), RT.v (.int .i64 x.key), RT.v (.int .i64 x.val), RT.v (.int .u64 x.num)]
abbrev cE (x : El) : List Ce := [Ce.v (.int .i64 x.kd), Ce.v (.int .i64 x.src), Ce.v (.int .i64 x.key), Ce.v (.int .i64 x.val), Ce.v (.int .u64 x.num)]
abbrev eB (z : Int) : List RT := [RT.v (.int .u8 z)]
abbrev cB (z : Int) : List Ce := [Ce.v (.int .u8 z)]
def zE : El := ⟨0, 0, 0, 0, 0⟩
def okE (e : El) : Bool := decide ((e.kd = 1 ∧ (0 ≤ e.src ∧ e.src < 8 ∧ 0 ≤ e.key ∧ e.key < 32) ∧ e.num = 0) ∨ (e.kd = 2 ∧ (e.src = 0 ∧ e.key = 0 ∧ e.val = 0) ∧ 0 < e.num ∧ e.num ≤ 4611686018427387904) ∨ (e.kd = 3 ∧ (e.src = 0 ∧ e.key = 0 ∧ e.val = 0) ∧ e.num = 0))
/-- Is each of them right? -/
def okEs (l : List El) : Bool := l.all okE
theorem okEs_at {l : List El} {i : Nat} {x : El} (h : l[i]? = some x) : okEs (l.drop i) = (okE x && okEs (l.drop (i + 1))) := by
  rw [drop_cons h]; rfl
theorem okE_all {e : El} (h : okE e = true) : (e.kd = 1 ∧ (0 ≤ e.src ∧ e.src < 8 ∧ 0 ≤ e.key ∧ e.key < 32) ∧ e.num = 0) ∨ (e.kd = 2 ∧ (e.src = 0 ∧ e.key = 0 ∧ e.val = 0) ∧ 0 < e.num ∧ e.num ≤ 4611686018427387904) ∨ (e.kd = 3 ∧ (e.src = 0 ∧ e.key = 0 ∧ e.val = 0) ∧ e.num = 0) := of_decide_eq_true h
/-- The lowest bytes of a number, the highest of these first. -/
def be : Nat → Int → List Int
  | 0, _ => []
  | n + 1, x => be n (x / 256) ++ [x % 256]
theorem be_len : ∀ {n : Nat} {x : Int}, (be n x).length = n
  | 0, _ => rfl
  | n + 1, x => by rw [be, List.length_append, be_len]; rfl
/-- The bytes of an element. -/
def encE (e : El) : List Int := if e.kd = 1 then e.kd :: e.src :: e.key :: be 8 (IntKind.u64.wrap e.val) else if e.kd = 2 then e.kd :: be 8 e.num else [e.kd]
def encs (l : List El) : List Int := l.flatMap encE
def enc (l : List El) : List Int := (l.length : Int) :: encs l
theorem encs_at {l : List El} {i : Nat} {x : El} (h : l[i]? = some x) : encs (l.take (i + 1)) = encs (l.take i) ++ encE x := by
  unfold encs
  rw [take_snoc h, List.flatMap_append]; simp
theorem encE_len (e : El) : (encE e).length ≤ 11 := by
  unfold encE
  split
  · simp [be_len]
  · split
    · simp [be_len]
    · simp
theorem encs_len : ∀ l : List El, (encs l).length ≤ 11 * l.length
  | [] => by simp [encs]
  | e :: l => by
    have h1 := encE_len e
    have h2 := encs_len l
    unfold encs at *
    rw [List.flatMap_cons, List.length_append, List.length_cons]; omega
/-- The number of bytes. -/
def numR (l : List Int) : Int := l.foldl (fun x b => x * 256 + b) 0
theorem numR_snoc {l : List Int} {b : Int} : numR (l ++ [b]) = numR l * 256 + b := by unfold numR; rw [List.foldl_append]; rfl
def isB (l : List Int) : Prop := ∀ b ∈ l, 0 ≤ b ∧ b ≤ 255
theorem numR_lt : ∀ {n : Nat} {l : List Int}, l.length = n → isB l → 0 ≤ numR l ∧ numR l < 256 ^ n
  | 0, l, h, _ => by rw [List.length_eq_zero_iff.1 h]; decide
  | n + 1, l, h, hb => by
    rcases List.eq_nil_or_concat l with e | ⟨l', b, e⟩
    · subst e; simp at h
    · rw [List.concat_eq_append] at e
      subst e
      have h1 := numR_lt (n := n) (l := l') (by simpa using h) (fun x hx => hb x (List.mem_append_left _ hx))
      have h2 := hb b (by simp)
      rw [numR_snoc, Int.pow_succ]
      omega
theorem numR_be : ∀ {n : Nat} {x : Int}, 0 ≤ x → x < 256 ^ n → numR (be n x) = x
  | 0, x, h, h2 => by simp at h2; show (0 : Int) = x; omega
  | n + 1, x, h, h2 => by
    rw [Int.pow_succ] at h2
    rw [be, numR_snoc, numR_be (Int.ediv_nonneg h (by decide)) (by omega)]; omega
theorem be_isB : ∀ {n : Nat} {x : Int}, isB (be n x)
  | 0, _ => by intro b hb; cases hb
  | n + 1, x => by
    intro b hb
    rw [be] at hb
    rcases List.mem_append.1 hb with h | h
    · exact be_isB b h
    · rw [List.mem_singleton.1 h]; omega
theorem be_numR : ∀ {n : Nat} {l : List Int}, l.length = n → isB l → be n (numR l) = l
  | 0, l, h, _ => by rw [List.length_eq_zero_iff.1 h]; rfl
  | n + 1, l, h, hb => by
    rcases List.eq_nil_or_concat l with e | ⟨l', b, e⟩
    · subst e; simp at h
    · rw [List.concat_eq_append] at e
      subst e
      have h2 := hb b (by simp)
      rw [be, numR_snoc, show (numR l' * 256 + b) / 256 = numR l' by omega, show (numR l' * 256 + b) % 256 = b by omega, be_numR (by simpa using h) (fun x hx => hb x (List.mem_append_left _ hx))]
/-- One element at the front of bytes: it, the error, what is behind it. -/
def dec1 : List Int → El × Int × List Int
  | [] => (zE, 7, [])
  | kd :: r =>
    if kd = 1 then match r with
      | [] => (zE, 7, [])
      | s :: r1 => if 8 ≤ s then (zE, 151, []) else match r1 with
        | [] => (zE, 7, [])
        | k :: r2 => if 32 ≤ k then (zE, 151, []) else if r2.length < 8 then (zE, 7, []) else (⟨1, s, k, IntKind.i64.wrap (numR (r2.take 8)), 0⟩, 0, r2.drop 8)
    else if kd = 2 then (if r.length < 8 then (zE, 7, []) else if 1 ≤ numR (r.take 8) ∧ numR (r.take 8) ≤ 4611686018427387904 then (⟨2, 0, 0, 0, numR (r.take 8)⟩, 0, r.drop 8) else (zE, 151, []))
    else if kd = 3 then (⟨3, 0, 0, 0, 0⟩, 0, r)
    else (zE, 151, [])
/-- So many elements at the front of bytes. -/
def decN : Nat → List Int → List El × Int × List Int
  | 0, b => ([], 0, b)
  | n + 1, b => if (dec1 b).2.1 = 0 then
      if (decN n (dec1 b).2.2).2.1 = 0 then ((dec1 b).1 :: (decN n (dec1 b).2.2).1, 0, (decN n (dec1 b).2.2).2.2) else ([], (decN n (dec1 b).2.2).2.1, [])
    else ([], (dec1 b).2.1, [])
def decR : List Int → List El × Int
  | [] => ([], 7)
  | n :: r => if 200 < n then ([], 3) else if (decN n.toNat r).2.1 = 0 then (if (decN n.toNat r).2.2 = [] then ((decN n.toNat r).1, 0) else ([], 151)) else ([], (decN n.toNat r).2.1)
theorem u8_mod (z : Int) : IntKind.u8.wrap z = z % 256 := by
  simp [IntKind.wrap, IntKind.bits, IntKind.signed]
theorem wr_mod8 {z : Int} {A : Int → Prop} (h : A (z % 256)) : wr .u8 z A := ⟨_, u8_mod z, h⟩
theorem u64_mod (z : Int) : IntKind.u64.wrap z = z % 18446744073709551616 := by
  simp [IntKind.wrap, IntKind.bits, IntKind.signed]
theorem u64_rng (z : Int) : 0 ≤ IntKind.u64.wrap z ∧ IntKind.u64.wrap z < 18446744073709551616 := by rw [u64_mod]; omega
theorem i64_u64 {z : Int} (h : -9223372036854775808 ≤ z ∧ z ≤ 9223372036854775807) : IntKind.i64.wrap (IntKind.u64.wrap z) = z := by
  rw [u64_mod]
  simp [IntKind.wrap, IntKind.bits, IntKind.signed]
  omega
theorem u64_i64 {z : Int} (h : 0 ≤ z ∧ z < 18446744073709551616) : IntKind.u64.wrap (IntKind.i64.wrap z) = z := by
  rw [u64_mod]
  simp [IntKind.wrap, IntKind.bits, IntKind.signed]
  omega
theorem or256 {x b : Int} (h : 0 ≤ x ∧ x < 72057594037927936) (hb : 0 ≤ b ∧ b ≤ 255) : IntKind.u64.wrap ((BitVec.ofInt IntKind.u64.bits (IntKind.u64.wrap (x * 2 ^ 8)) ||| BitVec.ofInt IntKind.u64.bits (IntKind.u64.wrap b)).toNat : Int) = x * 256 + b := by
  obtain ⟨n, rfl⟩ := Int.eq_ofNat_of_zero_le h.1
  obtain ⟨c, rfl⟩ := Int.eq_ofNat_of_zero_le hb.1
  rw [u64_mod, u64_mod, u64_mod]
  have a1 : ((n : Int) * 2 ^ 8) % 18446744073709551616 = ((n * 256 : Nat) : Int) := by omega
  have a2 : (c : Int) % 18446744073709551616 = ((c : Nat) : Int) := by omega
  rw [a1, a2]
  show ((BitVec.ofInt 64 ((n * 256 : Nat) : Int) ||| BitVec.ofInt 64 (c : Int)).toNat : Int) % 18446744073709551616 = _
  rw [BitVec.toNat_or]
  have e1 : (BitVec.ofInt 64 ((n * 256 : Nat) : Int)).toNat = n * 256 := by simp [BitVec.toNat_ofInt]; omega
  have e2 : (BitVec.ofInt 64 (c : Int)).toNat = c := by simp [BitVec.toNat_ofInt]; omega
  have e3 : n * 256 ||| c = n * 256 + c := by
    rw [show n * 256 = n <<< 8 by rw [Nat.shiftLeft_eq]]
    exact (Nat.shiftLeft_add_eq_or_of_lt (by omega) n).symm
  rw [e1, e2, e3]
  omega
/-- A row of bytes that is filled from its end. -/
theorem put_set {b T : List Int} {m : Nat} {z : Int} : ((b ++ List.replicate (m + 1) 0 ++ T).map cB).set (0 + (b.length + m)) (cB z) = (b ++ List.replicate m 0 ++ (z :: T)).map cB := by
  rw [Nat.zero_add, List.replicate_succ', show b ++ (List.replicate m (0 : Int) ++ [0]) ++ T = (b ++ List.replicate m 0) ++ 0 :: T by simp, List.map_append, List.map_cons, Z.set_mid (by simp)]
  simp
theorem put_lay {b : List Int} {n k : Nat} {fl : Bool} (hk : b.length ≤ k) : lay (List.replicate (b.length + n) (cB 0)) 0 (List.take k ((b.map eB).map (List.map (RT.ce fl)))) = (b ++ List.replicate n 0 ++ []).map cB := by
  rw [List.take_of_length_le (by simpa using hk)]
  have h1 : ((b.map eB).map (List.map (RT.ce fl))) = b.map cB := map_ce fun _ => rfl
  rw [h1, List.append_nil, List.map_append, List.map_replicate]
  unfold lay
  simp
theorem mkN_any {lz cz : Int} (l : Nat) {bt : Nat} {A : Nat → Nat → Prop} (e1 : lz = (l : Int)) (e2 : cz = (l : Int)) (h2 : l ≤ maxLen) (h3 : bt * l ≤ 140737488355328) (k : A l l) : mkN lz cz bt A := ⟨l, l, e1, e2, Nat.le_refl _, h2, h3, k⟩
theorem put_row {b T : List Int} {m : Nat} : ((b ++ List.replicate (m + 1) 0 ++ T).map cB)[0 + (b.length + m)]? = some (cB 0) := by
  rw [Nat.zero_add, List.replicate_succ', show b ++ (List.replicate m (0 : Int) ++ [0]) ++ T = (b ++ List.replicate m 0) ++ 0 :: T by simp, List.map_append, List.map_cons, Z.get_mid (by simp)]
theorem vN_shr8 {p : Int} {A : Int → Prop} (hp : 0 ≤ p) (h : A (p / 256)) : vN (p.fdiv (2 ^ (min (Int.toNat 8) IntKind.u64.bits))) A := ⟨_, Int.fdiv_eq_ediv_of_nonneg _ (by decide), h⟩
end Go.Proofs.Ytpnfogckdceiaaa
namespace Go.Proofs.Ytpnfogckdceiaaa
open Go Go.RowKit Wx
set_option linter.unusedVariables false
set_option linter.unusedSimpArgs false
set_option maxHeartbeats 4000000
theorem checkE_con (e : El) (hu : 0 ≤ e.num) : Con Try.prog 10 [.agg [.v (.int .i64 e.kd), .v (.int .i64 e.src), .v (.int .i64 e.key), .v (.int .i64 e.val), .v (.int .u64 e.num)]] (fun rx rK rt => rx = .val (.int .i64 (bif okE e then 0 else 151)) ∧ rK = [] ∧ rt = 0) := by
  refine Z.con_ofF tabOk 40 Try.f10 _ Try.func10 (by kernel_rfl) rfl rfl rfl rfl ?_
  repeat' ((conv => whnf); first
    | with_reducible first | refine spB_t ?_
    | ((with_reducible apply spB_cong); (focus (simp only [beq_self_eq_true, bne_self_eq_false, Bool.true_bne, Bool.false_bne, Bool.bne_true, Bool.bne_false, Bool.true_beq, Bool.false_beq, Bool.not_true, Bool.not_false, Bool.not_not, Int.reduceBEq, Int.reduceBNe, Int.reduceLE, Int.reduceLT, Int.reduceEq, decide_true, decide_false]; rfl)))
    | with_reducible first | refine spB_no (by decide) ?_ | refine spB_not ?_
    | (with_reducible refine spB_dec ?_ ?_ <;> intro _ <;> (try (exfalso; first | contradiction | omega | (rename_i hz; with_reducible exact absurd rfl hz))))
    | (with_reducible refine spB_beq ?_ ?_ <;> intro _ <;> (try (exfalso; first | contradiction | omega | (rename_i hz; with_reducible exact absurd rfl hz))))
    | (with_reducible refine spB_mk ?_ ?_ <;> intro _ <;> (try (exfalso; first | contradiction | omega | (rename_i hz; with_reducible exact absurd rfl hz))))
    | with_reducible first | refine Z.callZ_in tabOk 21 Try.f9 _ Try.func9 (by kernel_rfl) rfl rfl rfl ?_
    | ((with_reducible apply ex_and); exact rfl))
  all_goals (try (conv => whnf))
  all_goals first
    | ((first | (with_reducible apply Z.retF1)); (focus (exact rfl)); (repeat' (first | exact trivial | (with_reducible apply Z.frz_one) | (with_reducible apply Z.fq_int) | apply And.intro)); (all_goals (try exact (fun _ => none))); all_goals (first | (rw [show okE e = true by (unfold okE; (try simp only [Bool.and_eq_true, Bool.and_eq_false_iff, Bool.and_true, beq_iff_eq, beq_eq_false_iff_ne, bne_iff_ne, Bool.not_eq_true, Bool.not_eq_false, ne_eq, Bool.false_eq_true, or_false] at *); first | exact decide_eq_true (by omega) | exact decide_eq_false (by omega))]; rfl) | (rw [show okE e = false by (unfold okE; (try simp only [Bool.and_eq_true, Bool.and_eq_false_iff, Bool.and_true, beq_iff_eq, beq_eq_false_iff_ne, bne_iff_ne, Bool.not_eq_true, Bool.not_eq_false, ne_eq, Bool.false_eq_true, or_false] at *); first | exact decide_eq_true (by omega) | exact decide_eq_false (by omega))]; rfl)))

end Go.Proofs.Ytpnfogckdceiaaa
namespace Go.Proofs.Ytpnfogckdceiaaa
open Go Go.RowKit Wx
set_option linter.unusedVariables false
set_option linter.unusedSimpArgs false
set_option maxHeartbeats 4000000
theorem put_con (b : List Int) (x : Int) (n : Nat) (hb : b.length ≤ 1099511627776) (hn : n ≤ 8) (hx : 0 ≤ x ∧ x < 18446744073709551616) : Con Try.prog 45 [.one (.ro false 1 (b.map eB)), .one (.v (.int .u64 x)), .one (.v (.int .i64 (n : Int)))] (fun rx rK rt => rx = .c (.ro true 1 ((b ++ be n x).map eB)) ∧ rK = [] ∧ rt = 0) := by
  refine Z.con_ofF tabOk 34 Try.f45 _ Try.func45 (by kernel_rfl) rfl rfl rfl rfl ?_
  repeat' ((conv => whnf); first
    | ((with_reducible refine mkN_any (b.length + n) ?_ ?_ ?_ ?_ ?_); (iterate 4 (focus ((try simp only [LN] at *) <;> omega))))
    | ((with_reducible refine cpyN.mk ?_ ?_ ?_ ?_); (focus (first | (simp; done))); (focus (first | exact one_map2 (fun _ => rfl))); (focus ((try simp only [LN] at *) <;> omega)))
    | with_reducible refine wr_i64 (by first | omega | (simp only [LN] at *; omega)) ?_)
  all_goals (try (conv => whnf))
  all_goals try (show Nat.ble _ _ = true; rfl)
  all_goals try (exfalso; rename_i hz; cases hz; done)
  all_goals try (exfalso; (try simp only [LN] at *) <;> omega)
  refine Z.loopK tabOk (fun zq : Nat × Int × List Int => [(18, .val (.int .i64 (zq.1 : Int))), (1, .val (.int .u64 zq.2.1))]) (fun zq : Nat × Int × List Int => ([(0, some (Z.Ob.b ⟨(b ++ List.replicate (n - zq.1) 0 ++ zq.2.2).map cB, 1, 5, false⟩))] : Z.Kr)) (fun zq => zq.1 ≤ n ∧ zq.2.2.length = zq.1 ∧ be (n - zq.1) zq.2.1 ++ zq.2.2 = be n x ∧ 0 ≤ zq.2.1 ∧ zq.2.1 < 18446744073709551616) (fun zq => n - zq.1) (0, x, []) 1 [(7, _), (17, _)] ⟨rfl, rfl, trivial⟩ [] trivial ?_ ?_ rfl rfl ⟨Nat.zero_le _, rfl, by simp, hx⟩ ?_
  · repeat' (first | exact trivial | apply And.intro | exact ⟨_, rfl, Z.Imp.refl _⟩)
  · repeat' (first | exact trivial | (intro b hb; cases hb; refine ⟨_, rfl, ⟨rfl, rfl, rfl⟩, Z.imp_eq ?_⟩; first | rfl | exact put_lay (by simp) | exact (put_lay (by simp)).trans (by simp); done) | apply And.intro)
  rintro ⟨i, y, T⟩ HINV
  dsimp only at HINV ⊢
  obtain ⟨HI, HT, HB, hy⟩ := HINV
  have hlr : (b ++ List.replicate (n - i) 0 ++ T).length = b.length + n := by simp; omega
  by_cases hi : i < n
  · obtain ⟨m, hm⟩ : ∃ m, n - i = m + 1 := ⟨n - i - 1, by omega⟩
    rw [hm] at hlr HB ⊢
    rw [be, List.append_assoc] at HB
    repeat' ((conv => whnf); first
      | (with_reducible refine spB_dec ?_ ?_ <;> intro _ <;> (try (exfalso; first | contradiction | omega | (rename_i hz; refine hz ?_; simp; done) | (rename_i hz; simp at hz; done) | (simp only [LN] at *; omega))))
      | (with_reducible refine vN_shr8 (by omega) ?_)
      | ((with_reducible refine ixN_mk (b.length + m) ?_ ?_ ?_); (focus (first | ((try simp only [LN] at *) <;> omega))); (focus ((try simp only [LN] at *) <;> omega)))
      | ((with_reducible refine rowN_mk (cB 0) ?_ ?_); (focus (exact put_row)))
      | with_reducible first | refine wr_mod8 ?_
      | ((with_reducible refine eqN_mk2 ?_ ?_); (focus rfl))
      | with_reducible refine wr_i64 (by first | omega | (simp only [LN] at *; omega)) ?_)
    all_goals (try (conv => whnf))
    all_goals try (show Nat.ble _ _ = true; rfl)
    all_goals try (exfalso; rename_i hz; cases hz; done)
    all_goals try (exfalso; (try simp only [LN] at *) <;> omega)
    all_goals first
      | ((refine Z.rnd_rw 0 ((b ++ List.replicate (n - (i + 1)) 0 ++ (y % 256) :: T).map cB) rfl rfl ?_ ?_); (focus (rw [show n - (i + 1) = m by omega]; exact put_set)); ((refine Z.rndK ((i + 1, y / 256, (y % 256) :: T)) (fun s => [0]) rfl rfl rfl rfl ?_ ?_ ?_ ?_); (focus (repeat' (first | exact trivial | exact rfl | apply And.intro))); (focus (repeat' (first | exact trivial | exact Z.blk_sub rfl rfl (ren_map fun _ => rfl) | apply And.intro))); (focus (exact ⟨by (try dsimp only); omega, by (try dsimp only); rw [List.length_cons, HT], by (try dsimp only); rw [show n - (i + 1) = m by omega]; exact HB, by (try dsimp only); omega⟩)); ((try dsimp only); omega)))
  have hil : i = n := by omega
  subst hil
  rw [Nat.sub_self, be, List.nil_append] at HB
  subst HB
  repeat' ((conv => whnf); first
    | (with_reducible refine spB_dec ?_ ?_ <;> intro _ <;> (try (exfalso; first | contradiction | omega | (rename_i hz; refine hz ?_; simp; done) | (rename_i hz; simp at hz; done) | (simp only [LN] at *; omega)))))
  all_goals (try (conv => whnf))
  all_goals try (show Nat.ble _ _ = true; rfl)
  all_goals try (exfalso; rename_i hz; cases hz; done)
  all_goals try (exfalso; (try simp only [LN] at *) <;> omega)
  all_goals first
    | ((first | (with_reducible apply Z.retF1)); (focus (exact rfl)); (repeat' (first | exact trivial | (with_reducible apply Z.frz_one) | ((with_reducible apply Z.fq_osl); (focus (exact rfl)); (focus (first | ((try simp only [LN] at *) <;> omega))); (focus (exact fun _ => rfl))) | apply And.intro)); (all_goals (try exact (fun _ => none))); all_goals (first | (simp; done)))

theorem put8_con (b : List Int) (x : Int) (hb : b.length ≤ 1099511627776) (hx : 0 ≤ x ∧ x < 18446744073709551616) : Con Try.prog 45 [.one (.ro false 1 (b.map eB)), .one (.v (.int .u64 x)), .one (.v (.int .i64 8))] (fun rx rK rt => rx = .c (.ro true 1 ((b ++ be 8 x).map eB)) ∧ rK = [] ∧ rt = 0) := put_con b x 8 hb (by decide) hx
theorem put64_con (b : List Int) (x : Int) (hb : b.length ≤ 1099511627776) (hx : 0 ≤ x ∧ x < 18446744073709551616) : Con Try.prog 39 [.one (.ro false 1 (b.map eB)), .one (.v (.int .u64 x))] (fun rx rK rt => rx = .c (.ro true 1 ((b ++ be 8 x).map eB)) ∧ rK = [] ∧ rt = 0) := by
  refine Z.con_ofF tabOk 8 Try.f39 _ Try.func39 (by kernel_rfl) rfl rfl rfl rfl ?_
  repeat' ((conv => whnf); first
    | ((first | (with_reducible apply Z.callZ_mk ?_ (put8_con _ _ ?_ ?_) ?_)); (rotate_left 2); (focus ((repeat' (first | exact trivial | exact rfl | apply And.intro)); done)); (iterate 2 (focus (first | assumption)))))
  all_goals (try (conv => whnf))
  all_goals first
    | ((first | (with_reducible apply Z.retF1)); (focus (exact rfl)); (repeat' (first | exact trivial | exact rfl | apply And.intro)); (all_goals (try exact (fun _ => none))); all_goals (rfl))

end Go.Proofs.Ytpnfogckdceiaaa
namespace Go.Proofs.Ytpnfogckdceiaaa
open Go Go.RowKit Wx
set_option linter.unusedVariables false
set_option linter.unusedSimpArgs false
set_option maxHeartbeats 4000000
/-- An own slice as one that grows. -/
theorem oslg {i n : Nat} {c : Option Nat} {rows : List (List Ce)} (hne : rows ≠ []) (hn : n = rows.length) : Z.Imp (.osl i 0 n c) (.gsl i rows) := fun I R u h => by
  subst hn
  obtain ⟨p, c', hp, hu, h1, h2, _⟩ := h
  exact .inr ⟨hne, p, c', hp, by rw [hu, Nat.zero_mul], h1, by omega⟩
theorem encE_1 {e : El} (h : okE e = true) (h1 : e.kd = 1) : [e.kd % 256, e.src % 256, e.key % 256] ++ be 8 (IntKind.u64.wrap e.val) = encE e := by
  have := okE_all h
  unfold encE
  rw [if_pos h1, show e.kd % 256 = e.kd by omega, show e.src % 256 = e.src by omega, show e.key % 256 = e.key by omega]; rfl
theorem encE_2 {e : El} (h1 : e.kd = 2) : [e.kd % 256] ++ be 8 e.num = encE e := by
  unfold encE
  rw [if_neg (by omega), if_pos h1, show e.kd % 256 = e.kd by omega]; rfl
theorem encE_3 {e : El} (h1 : e.kd = 3) : [e.kd % 256] = encE e := by
  unfold encE
  rw [if_neg (by omega), if_neg (by omega), show e.kd % 256 = e.kd by omega]
theorem encE_ne (e : El) : encE e ≠ [] := by
  unfold encE
  split
  · simp
  · split <;> simp
theorem encs_take {l : List El} {i : Nat} : (encs (l.take i)).length ≤ 11 * i := by
  have h := encs_len (l.take i)
  rw [List.length_take] at h; omega
/-- What a row comes to: its bytes, or an error. -/
def encR (l : List El) : List Int × Int := if 200 < l.length then ([], 3) else bif okEs l then (enc l, 0) else ([], 151)
theorem ce_cB {fl : Bool} {l : List Int} : (l.map eB).map (List.map (RT.ce fl)) = l.map cB := map_ce fun _ => rfl
theorem app_rows {A B C : List Int} {fl : Bool} (h : C = A ++ B) : A.map cB ++ (B.map eB).map (List.map (RT.ce fl)) = C.map cB := by
  rw [ce_cB, h, List.map_append]
end Go.Proofs.Ytpnfogckdceiaaa
namespace Go.Proofs.Ytpnfogckdceiaaa
open Go Go.RowKit Wx
set_option linter.unusedVariables false
set_option linter.unusedSimpArgs false
set_option maxHeartbeats 4000000
theorem lay1_con (e : El) (hok : okE e = true) (h1 : e.kd = 1) : Con Try.prog 29 [.agg [.v (.int .i64 e.kd), .v (.int .i64 e.src), .v (.int .i64 e.key), .v (.int .i64 e.val), .v (.int .u64 e.num)]] (fun rx rK rt => rx = .c (.ro true 1 ((encE e).map eB)) ∧ rK = [] ∧ rt = 0) := by
  refine Z.con_ofF tabOk 36 Try.f29 _ Try.func29 (by kernel_rfl) rfl rfl rfl rfl ?_
  have hk := okE_all hok
  have cp := put64_con [e.kd % 256, e.src % 256, e.key % 256] (IntKind.u64.wrap e.val) (by simp) (u64_rng _)
  rw [← encE_1 hok h1]
  repeat' ((conv => whnf); first
    | (with_reducible refine spB_beq ?_ ?_ <;> intro _ <;> (try (exfalso; first | contradiction | omega | (rename_i hz; refine hz ?_; simp; done) | (rename_i hz; simp at hz; done) | (simp only [LN] at *; omega))))
    | with_reducible first | refine wr_mod8 ?_ | refine wr_mk (IntKind.u64.wrap e.val) rfl ?_
    | ((with_reducible refine apdE_n ?_); (with_reducible refine apdN.mk ?_ ?_ ?_ ?_ ?_ ?_); (focus rfl); (focus (exact one_all (by rfl))); (focus (exact Nat.le_of_ble_eq_true rfl)); (iterate 2 (focus ((try simp only [LN] at *) <;> omega))))
    | ((first | (with_reducible refine Z.callZ_mk ?_ (cp) ?_)); (focus ((repeat' (first | exact trivial | exact ⟨_, rfl, rfl, rfl⟩ | exact rfl | apply And.intro)); done))))
  all_goals (try (conv => whnf))
  all_goals try (show Nat.ble _ _ = true; rfl)
  all_goals try (exfalso; rename_i hz; cases hz; done)
  all_goals try (exfalso; (try simp only [LN] at *) <;> omega)
  all_goals first
    | ((first | (with_reducible apply Z.retF1)); (focus (exact rfl)); (repeat' (first | exact trivial | exact rfl | apply And.intro)); (all_goals (try exact (fun _ => none))); all_goals (rfl))

theorem lay2_con (e : El) (hok : okE e = true) (h1 : e.kd = 2) : Con Try.prog 29 [.agg [.v (.int .i64 e.kd), .v (.int .i64 e.src), .v (.int .i64 e.key), .v (.int .i64 e.val), .v (.int .u64 e.num)]] (fun rx rK rt => rx = .c (.ro true 1 ((encE e).map eB)) ∧ rK = [] ∧ rt = 0) := by
  refine Z.con_ofF tabOk 36 Try.f29 _ Try.func29 (by kernel_rfl) rfl rfl rfl rfl ?_
  have hk := okE_all hok
  have cp := put64_con [e.kd % 256] e.num (by simp) (by omega)
  rw [← encE_2 h1]
  repeat' ((conv => whnf); first
    | (with_reducible refine spB_beq ?_ ?_ <;> intro _ <;> (try (exfalso; first | contradiction | omega | (rename_i hz; refine hz ?_; simp; done) | (rename_i hz; simp at hz; done) | (simp only [LN] at *; omega))))
    | with_reducible first | refine wr_mod8 ?_
    | ((first | (with_reducible refine Z.callZ_mk ?_ (cp) ?_)); (focus ((repeat' (first | exact trivial | exact ⟨_, rfl, rfl, rfl⟩ | exact rfl | apply And.intro)); done))))
  all_goals (try (conv => whnf))
  all_goals try (show Nat.ble _ _ = true; rfl)
  all_goals try (exfalso; rename_i hz; cases hz; done)
  all_goals try (exfalso; (try simp only [LN] at *) <;> omega)
  all_goals first
    | ((first | (with_reducible apply Z.retF1)); (focus (exact rfl)); (repeat' (first | exact trivial | exact rfl | apply And.intro)); (all_goals (try exact (fun _ => none))); all_goals (rfl))

theorem lay3_con (e : El) (hok : okE e = true) (h1 : e.kd = 3) : Con Try.prog 29 [.agg [.v (.int .i64 e.kd), .v (.int .i64 e.src), .v (.int .i64 e.key), .v (.int .i64 e.val), .v (.int .u64 e.num)]] (fun rx rK rt => rx = .c (.ro true 1 ((encE e).map eB)) ∧ rK = [] ∧ rt = 0) := by
  refine Z.con_ofF tabOk 36 Try.f29 _ Try.func29 (by kernel_rfl) rfl rfl rfl rfl ?_
  have hk := okE_all hok
  rw [← encE_3 h1]
  repeat' ((conv => whnf); first
    | (with_reducible refine spB_beq ?_ ?_ <;> intro _ <;> (try (exfalso; first | contradiction | omega | (rename_i hz; refine hz ?_; simp; done) | (rename_i hz; simp at hz; done) | (simp only [LN] at *; omega))))
    | with_reducible first | refine wr_mod8 ?_)
  all_goals (try (conv => whnf))
  all_goals try (show Nat.ble _ _ = true; rfl)
  all_goals try (exfalso; rename_i hz; cases hz; done)
  all_goals try (exfalso; (try simp only [LN] at *) <;> omega)
  all_goals first
    | ((first | (with_reducible apply Z.retF1)); (focus (exact rfl)); (repeat' (first | exact trivial | (refine Z.frz_oslw (l := [e.kd % 256]) (f := cB) (ty := 5) (bx := false) rfl ?_ ?_ (fun _ => rfl); (focus rfl); rfl) | (with_reducible apply Z.frz_one) | apply And.intro)); (all_goals (try exact (fun _ => none))); all_goals (rfl))

theorem lay_con (e : El) (hok : okE e = true) : Con Try.prog 29 [.agg [.v (.int .i64 e.kd), .v (.int .i64 e.src), .v (.int .i64 e.key), .v (.int .i64 e.val), .v (.int .u64 e.num)]] (fun rx rK rt => rx = .c (.ro true 1 ((encE e).map eB)) ∧ rK = [] ∧ rt = 0) := by
  rcases okE_all hok with h | h | h
  · exact lay1_con e hok h.1
  · exact lay2_con e hok h.1
  · exact lay3_con e hok h.1
end Go.Proofs.Ytpnfogckdceiaaa
namespace Go.Proofs.Ytpnfogckdceiaaa
open Go Go.RowKit Wx
set_option linter.unusedVariables false
set_option linter.unusedSimpArgs false
set_option maxHeartbeats 4000000
theorem encode_con (l : List El) (hl : l.length ≤ 9223372036854775807) (hu : ∀ e ∈ l, 0 ≤ e.num) : Con Try.prog 16 [.one (.ro false 5 (l.map eE))] (fun rx rK rt => rx = .tup [.one (.ro true 1 ((encR l).1.map eB)), .one (.v (.int .i64 (encR l).2))] ∧ rK = [] ∧ rt = 0) := by
  refine Z.con_ofF tabOk 32 Try.f16 _ Try.func16 (by kernel_rfl) rfl rfl rfl rfl ?_
  by_cases h2 : 200 < l.length
  · rw [show encR l = ([], 3) by unfold encR; rw [if_pos h2]]
    dsimp only
    repeat' ((conv => whnf); first
      | (with_reducible refine spB_dec ?_ ?_ <;> intro _ <;> (try (exfalso; first | contradiction | omega | (rename_i hz; refine hz ?_; simp; done) | (rename_i hz; simp at hz; done) | (simp only [LN] at *; omega)))))
    all_goals (try (conv => whnf))
    all_goals try (show Nat.ble _ _ = true; rfl)
    all_goals try (exfalso; rename_i hz; cases hz; done)
    all_goals try (exfalso; (try simp only [LN] at *) <;> omega)
    all_goals first
      | ((first | (with_reducible apply Z.retF2)); (focus (exact rfl)); (repeat' (first | exact trivial | (with_reducible apply Z.frz_one) | (with_reducible apply Z.fq_int) | (exact Z.frz_nil) | exact rfl | apply And.intro)); (all_goals (try exact (fun _ => none))); all_goals (first | (simp; done)))
  have hR : encR l = bif okEs l then (enc l, 0) else ([], 151) := by unfold encR; rw [if_neg h2]
  rw [hR]
  repeat' ((conv => whnf); first
    | (with_reducible refine spB_dec ?_ ?_ <;> intro _ <;> (try (exfalso; first | contradiction | omega | (rename_i hz; refine hz ?_; simp; done) | (rename_i hz; simp at hz; done) | (simp only [LN] at *; omega))))
    | with_reducible first | refine wr_mod8 ?_)
  all_goals (try (conv => whnf))
  all_goals try (show Nat.ble _ _ = true; rfl)
  all_goals try (exfalso; rename_i hz; cases hz; done)
  all_goals try (exfalso; (try simp only [LN] at *) <;> omega)
  refine Z.loopK tabOk (fun zq : Nat => [(17, .val (.int .i64 (zq : Int))), (4, .c (.gsl 0 (((((List.map eE l).length : Int) % 256) :: encs (l.take zq)).map cB)))]) (fun zq : Nat => ([(0, (gB 1 5 (((((List.map eE l).length : Int) % 256) :: encs (l.take zq)).map cB)).map Z.Ob.b)] : Z.Kr)) (fun zq => zq ≤ l.length ∧ okEs l = okEs (l.drop zq)) (fun zq => l.length - zq) 0 1 [(15, _), (16, _)] ⟨rfl, rfl, trivial⟩ [] trivial ?_ ?_ rfl rfl ⟨Nat.zero_le _, rfl⟩ ?_
  · repeat' (first | exact trivial | apply And.intro | exact ⟨_, rfl, Z.Imp.refl _⟩ | exact ⟨_, rfl, oslg (by simp) (by simp [encs])⟩)
  · repeat' (first | exact trivial | exact (fun b hb => ⟨b, hb, Z.ImpO.refl b⟩) | apply And.intro)
  rintro i HINV
  dsimp only at HINV ⊢
  obtain ⟨HI, HO⟩ := HINV
  have hel := @encs_take l i
  by_cases hi : i < l.length
  · obtain ⟨x, hx⟩ := getElem?_some' (xs := l) (i := i) hi
    have ce := checkE_con x (hu x (List.mem_of_getElem? hx))
    have hat := okEs_at hx
    have hel2 := encE_len x
    cases hok : okE x
    all_goals rw [hok] at ce hat
    all_goals simp only [cond_true, cond_false] at ce
    · rw [Bool.false_and] at hat
      rw [HO, hat]
      simp only [cond_false]
      repeat' ((conv => whnf); first
        | with_reducible first | refine spB_t ?_
        | ((with_reducible apply spB_cong); (focus (simp only [beq_self_eq_true, bne_self_eq_false, Bool.true_bne, Bool.false_bne, Bool.bne_true, Bool.bne_false, Bool.true_beq, Bool.false_beq, Bool.not_true, Bool.not_false, Bool.not_not, Int.reduceBEq, Int.reduceBNe, Int.reduceLE, Int.reduceLT, Int.reduceEq, decide_true, decide_false]; rfl)))
        | (with_reducible refine spB_dec ?_ ?_ <;> intro _ <;> (try (exfalso; first | contradiction | omega | (rename_i hz; refine hz ?_; simp; done) | (rename_i hz; simp at hz; done) | (simp only [LN] at *; omega))))
        | with_reducible first | refine Z.rowN_known hx ?_
        | ((with_reducible apply ixN_litp); (focus (exact rfl)); (focus ((try simp only [LN] at *) <;> omega)))
        | ((first | (with_reducible refine Z.callZ_mk ?_ (ce) ?_)); (focus ((repeat' (first | exact trivial | exact rfl | apply And.intro)); done))))
      all_goals (try (conv => whnf))
      all_goals try (show Nat.ble _ _ = true; rfl)
      all_goals try (exfalso; rename_i hz; cases hz; done)
      all_goals try (exfalso; (try simp only [LN] at *) <;> omega)
      all_goals first
        | ((first | (with_reducible apply Z.retF2)); (focus (exact rfl)); (repeat' (first | exact trivial | (with_reducible apply Z.frz_one) | (exact Z.frz_nil) | exact rfl | apply And.intro)); (all_goals (try exact (fun _ => none))); all_goals (first | (simp; done)))
    · have cl := lay_con x hok
      obtain ⟨e0, r0, h0⟩ : ∃ e0 r0, encE x = e0 :: r0 := by
        cases h9 : encE x with
        | nil => exact absurd h9 (encE_ne x)
        | cons a b => exact ⟨a, b, rfl⟩
      have hel3 : (e0 :: r0).length ≤ 11 := h0 ▸ hel2
      rw [Bool.true_and] at hat
      have hen := encs_at hx
      rw [h0] at cl hen
      repeat' ((conv => whnf); first
        | ((with_reducible apply spB_cong); (focus (simp only [beq_self_eq_true, bne_self_eq_false, Bool.true_bne, Bool.false_bne, Bool.bne_true, Bool.bne_false, Bool.true_beq, Bool.false_beq, Bool.not_true, Bool.not_false, Bool.not_not, Int.reduceBEq, Int.reduceBNe, Int.reduceLE, Int.reduceLT, Int.reduceEq, decide_true, decide_false]; rfl)))
        | with_reducible first | refine spB_no (by decide) ?_
        | (with_reducible refine spB_dec ?_ ?_ <;> intro _ <;> (try (exfalso; first | contradiction | omega | (rename_i hz; refine hz ?_; simp; done) | (rename_i hz; simp at hz; done) | (simp only [LN] at *; omega))))
        | with_reducible first | refine Z.rowN_known hx ?_
        | ((with_reducible refine posE_pos ?_ ?_); (focus ((try simp only [LN] at *) <;> omega)))
        | ((with_reducible apply ixN_litp); (focus (exact rfl)); (focus ((try simp only [LN] at *) <;> omega)))
        | ((with_reducible refine eqN_mk2 ?_ ?_); (focus rfl))
        | ((with_reducible refine apdN.mk ?_ ?_ ?_ ?_ ?_ ?_); (focus (first | (simp; done))); (focus (first | exact one_map2 (fun _ => rfl))); (focus ((try simp only [LN] at *) <;> omega)); (focus ((try simp only [LN] at *) <;> omega)); (focus ((try simp only [LN] at *) <;> omega)))
        | with_reducible refine wr_i64 (by first | omega | (simp only [LN] at *; omega)) ?_
        | ((first | (with_reducible refine Z.callZ_mk ?_ (ce) ?_) | (with_reducible refine Z.callZ_mk ?_ (cl) ?_)); (focus ((repeat' (first | exact trivial | exact rfl | apply And.intro)); done))))
      all_goals (try (conv => whnf))
      all_goals try (show Nat.ble _ _ = true; rfl)
      all_goals try (exfalso; rename_i hz; cases hz; done)
      all_goals try (exfalso; (try simp only [LN] at *) <;> omega)
      all_goals first
        | ((refine Z.rndK ((i + 1)) (fun s => [s.idAt 4]) rfl rfl rfl rfl ?_ ?_ ?_ ?_); (focus (repeat' (first | exact trivial | exact congrArg (fun r => some (AV.c (Ce.gsl _ r))) (app_rows (congrArg (List.cons _) hen)) | exact rfl | apply And.intro))); (focus (repeat' (first | exact trivial | exact Z.gB_sub' rfl (app_rows (congrArg (List.cons _) hen)) (ren_map fun _ => rfl) | apply And.intro))); (focus (exact ⟨by (try dsimp only); omega, by (try dsimp only); rw [HO, hat]⟩)); ((try dsimp only); omega))
  have hil : i = l.length := by omega
  subst hil
  rw [List.drop_length] at HO
  rw [HO, show okEs [] = true from rfl]
  simp only [cond_true]
  have hen : enc l = (((List.map eE l).length : Int) % 256) :: encs (l.take l.length) := by rw [List.take_length, enc, List.length_map, show (l.length : Int) % 256 = l.length by omega]
  rw [hen]
  repeat' ((conv => whnf); first
    | (with_reducible refine spB_dec ?_ ?_ <;> intro _ <;> (try (exfalso; first | contradiction | omega | (rename_i hz; refine hz ?_; simp; done) | (rename_i hz; simp at hz; done) | (simp only [LN] at *; omega)))))
  all_goals (try (conv => whnf))
  all_goals try (show Nat.ble _ _ = true; rfl)
  all_goals try (exfalso; rename_i hz; cases hz; done)
  all_goals try (exfalso; (try simp only [LN] at *) <;> omega)
  all_goals first
    | ((first | (with_reducible apply Z.retF2)); (focus (exact rfl)); (repeat' (first | exact trivial | (with_reducible apply Z.frz_one) | (with_reducible apply Z.fq_int) | ((with_reducible apply Z.fq_gsl); (focus (first | rfl)); (focus (exact fun _ => rfl))) | exact rfl | apply And.intro)); (all_goals (try exact (fun _ => none))); all_goals (first | (simp; done)))

end Go.Proofs.Ytpnfogckdceiaaa
namespace Go.Proofs.Ytpnfogckdceiaaa
open Go Go.RowKit Wx
set_option linter.unusedVariables false
set_option linter.unusedSimpArgs false
set_option maxHeartbeats 4000000
end Go.Proofs.Ytpnfogckdceiaaa
namespace Go.Proofs.Ytpnfogckdceiaaa
open Go Go.RowKit Wx
set_option linter.unusedVariables false
set_option linter.unusedSimpArgs false
set_option maxHeartbeats 4000000
end Go.Proofs.Ytpnfogckdceiaaa
namespace Go.Proofs.Ytpnfogckdceiaaa
open Go Go.RowKit Wx
set_option linter.unusedVariables false
set_option linter.unusedSimpArgs false
set_option maxHeartbeats 4000000
end Go.Proofs.Ytpnfogckdceiaaa
namespace Go.Proofs.Ytpnfogckdceiaaa
open Go Go.RowKit Wx
set_option linter.unusedVariables false
set_option linter.unusedSimpArgs false
set_option maxHeartbeats 4000000
end Go.Proofs.Ytpnfogckdceiaaa
namespace Go.Proofs.Ytpnfogckdceiaaa
open Go Go.RowKit Wx
set_option linter.unusedVariables false
set_option linter.unusedSimpArgs false
set_option maxHeartbeats 4000000
theorem loopZ_unr1 {P : Program} {T : Tab} {n m : Nat} {rd : Option Nat} {s : Z.S} {c : Code} {Q : Exit → Z.S → Prop} (hT : TabOk P T) (hs : Wx.get s.F 5 = some (.val (.int .i64 1))) (h : Z.loopU P T n m rd c Q 2 s) : Z.LoopZ P n m rd c s Q := Z.loopZ_unroll hT 2 h
theorem wr_shl8 {x : Int} {A : Int → Prop} (h : 0 ≤ x ∧ x < 72057594037927936) (k : A (x * 256)) : wr .u64 (x * 2 ^ (min (Int.toNat 8) IntKind.u64.bits)) A := ⟨x * 256, by
  show IntKind.u64.wrap (x * 2 ^ 8) = _
  rw [u64_in _ (by omega)]; omega, k⟩
theorem or_add {x b : Int} (h : 0 ≤ x ∧ x < 72057594037927936) (hb : 0 ≤ b ∧ b ≤ 255) : IntKind.u64.wrap ((BitVec.ofInt IntKind.u64.bits (x * 256) ||| BitVec.ofInt IntKind.u64.bits b).toNat : Int) = x * 256 + b := by
  have e := or256 h hb
  rw [u64_in (x * 2 ^ 8) (by omega), u64_in b (by omega), show x * 2 ^ 8 = x * 256 by omega] at e
  exact e
theorem wr_or0 {b : Int} {A : Int → Prop} (hb : 0 ≤ b ∧ b ≤ 255) (k : A b) : wr .u8 (IntKind.u64.wrap ((BitVec.ofInt IntKind.u64.bits (0 * 256) ||| BitVec.ofInt IntKind.u64.bits b).toNat : Int)) A := ⟨b, by
  rw [or_add (by decide) hb, u8_mod]; omega, k⟩
theorem copy_rows {l : List Int} {m k n : Nat} {z : List Ce} {fl : Bool} (hm : m = l.length) (hk : l.length ≤ k) (hn : n = l.length) : (lay (List.replicate m z) 0 (List.take k ((l.map eB).map (List.map (RT.ce fl))))).take n = l.map cB := by
  subst hn
  rw [Z.lay_copy hm hk (fun _ => rfl)]
  exact List.take_of_length_le (by simp)
theorem tk_map {r : List Int} : List.take r.length (List.map eB r) = List.map eB r := List.take_of_length_le (by simp)
theorem loopQ3 {P : Program} {n m : Nat} {rd : Option Nat} {s : Z.S} {c : Code} {Q : Exit → Z.S → Prop} {s9 : Z.S} (h : ∀ Q0 : Exit → Z.S → Prop, Q0 (.exit 0) s9 → Z.LoopZ P n m rd c s Q0) (k : Q (.exit 0) s9) : Z.LoopZ P n m rd c s Q := h Q k
theorem copied_con (l : List Int) (hl : l.length ≤ 1099511627776) : Con Try.prog 40 [.one (.ro false 1 (l.map eB))] (fun rx rK rt => rx = .c (.ro true 1 (l.map eB)) ∧ rK = [] ∧ rt = 0) := by
  refine Z.con_ofF tabOk 11 Try.f40 _ Try.func40 (by kernel_rfl) rfl rfl rfl rfl ?_
  repeat' ((conv => whnf); first
    | ((with_reducible refine cpyN.mk ?_ ?_ ?_ ?_); (focus (first | (simp; done))); (focus (first | exact one_map2 (fun _ => rfl))); (focus ((try simp only [LN] at *) <;> omega)))
    | ((with_reducible refine Z.mkN_nat ?_ ?_ ?_ ?_); (focus ((try simp only [LN] at *) <;> omega)); (focus ((try simp only [LN] at *) <;> omega)); (focus ((try simp only [LN] at *) <;> omega))))
  all_goals (try (conv => whnf))
  all_goals try (show Nat.ble _ _ = true; rfl)
  all_goals try (exfalso; rename_i hz; cases hz; done)
  all_goals try (exfalso; (try simp only [LN] at *) <;> omega)
  all_goals first
    | ((first | (with_reducible apply Z.retF1)); (focus (exact rfl)); (repeat' (first | exact trivial | (refine Z.frz_oslw (l := l) (f := cB) (ty := 5) (bx := false) rfl ?_ ?_ (fun _ => rfl); (focus (simp; done)); exact copy_rows (by simp) (by simp) (by simp)) | (with_reducible apply Z.frz_one) | apply And.intro)); (all_goals (try exact (fun _ => none))); all_goals (first | (simp; done)))

end Go.Proofs.Ytpnfogckdceiaaa
namespace Go.Proofs.Ytpnfogckdceiaaa
open Go Go.RowKit Wx
set_option linter.unusedVariables false
set_option linter.unusedSimpArgs false
set_option maxHeartbeats 4000000
/-- The bodies of a code's loops. -/
def lbs : Code → List Code
  | .loop b => b :: lbs b
  | .seq a b => lbs a ++ lbs b
  | .cond _ a b => lbs a ++ lbs b
  | .block _ b => lbs b
  | .rangeFunc _ _ a b => lbs a ++ lbs b
  | .scope b => lbs b
  | _ => []
def lbody (f : Func) : Code := ((f.body.map lbs).getD []).headD .skip
def loopPost (R : Z.S → Prop) (Q : Exit → Z.S → Prop) : Exit → Z.S → Prop := fun e s' => match e with
  | .normal => R s'
  | e => Q e s'
abbrev dG := Nat × List Int × List El
abbrev dCH (zq : dG) : Fr := [(22, .val (.int .i64 (zq.1 : Int))), (7, .c (.gsl 6 (zq.2.2.map cE)))]
abbrev dCK (zq : dG) : Z.Kr := [(0, some (Z.Ob.b ⟨[[.ro true 1 (zq.2.1.map eB), .v (.int .i64 0)]], 2, 77, true⟩)), (6, (gB 5 26 (zq.2.2.map cE)).map Z.Ob.b)]
abbrev dFk (N : Nat) : Fr := [(2, .c (.own 4 0 0)), (6, .c (.mpv 5)), (21, .val (.int .i64 (N : Int)))]
abbrev dKk : Z.Kr := [(1, some (Z.Ob.b ⟨[[.own 0 0 0]], 1, 63, true⟩)), (4, some (Z.Ob.b ⟨[[.own 0 0 0]], 1, 63, true⟩)), (5, some (Z.Ob.m ⟨[(Value.int .u8 1, 0, A0.one (Ce.mf 42 [Pt.ag [Pa.own 0 0 0]])), (Value.int .u8 2, 1, A0.one (Ce.mf 43 [Pt.ag [Pa.own 0 0 0]])), (Value.int .u8 3, 2, A0.one (Ce.mf 44 [Pt.ag [Pa.own 0 0 0]]))], 3⟩))]
/-- What was read so far, and what is to be read yet. -/
def preD (acc : List El) (x : List El × Int × List Int) : List El × Int × List Int := if x.2.1 = 0 then (acc ++ x.1, 0, x.2.2) else ([], x.2.1, [])
abbrev dInv (b : List Int) (N : Nat) (zq : dG) : Prop := zq.1 ≤ N ∧ (isB zq.2.1 ∧ zq.2.1.length ≤ 1099511627776) ∧ zq.2.2.length = zq.1 ∧ decN N b = preD zq.2.2 (decN (N - zq.1) zq.2.1)
abbrev dRnd (b : List Int) (N : Nat) (p : dG) (s' : Z.S) : Prop := Z.rndZ 4 (fun zq => (⟨dCH zq ++ dFk N, dCK zq ++ dKk, 7⟩ : Z.S)) (dInv b N) (fun zq => N - zq.1) p s'
theorem preD_step {acc : List El} {n : Nat} {b : List Int} {e : El} {r : List Int} (h : dec1 b = (e, 0, r)) : preD acc (decN (n + 1) b) = preD (acc ++ [e]) (decN n r) := by
  unfold preD
  simp only [decN, h, if_true]
  by_cases h2 : (decN n r).2.1 = 0
  · simp [h2]
  · simp [h2]
theorem preD_bad {acc : List El} {n : Nat} {b : List Int} {er : Int} (h : (dec1 b).2.1 = er) (h0 : er ≠ 0) : preD acc (decN (n + 1) b) = ([], er, []) := by
  unfold preD
  simp only [decN, h, if_neg h0]
theorem isB_take {l : List Int} {n : Nat} (h : isB l) : isB (l.take n) := fun b hb => h b (List.mem_of_mem_take hb)
theorem isB_drop {l : List Int} {n : Nat} (h : isB l) : isB (l.drop n) := fun b hb => h b (List.mem_of_mem_drop hb)
theorem dec1_b {r : List Int} (h4 : 8 ≤ r.length) (h5 : 1 ≤ numR (r.take 8) ∧ numR (r.take 8) ≤ 4611686018427387904) : dec1 (2 :: r) = (⟨2, 0, 0, 0, numR (r.take 8)⟩, 0, r.drop 8) := by
  unfold dec1
  simp only [show (2 : Int) ≠ 1 by decide, if_false, if_true]
  rw [if_neg (by omega), if_pos h5]
theorem dec1_r {r : List Int} {s k : Int} (hs : s < 8) (hk : k < 32) (h4 : 8 ≤ r.length) : dec1 (1 :: s :: k :: r) = (⟨1, s, k, IntKind.i64.wrap (numR (r.take 8)), 0⟩, 0, r.drop 8) := by
  unfold dec1
  simp only [if_true]
  rw [if_neg (by omega), if_neg (by omega), if_neg (by omega)]
theorem rest_at {R : List (List RT)} {l : List Int} {j : Nat} {z : Int} (hR : R = l.map eB) (h : l[j]? = some z) : R[j]? = some (eB z) := by
  rw [hR, List.getElem?_map, h]; rfl
theorem same_nw {k a : Int} : Instr.sameNow (.int .u8) (.int .u8 k) (.int .u8 a) = some (decide (k = a)) := by
  simp only [Instr.sameNow, if_true]; congr 1
theorem lookN_none {kd : Int} {z : Value} {a b c : A0} {n1 n2 n3 n4 : Nat} {A : A0 → Bool → Prop} (h1 : kd ≠ 1) (h2 : kd ≠ 2) (h3 : kd ≠ 3) (h : A (Y.zeroA z) false) : Z.lookN .u8 z ⟨[(Value.int .u8 1, n1, a), (Value.int .u8 2, n2, b), (Value.int .u8 3, n3, c)], n4⟩ kd A :=
  ⟨_, _, by simp [Y.lookM, Y.posE, same_nw, h1, h2, h3], h⟩
theorem pow_le7 {j : Nat} (h : j ≤ 7) : (256 : Int) ^ j ≤ 256 ^ 7 := by
  have : ∀ j : Fin 8, (256 : Int) ^ j.1 ≤ 256 ^ 7 := by decide
  exact this ⟨j, by omega⟩
theorem num_lt {l : List Int} {i : Nat} (hi : i < 8) (hl : i ≤ l.length) (hB : isB l) : 0 ≤ numR (l.take i) ∧ numR (l.take i) < 72057594037927936 := by
  have h1 := numR_lt (n := i) (l := l.take i) (by simp; omega) (isB_take hB)
  have h2 := pow_le7 (j := i) (by omega)
  have h3 : (256 : Int) ^ 7 = 72057594037927936 := by decide
  rw [h3] at h2
  exact ⟨h1.1, Int.lt_of_lt_of_le h1.2 h2⟩
end Go.Proofs.Ytpnfogckdceiaaa
namespace Go.Proofs.Ytpnfogckdceiaaa
open Go Go.RowKit Wx
set_option linter.unusedVariables false
set_option linter.unusedSimpArgs false
set_option maxHeartbeats 40000000
theorem dec_e (b : List Int) (N i : Nat) (acc : List El)  (hB : isB []) (hL : ([] : List Int).length ≤ 1099511627776) (HC : acc.length = i) (HD : decN N b = preD acc (decN (N - i) [])) (hi : i < N) (hN : N ≤ 200)  {Q : Exit → Z.S → Prop} (hQ : ∀ F' K' t', Wx.get F' 4 = some (.val (.slice none 0 0)) → Wx.get F' 5 = some (.val (.int .i64 7)) → Q .ret ⟨F', K', t'⟩) : Z.codeZ Try.prog tab 56 4 none (lbody Try.f34) ⟨dCH (i, [], acc) ++ dFk N, dCK (i, [], acc) ++ dKk, 7⟩ (loopPost (dRnd b N (i, [], acc)) Q) := by
  dsimp only [dCH, dFk, dCK, dKk, dRnd]
  repeat' ((conv => whnf); first
    | with_reducible first | refine spB_t ?_
    | ((with_reducible apply spB_cong); (focus (simp only [beq_self_eq_true, bne_self_eq_false, Bool.true_bne, Bool.false_bne, Bool.bne_true, Bool.bne_false, Bool.true_beq, Bool.false_beq, Bool.not_true, Bool.not_false, Bool.not_not, Int.reduceBEq, Int.reduceBNe, Int.reduceLE, Int.reduceLT, Int.reduceEq, decide_true, decide_false]; rfl)))
    | with_reducible first | refine spB_yes (by decide) ?_ | refine spB_no (by decide) ?_
    | (with_reducible refine spB_dec ?_ ?_ <;> intro _ <;> (try (exfalso; first | contradiction | omega | (rename_i hz; refine hz ?_; simp; done) | (rename_i hz; simp at hz; done) | (simp only [LN] at *; omega))))
    | with_reducible refine wr_u8 (by omega) ?_
    | with_reducible first | refine Z.callZ_in tabOk 10 Try.f35 _ Try.func35 (by kernel_rfl) rfl rfl rfl ?_ | refine Z.callZ_in tabOk 10 Try.f41 _ Try.func41 (by kernel_rfl) rfl rfl rfl ?_ | refine Z.callZ_in tabOk 58 Try.f46 _ Try.func46 (by kernel_rfl) rfl rfl rfl ?_ | refine Z.callZ_in tabOk 6 Try.f33 _ Try.func33 (by kernel_rfl) rfl rfl rfl ?_
    | ((with_reducible apply ex_and); exact rfl))
  all_goals (try (conv => whnf))
  all_goals try (show Nat.ble _ _ = true; rfl)
  all_goals try (exfalso; rename_i hz; cases hz; done)
  all_goals try (exfalso; (try simp only [LN] at *) <;> omega)
  all_goals first
    | exact hQ _ _ _ rfl rfl
end Go.Proofs.Ytpnfogckdceiaaa
namespace Go.Proofs.Ytpnfogckdceiaaa
open Go Go.RowKit Wx
set_option linter.unusedVariables false
set_option linter.unusedSimpArgs false
set_option maxHeartbeats 40000000
theorem dec_x (b : List Int) (N i : Nat) (acc : List El) (kd : Int) (r : List Int) (hB : isB (kd :: r)) (hL : ((kd :: r) : List Int).length ≤ 1099511627776) (HC : acc.length = i) (HD : decN N b = preD acc (decN (N - i) (kd :: r))) (hi : i < N) (hN : N ≤ 200) (hk1 : kd ≠ 1) (hk2 : kd ≠ 2) (hk3 : kd ≠ 3) {Q : Exit → Z.S → Prop} (hQ : ∀ F' K' t', Wx.get F' 4 = some (.val (.slice none 0 0)) → Wx.get F' 5 = some (.val (.int .i64 151)) → Q .ret ⟨F', K', t'⟩) : Z.codeZ Try.prog tab 56 4 none (lbody Try.f34) ⟨dCH (i, (kd :: r), acc) ++ dFk N, dCK (i, (kd :: r), acc) ++ dKk, 7⟩ (loopPost (dRnd b N (i, (kd :: r), acc)) Q) := by
  dsimp only [dCH, dFk, dCK, dKk, dRnd]
  have hb_kd := hB kd (by simp)
  have hBr : isB r := fun x hx => hB x (by simp [hx])
  repeat' ((conv => whnf); first
    | with_reducible first | refine spB_t ?_
    | ((with_reducible apply spB_cong); (focus (simp only [beq_self_eq_true, bne_self_eq_false, Bool.true_bne, Bool.false_bne, Bool.bne_true, Bool.bne_false, Bool.true_beq, Bool.false_beq, Bool.not_true, Bool.not_false, Bool.not_not, Int.reduceBEq, Int.reduceBNe, Int.reduceLE, Int.reduceLT, Int.reduceEq, decide_true, decide_false]; rfl)))
    | with_reducible first | refine spB_no (by decide) ?_
    | (with_reducible refine spB_dec ?_ ?_ <;> intro _ <;> (try (exfalso; first | contradiction | omega | (rename_i hz; refine hz ?_; simp; done) | (rename_i hz; simp at hz; done) | (simp only [LN] at *; omega))))
    | ((refine sl3N_mk 0 1 1 rfl rfl rfl ?_ ?_ ?_ ?_ ?_); (iterate 4 (focus (first | exact .inl rfl | ((try simp only [LN] at *) <;> omega)))))
    | ((with_reducible refine Z.slN_lo 1 ?_ ?_ ?_); (focus rfl); (focus ((try simp only [LN] at *) <;> omega)))
    | (refine loopZ_unr1 tabOk rfl ?_)
    | ((with_reducible refine wr_shl8 ?_ ?_); (focus omega))
    | ((with_reducible refine wr_or0 ?_ ?_); (focus omega))
    | with_reducible first | refine rowN_mk _ rfl ?_
    | (refine lookN_none hk1 hk2 hk3 ?_)
    | ((with_reducible apply ixN_lit); (focus (exact rfl)); (focus (exact rfl)))
    | ((with_reducible refine eqN_mk2 ?_ ?_); (focus rfl))
    | with_reducible refine wr_i64 (by first | omega | (simp only [LN] at *; omega)) ?_
    | with_reducible refine wr_u64 (by omega) ?_
    | with_reducible first | refine Z.callZ_in tabOk 18 Try.f47 _ Try.func47 (by kernel_rfl) rfl rfl rfl ?_ | refine Z.callZ_in tabOk 10 Try.f35 _ Try.func35 (by kernel_rfl) rfl rfl rfl ?_ | refine Z.callZ_in tabOk 10 Try.f41 _ Try.func41 (by kernel_rfl) rfl rfl rfl ?_ | refine Z.callZ_in tabOk 58 Try.f46 _ Try.func46 (by kernel_rfl) rfl rfl rfl ?_ | refine Z.callZ_in tabOk 6 Try.f33 _ Try.func33 (by kernel_rfl) rfl rfl rfl ?_
    | ((with_reducible apply ex_and); exact rfl)
    | with_reducible first | refine Z.drawZ_rule tabOk mixOk ?_ | refine Z.apZ_mk (by kernel_rfl) ?_)
  all_goals (try (conv => whnf))
  all_goals try (show Nat.ble _ _ = true; rfl)
  all_goals try (exfalso; rename_i hz; cases hz; done)
  all_goals try (exfalso; (try simp only [LN] at *) <;> omega)
  all_goals first
    | exact hQ _ _ _ rfl rfl
end Go.Proofs.Ytpnfogckdceiaaa
namespace Go.Proofs.Ytpnfogckdceiaaa
open Go Go.RowKit Wx
set_option linter.unusedVariables false
set_option linter.unusedSimpArgs false
set_option maxHeartbeats 40000000
theorem dec_r0 (b : List Int) (N i : Nat) (acc : List El)  (hB : isB [1]) (hL : ([1] : List Int).length ≤ 1099511627776) (HC : acc.length = i) (HD : decN N b = preD acc (decN (N - i) [1])) (hi : i < N) (hN : N ≤ 200)  {Q : Exit → Z.S → Prop} (hQ : ∀ F' K' t', Wx.get F' 4 = some (.val (.slice none 0 0)) → Wx.get F' 5 = some (.val (.int .i64 7)) → Q .ret ⟨F', K', t'⟩) : Z.codeZ Try.prog tab 56 4 none (lbody Try.f34) ⟨dCH (i, [1], acc) ++ dFk N, dCK (i, [1], acc) ++ dKk, 7⟩ (loopPost (dRnd b N (i, [1], acc)) Q) := by
  dsimp only [dCH, dFk, dCK, dKk, dRnd]
  repeat' ((conv => whnf); first
    | with_reducible first | refine spB_t ?_
    | ((with_reducible apply spB_cong); (focus (simp only [beq_self_eq_true, bne_self_eq_false, Bool.true_bne, Bool.false_bne, Bool.bne_true, Bool.bne_false, Bool.true_beq, Bool.false_beq, Bool.not_true, Bool.not_false, Bool.not_not, Int.reduceBEq, Int.reduceBNe, Int.reduceLE, Int.reduceLT, Int.reduceEq, decide_true, decide_false]; rfl)))
    | with_reducible first | refine spB_yes (by decide) ?_ | refine spB_no (by decide) ?_
    | (with_reducible refine spB_dec ?_ ?_ <;> intro _ <;> (try (exfalso; first | contradiction | omega | (rename_i hz; refine hz ?_; simp; done) | (rename_i hz; simp at hz; done) | (simp only [LN] at *; omega))))
    | (refine Z.lookN.mk ⟨_, _, rfl, ?_⟩)
    | with_reducible first | refine Z.callZ_mfa ?_
    | ((refine sl3N_mk 0 1 1 rfl rfl rfl ?_ ?_ ?_ ?_ ?_); (iterate 4 (focus (first | exact .inl rfl | ((try simp only [LN] at *) <;> omega)))))
    | ((with_reducible refine Z.slN_lo 1 ?_ ?_ ?_); (focus rfl); (focus ((try simp only [LN] at *) <;> omega)))
    | (refine loopZ_unr1 tabOk rfl ?_)
    | ((with_reducible refine wr_shl8 ?_ ?_); (focus omega))
    | ((with_reducible refine wr_or0 ?_ ?_); (focus omega))
    | with_reducible first | refine rowN_mk _ rfl ?_
    | ((with_reducible apply ixN_lit); (focus (exact rfl)); (focus (exact rfl)))
    | ((with_reducible refine eqN_mk2 ?_ ?_); (focus rfl))
    | with_reducible refine wr_i64 (by first | omega | (simp only [LN] at *; omega)) ?_
    | with_reducible refine wr_u64 (by omega) ?_
    | with_reducible refine wr_u8 (by omega) ?_
    | with_reducible first | refine Z.callZ_in tabOk 38 Try.f42 _ Try.func42 (by kernel_rfl) rfl rfl rfl ?_ | refine Z.callZ_in tabOk 18 Try.f47 _ Try.func47 (by kernel_rfl) rfl rfl rfl ?_ | refine Z.callZ_in tabOk 10 Try.f35 _ Try.func35 (by kernel_rfl) rfl rfl rfl ?_ | refine Z.callZ_in tabOk 10 Try.f41 _ Try.func41 (by kernel_rfl) rfl rfl rfl ?_ | refine Z.callZ_in tabOk 58 Try.f46 _ Try.func46 (by kernel_rfl) rfl rfl rfl ?_ | refine Z.callZ_in tabOk 18 Try.f48 _ Try.func48 (by kernel_rfl) rfl rfl rfl ?_ | refine Z.callZ_in tabOk 6 Try.f33 _ Try.func33 (by kernel_rfl) rfl rfl rfl ?_
    | ((with_reducible apply ex_and); exact rfl)
    | with_reducible first | refine Z.drawZ_rule tabOk mixOk ?_ | refine Z.apZ_mk (by kernel_rfl) ?_)
  all_goals (try (conv => whnf))
  all_goals try (show Nat.ble _ _ = true; rfl)
  all_goals try (exfalso; rename_i hz; cases hz; done)
  all_goals try (exfalso; (try simp only [LN] at *) <;> omega)
  all_goals first
    | exact hQ _ _ _ rfl rfl
end Go.Proofs.Ytpnfogckdceiaaa
namespace Go.Proofs.Ytpnfogckdceiaaa
open Go Go.RowKit Wx
set_option linter.unusedVariables false
set_option linter.unusedSimpArgs false
set_option maxHeartbeats 40000000
theorem dec_r1 (b : List Int) (N i : Nat) (acc : List El) (s : Int) (r : List Int) (hB : isB (1 :: s :: r)) (hL : ((1 :: s :: r) : List Int).length ≤ 1099511627776) (HC : acc.length = i) (HD : decN N b = preD acc (decN (N - i) (1 :: s :: r))) (hi : i < N) (hN : N ≤ 200) (hs : 8 ≤ s) {Q : Exit → Z.S → Prop} (hQ : ∀ F' K' t', Wx.get F' 4 = some (.val (.slice none 0 0)) → Wx.get F' 5 = some (.val (.int .i64 151)) → Q .ret ⟨F', K', t'⟩) : Z.codeZ Try.prog tab 56 4 none (lbody Try.f34) ⟨dCH (i, (1 :: s :: r), acc) ++ dFk N, dCK (i, (1 :: s :: r), acc) ++ dKk, 7⟩ (loopPost (dRnd b N (i, (1 :: s :: r), acc)) Q) := by
  dsimp only [dCH, dFk, dCK, dKk, dRnd]
  have hb_s := hB s (by simp)
  have hBr : isB r := fun x hx => hB x (by simp [hx])
  repeat' ((conv => whnf); first
    | with_reducible first | refine spB_t ?_
    | ((with_reducible apply spB_cong); (focus (simp only [beq_self_eq_true, bne_self_eq_false, Bool.true_bne, Bool.false_bne, Bool.bne_true, Bool.bne_false, Bool.true_beq, Bool.false_beq, Bool.not_true, Bool.not_false, Bool.not_not, Int.reduceBEq, Int.reduceBNe, Int.reduceLE, Int.reduceLT, Int.reduceEq, decide_true, decide_false]; rfl)))
    | with_reducible first | refine spB_no (by decide) ?_
    | (with_reducible refine spB_dec ?_ ?_ <;> intro _ <;> (try (exfalso; first | contradiction | omega | (rename_i hz; refine hz ?_; simp; done) | (rename_i hz; simp at hz; done) | (simp only [LN] at *; omega))))
    | (refine Z.lookN.mk ⟨_, _, rfl, ?_⟩)
    | with_reducible first | refine Z.callZ_mfa ?_
    | ((refine sl3N_mk 0 1 1 rfl rfl rfl ?_ ?_ ?_ ?_ ?_); (iterate 4 (focus (first | exact .inl rfl | ((try simp only [LN] at *) <;> omega)))))
    | ((with_reducible refine Z.slN_lo 1 ?_ ?_ ?_); (focus rfl); (focus ((try simp only [LN] at *) <;> omega)))
    | (refine loopZ_unr1 tabOk rfl ?_)
    | ((with_reducible refine wr_shl8 ?_ ?_); (focus omega))
    | ((with_reducible refine wr_or0 ?_ ?_); (focus omega))
    | with_reducible first | refine rowN_mk _ rfl ?_
    | ((with_reducible apply ixN_lit); (focus (exact rfl)); (focus (exact rfl)))
    | ((with_reducible refine eqN_mk2 ?_ ?_); (focus rfl))
    | with_reducible refine wr_i64 (by first | omega | (simp only [LN] at *; omega)) ?_
    | with_reducible refine wr_u64 (by omega) ?_
    | with_reducible first | refine Z.callZ_in tabOk 38 Try.f42 _ Try.func42 (by kernel_rfl) rfl rfl rfl ?_ | refine Z.callZ_in tabOk 18 Try.f47 _ Try.func47 (by kernel_rfl) rfl rfl rfl ?_ | refine Z.callZ_in tabOk 10 Try.f35 _ Try.func35 (by kernel_rfl) rfl rfl rfl ?_ | refine Z.callZ_in tabOk 10 Try.f41 _ Try.func41 (by kernel_rfl) rfl rfl rfl ?_ | refine Z.callZ_in tabOk 58 Try.f46 _ Try.func46 (by kernel_rfl) rfl rfl rfl ?_ | refine Z.callZ_in tabOk 18 Try.f48 _ Try.func48 (by kernel_rfl) rfl rfl rfl ?_ | refine Z.callZ_in tabOk 6 Try.f33 _ Try.func33 (by kernel_rfl) rfl rfl rfl ?_
    | ((with_reducible apply ex_and); exact rfl)
    | with_reducible first | refine Z.drawZ_rule tabOk mixOk ?_ | refine Z.apZ_mk (by kernel_rfl) ?_)
  all_goals (try (conv => whnf))
  all_goals try (show Nat.ble _ _ = true; rfl)
  all_goals try (exfalso; rename_i hz; cases hz; done)
  all_goals try (exfalso; (try simp only [LN] at *) <;> omega)
  all_goals first
    | exact hQ _ _ _ rfl rfl
end Go.Proofs.Ytpnfogckdceiaaa
namespace Go.Proofs.Ytpnfogckdceiaaa
open Go Go.RowKit Wx
set_option linter.unusedVariables false
set_option linter.unusedSimpArgs false
set_option maxHeartbeats 40000000
theorem dec_r2 (b : List Int) (N i : Nat) (acc : List El) (s : Int) (hB : isB [1, s]) (hL : ([1, s] : List Int).length ≤ 1099511627776) (HC : acc.length = i) (HD : decN N b = preD acc (decN (N - i) [1, s])) (hi : i < N) (hN : N ≤ 200) (hs : 0 ≤ s ∧ s < 8) {Q : Exit → Z.S → Prop} (hQ : ∀ F' K' t', Wx.get F' 4 = some (.val (.slice none 0 0)) → Wx.get F' 5 = some (.val (.int .i64 7)) → Q .ret ⟨F', K', t'⟩) : Z.codeZ Try.prog tab 56 4 none (lbody Try.f34) ⟨dCH (i, [1, s], acc) ++ dFk N, dCK (i, [1, s], acc) ++ dKk, 7⟩ (loopPost (dRnd b N (i, [1, s], acc)) Q) := by
  dsimp only [dCH, dFk, dCK, dKk, dRnd]
  have hb_s := hB s (by simp)
  repeat' ((conv => whnf); first
    | with_reducible first | refine spB_t ?_
    | ((with_reducible apply spB_cong); (focus (simp only [beq_self_eq_true, bne_self_eq_false, Bool.true_bne, Bool.false_bne, Bool.bne_true, Bool.bne_false, Bool.true_beq, Bool.false_beq, Bool.not_true, Bool.not_false, Bool.not_not, Int.reduceBEq, Int.reduceBNe, Int.reduceLE, Int.reduceLT, Int.reduceEq, decide_true, decide_false]; rfl)))
    | with_reducible first | refine spB_no (by decide) ?_
    | (with_reducible refine spB_dec ?_ ?_ <;> intro _ <;> (try (exfalso; first | contradiction | omega | (rename_i hz; refine hz ?_; simp; done) | (rename_i hz; simp at hz; done) | (simp only [LN] at *; omega))))
    | (refine Z.lookN.mk ⟨_, _, rfl, ?_⟩)
    | with_reducible first | refine Z.callZ_mfa ?_
    | ((refine sl3N_mk 0 1 1 rfl rfl rfl ?_ ?_ ?_ ?_ ?_); (iterate 4 (focus (first | exact .inl rfl | ((try simp only [LN] at *) <;> omega)))))
    | ((with_reducible refine Z.slN_lo 1 ?_ ?_ ?_); (focus rfl); (focus ((try simp only [LN] at *) <;> omega)))
    | (refine loopZ_unr1 tabOk rfl ?_)
    | ((with_reducible refine wr_shl8 ?_ ?_); (focus omega))
    | ((with_reducible refine wr_or0 ?_ ?_); (focus omega))
    | with_reducible first | refine rowN_mk _ rfl ?_
    | ((with_reducible apply ixN_lit); (focus (exact rfl)); (focus (exact rfl)))
    | ((with_reducible refine eqN_mk2 ?_ ?_); (focus rfl))
    | with_reducible refine wr_i64 (by first | omega | (simp only [LN] at *; omega)) ?_
    | with_reducible refine wr_u64 (by omega) ?_
    | with_reducible refine wr_u8 (by omega) ?_
    | with_reducible first | refine Z.callZ_in tabOk 38 Try.f42 _ Try.func42 (by kernel_rfl) rfl rfl rfl ?_ | refine Z.callZ_in tabOk 18 Try.f47 _ Try.func47 (by kernel_rfl) rfl rfl rfl ?_ | refine Z.callZ_in tabOk 10 Try.f35 _ Try.func35 (by kernel_rfl) rfl rfl rfl ?_ | refine Z.callZ_in tabOk 10 Try.f41 _ Try.func41 (by kernel_rfl) rfl rfl rfl ?_ | refine Z.callZ_in tabOk 58 Try.f46 _ Try.func46 (by kernel_rfl) rfl rfl rfl ?_ | refine Z.callZ_in tabOk 18 Try.f48 _ Try.func48 (by kernel_rfl) rfl rfl rfl ?_ | refine Z.callZ_in tabOk 6 Try.f33 _ Try.func33 (by kernel_rfl) rfl rfl rfl ?_
    | ((with_reducible apply ex_and); exact rfl)
    | with_reducible first | refine Z.drawZ_rule tabOk mixOk ?_ | refine Z.apZ_mk (by kernel_rfl) ?_)
  all_goals (try (conv => whnf))
  all_goals try (show Nat.ble _ _ = true; rfl)
  all_goals try (exfalso; rename_i hz; cases hz; done)
  all_goals try (exfalso; (try simp only [LN] at *) <;> omega)
  all_goals first
    | exact hQ _ _ _ rfl rfl
end Go.Proofs.Ytpnfogckdceiaaa
namespace Go.Proofs.Ytpnfogckdceiaaa
open Go Go.RowKit Wx
set_option linter.unusedVariables false
set_option linter.unusedSimpArgs false
set_option maxHeartbeats 40000000
theorem dec_r3 (b : List Int) (N i : Nat) (acc : List El) (s k : Int) (r : List Int) (hB : isB (1 :: s :: k :: r)) (hL : ((1 :: s :: k :: r) : List Int).length ≤ 1099511627776) (HC : acc.length = i) (HD : decN N b = preD acc (decN (N - i) (1 :: s :: k :: r))) (hi : i < N) (hN : N ≤ 200) (hs : 0 ≤ s ∧ s < 8) (hk : 32 ≤ k) {Q : Exit → Z.S → Prop} (hQ : ∀ F' K' t', Wx.get F' 4 = some (.val (.slice none 0 0)) → Wx.get F' 5 = some (.val (.int .i64 151)) → Q .ret ⟨F', K', t'⟩) : Z.codeZ Try.prog tab 56 4 none (lbody Try.f34) ⟨dCH (i, (1 :: s :: k :: r), acc) ++ dFk N, dCK (i, (1 :: s :: k :: r), acc) ++ dKk, 7⟩ (loopPost (dRnd b N (i, (1 :: s :: k :: r), acc)) Q) := by
  dsimp only [dCH, dFk, dCK, dKk, dRnd]
  have hb_s := hB s (by simp)
  have hb_k := hB k (by simp)
  have hBr : isB r := fun x hx => hB x (by simp [hx])
  repeat' ((conv => whnf); first
    | with_reducible first | refine spB_t ?_
    | ((with_reducible apply spB_cong); (focus (simp only [beq_self_eq_true, bne_self_eq_false, Bool.true_bne, Bool.false_bne, Bool.bne_true, Bool.bne_false, Bool.true_beq, Bool.false_beq, Bool.not_true, Bool.not_false, Bool.not_not, Int.reduceBEq, Int.reduceBNe, Int.reduceLE, Int.reduceLT, Int.reduceEq, decide_true, decide_false]; rfl)))
    | with_reducible first | refine spB_no (by decide) ?_
    | (with_reducible refine spB_dec ?_ ?_ <;> intro _ <;> (try (exfalso; first | contradiction | omega | (rename_i hz; refine hz ?_; simp; done) | (rename_i hz; simp at hz; done) | (simp only [LN] at *; omega))))
    | (refine Z.lookN.mk ⟨_, _, rfl, ?_⟩)
    | with_reducible first | refine Z.callZ_mfa ?_
    | ((refine sl3N_mk 0 1 1 rfl rfl rfl ?_ ?_ ?_ ?_ ?_); (iterate 4 (focus (first | exact .inl rfl | ((try simp only [LN] at *) <;> omega)))))
    | ((with_reducible refine Z.slN_lo 1 ?_ ?_ ?_); (focus rfl); (focus ((try simp only [LN] at *) <;> omega)))
    | (refine loopZ_unr1 tabOk rfl ?_)
    | ((with_reducible refine wr_shl8 ?_ ?_); (focus omega))
    | ((with_reducible refine wr_or0 ?_ ?_); (focus omega))
    | with_reducible first | refine rowN_mk _ rfl ?_
    | ((with_reducible apply ixN_lit); (focus (exact rfl)); (focus (exact rfl)))
    | ((with_reducible refine eqN_mk2 ?_ ?_); (focus rfl))
    | with_reducible refine wr_i64 (by first | omega | (simp only [LN] at *; omega)) ?_
    | with_reducible refine wr_u64 (by omega) ?_
    | with_reducible first | refine Z.callZ_in tabOk 38 Try.f42 _ Try.func42 (by kernel_rfl) rfl rfl rfl ?_ | refine Z.callZ_in tabOk 18 Try.f47 _ Try.func47 (by kernel_rfl) rfl rfl rfl ?_ | refine Z.callZ_in tabOk 10 Try.f35 _ Try.func35 (by kernel_rfl) rfl rfl rfl ?_ | refine Z.callZ_in tabOk 10 Try.f41 _ Try.func41 (by kernel_rfl) rfl rfl rfl ?_ | refine Z.callZ_in tabOk 58 Try.f46 _ Try.func46 (by kernel_rfl) rfl rfl rfl ?_ | refine Z.callZ_in tabOk 18 Try.f48 _ Try.func48 (by kernel_rfl) rfl rfl rfl ?_ | refine Z.callZ_in tabOk 6 Try.f33 _ Try.func33 (by kernel_rfl) rfl rfl rfl ?_
    | ((with_reducible apply ex_and); exact rfl)
    | with_reducible first | refine Z.drawZ_rule tabOk mixOk ?_ | refine Z.apZ_mk (by kernel_rfl) ?_)
  all_goals (try (conv => whnf))
  all_goals try (show Nat.ble _ _ = true; rfl)
  all_goals try (exfalso; rename_i hz; cases hz; done)
  all_goals try (exfalso; (try simp only [LN] at *) <;> omega)
  all_goals first
    | exact hQ _ _ _ rfl rfl
end Go.Proofs.Ytpnfogckdceiaaa
namespace Go.Proofs.Ytpnfogckdceiaaa
open Go Go.RowKit Wx
set_option linter.unusedVariables false
set_option linter.unusedSimpArgs false
set_option maxHeartbeats 40000000
theorem dec_r4 (b : List Int) (N i : Nat) (acc : List El) (s k : Int) (r : List Int) (hB : isB (1 :: s :: k :: r)) (hL : ((1 :: s :: k :: r) : List Int).length ≤ 1099511627776) (HC : acc.length = i) (HD : decN N b = preD acc (decN (N - i) (1 :: s :: k :: r))) (hi : i < N) (hN : N ≤ 200) (hs : 0 ≤ s ∧ s < 8) (hk : 0 ≤ k ∧ k < 32) (h4 : r.length < 8) {Q : Exit → Z.S → Prop} (hQ : ∀ F' K' t', Wx.get F' 4 = some (.val (.slice none 0 0)) → Wx.get F' 5 = some (.val (.int .i64 7)) → Q .ret ⟨F', K', t'⟩) : Z.codeZ Try.prog tab 56 4 none (lbody Try.f34) ⟨dCH (i, (1 :: s :: k :: r), acc) ++ dFk N, dCK (i, (1 :: s :: k :: r), acc) ++ dKk, 7⟩ (loopPost (dRnd b N (i, (1 :: s :: k :: r), acc)) Q) := by
  dsimp only [dCH, dFk, dCK, dKk, dRnd]
  have hb_s := hB s (by simp)
  have hb_k := hB k (by simp)
  have hBr : isB r := fun x hx => hB x (by simp [hx])
  repeat' ((conv => whnf); first
    | with_reducible first | refine spB_t ?_
    | ((with_reducible apply spB_cong); (focus (simp only [beq_self_eq_true, bne_self_eq_false, Bool.true_bne, Bool.false_bne, Bool.bne_true, Bool.bne_false, Bool.true_beq, Bool.false_beq, Bool.not_true, Bool.not_false, Bool.not_not, Int.reduceBEq, Int.reduceBNe, Int.reduceLE, Int.reduceLT, Int.reduceEq, decide_true, decide_false]; rfl)))
    | with_reducible first | refine spB_no (by decide) ?_
    | (with_reducible refine spB_dec ?_ ?_ <;> intro _ <;> (try (exfalso; first | contradiction | omega | (rename_i hz; refine hz ?_; simp; done) | (rename_i hz; simp at hz; done) | (simp only [LN] at *; omega))))
    | (refine Z.lookN.mk ⟨_, _, rfl, ?_⟩)
    | with_reducible first | refine Z.callZ_mfa ?_
    | ((refine sl3N_mk 0 1 1 rfl rfl rfl ?_ ?_ ?_ ?_ ?_); (iterate 4 (focus (first | exact .inl rfl | ((try simp only [LN] at *) <;> omega)))))
    | ((with_reducible refine Z.slN_lo 1 ?_ ?_ ?_); (focus rfl); (focus ((try simp only [LN] at *) <;> omega)))
    | (refine loopZ_unr1 tabOk rfl ?_)
    | ((with_reducible refine wr_shl8 ?_ ?_); (focus omega))
    | ((with_reducible refine wr_or0 ?_ ?_); (focus omega))
    | with_reducible first | refine rowN_mk _ rfl ?_
    | ((with_reducible apply ixN_lit); (focus (exact rfl)); (focus (exact rfl)))
    | ((with_reducible refine eqN_mk2 ?_ ?_); (focus rfl))
    | with_reducible refine wr_i64 (by first | omega | (simp only [LN] at *; omega)) ?_
    | with_reducible refine wr_u64 (by omega) ?_
    | with_reducible first | refine Z.callZ_in tabOk 38 Try.f42 _ Try.func42 (by kernel_rfl) rfl rfl rfl ?_ | refine Z.callZ_in tabOk 18 Try.f47 _ Try.func47 (by kernel_rfl) rfl rfl rfl ?_ | refine Z.callZ_in tabOk 10 Try.f35 _ Try.func35 (by kernel_rfl) rfl rfl rfl ?_ | refine Z.callZ_in tabOk 5 Try.f49 _ Try.func49 (by kernel_rfl) rfl rfl rfl ?_ | refine Z.callZ_in tabOk 10 Try.f41 _ Try.func41 (by kernel_rfl) rfl rfl rfl ?_ | refine Z.callZ_in tabOk 58 Try.f46 _ Try.func46 (by kernel_rfl) rfl rfl rfl ?_ | refine Z.callZ_in tabOk 18 Try.f48 _ Try.func48 (by kernel_rfl) rfl rfl rfl ?_ | refine Z.callZ_in tabOk 6 Try.f33 _ Try.func33 (by kernel_rfl) rfl rfl rfl ?_
    | ((with_reducible apply ex_and); exact rfl)
    | with_reducible first | refine Z.drawZ_rule tabOk mixOk ?_ | refine Z.apZ_mk (by kernel_rfl) ?_)
  all_goals (try (conv => whnf))
  all_goals try (show Nat.ble _ _ = true; rfl)
  all_goals try (exfalso; rename_i hz; cases hz; done)
  all_goals try (exfalso; (try simp only [LN] at *) <;> omega)
  all_goals first
    | exact hQ _ _ _ rfl rfl
end Go.Proofs.Ytpnfogckdceiaaa
namespace Go.Proofs.Ytpnfogckdceiaaa
open Go Go.RowKit Wx
set_option linter.unusedVariables false
set_option linter.unusedSimpArgs false
set_option maxHeartbeats 400000000
theorem dec_r5 (b : List Int) (N i : Nat) (acc : List El) (s k : Int) (r : List Int) (hB : isB (1 :: s :: k :: r)) (hL : ((1 :: s :: k :: r) : List Int).length ≤ 1099511627776) (HC : acc.length = i) (HD : decN N b = preD acc (decN (N - i) (1 :: s :: k :: r))) (hi : i < N) (hN : N ≤ 200) (hs : 0 ≤ s ∧ s < 8) (hk : 0 ≤ k ∧ k < 32) (h4 : 8 ≤ r.length) {Q : Exit → Z.S → Prop} : Z.codeZ Try.prog tab 56 4 none (lbody Try.f34) ⟨dCH (i, (1 :: s :: k :: r), acc) ++ dFk N, dCK (i, (1 :: s :: k :: r), acc) ++ dKk, 7⟩ (loopPost (dRnd b N (i, (1 :: s :: k :: r), acc)) Q) := by
  have hd1 : dec1 (1 :: s :: k :: r) = (⟨1, s, k, IntKind.i64.wrap (numR (r.take 8)), 0⟩, 0, (r.drop 8)) := dec1_r hs.2 hk.2 h4
  dsimp only [dCH, dFk, dCK, dKk, dRnd]
  have hb_s := hB s (by simp)
  have hb_k := hB k (by simp)
  have hBr : isB r := fun x hx => hB x (by simp [hx])
  repeat' ((conv => whnf); first
    | with_reducible first | refine spB_t ?_
    | ((with_reducible apply spB_cong); (focus (simp only [beq_self_eq_true, bne_self_eq_false, Bool.true_bne, Bool.false_bne, Bool.bne_true, Bool.bne_false, Bool.true_beq, Bool.false_beq, Bool.not_true, Bool.not_false, Bool.not_not, Int.reduceBEq, Int.reduceBNe, Int.reduceLE, Int.reduceLT, Int.reduceEq, decide_true, decide_false]; rfl)))
    | with_reducible first | refine spB_no (by decide) ?_
    | (with_reducible refine spB_dec ?_ ?_ <;> intro _ <;> (try (exfalso; first | contradiction | omega | (rename_i hz; refine hz ?_; simp; done) | (rename_i hz; simp at hz; done) | (simp only [LN] at *; omega))))
    | (refine Z.lookN.mk ⟨_, _, rfl, ?_⟩)
    | with_reducible first | refine Z.callZ_mfa ?_
    | ((refine sl3N_mk 0 1 1 rfl rfl rfl ?_ ?_ ?_ ?_ ?_); (iterate 4 (focus (first | exact .inl rfl | ((try simp only [LN] at *) <;> omega)))))
    | ((refine sl3N_mk 0 8 8 rfl rfl rfl ?_ ?_ ?_ ?_ ?_); (iterate 4 (focus (first | exact .inl rfl | ((try simp only [LN] at *) <;> omega)))))
    | ((with_reducible refine Z.slN_lo 1 ?_ ?_ ?_); (focus rfl); (focus ((try simp only [LN] at *) <;> omega)))
    | (refine loopZ_unr1 tabOk rfl ?_)
    | ((with_reducible refine wr_shl8 ?_ ?_); (focus omega))
    | ((with_reducible refine wr_or0 ?_ ?_); (focus omega))
    | with_reducible first | refine rowN_mk _ rfl ?_
    | ((with_reducible apply ixN_lit); (focus (exact rfl)); (focus (exact rfl)))
    | ((with_reducible refine eqN_mk2 ?_ ?_); (focus rfl))
    | with_reducible refine wr_i64 (by first | omega | (simp only [LN] at *; omega)) ?_
    | with_reducible refine wr_u64 (by omega) ?_
    | with_reducible first | refine Z.callZ_in tabOk 38 Try.f42 _ Try.func42 (by kernel_rfl) rfl rfl rfl ?_ | refine Z.callZ_in tabOk 18 Try.f47 _ Try.func47 (by kernel_rfl) rfl rfl rfl ?_ | refine Z.callZ_in tabOk 10 Try.f35 _ Try.func35 (by kernel_rfl) rfl rfl rfl ?_ | refine Z.callZ_in tabOk 5 Try.f49 _ Try.func49 (by kernel_rfl) rfl rfl rfl ?_ | refine Z.callZ_in tabOk 10 Try.f41 _ Try.func41 (by kernel_rfl) rfl rfl rfl ?_ | refine Z.callZ_in tabOk 58 Try.f46 _ Try.func46 (by kernel_rfl) rfl rfl rfl ?_ | refine Z.callZ_in tabOk 18 Try.f48 _ Try.func48 (by kernel_rfl) rfl rfl rfl ?_ | refine Z.callZ_in tabOk 6 Try.f33 _ Try.func33 (by kernel_rfl) rfl rfl rfl ?_
    | ((with_reducible apply ex_and); exact rfl)
    | with_reducible first | refine Z.drawZ_rule tabOk mixOk ?_ | refine Z.apZ_mk (by kernel_rfl) ?_)
  all_goals (try (conv => whnf))
  all_goals try (show Nat.ble _ _ = true; rfl)
  all_goals try (exfalso; rename_i hz; cases hz; done)
  all_goals try (exfalso; (try simp only [LN] at *) <;> omega)
  all_goals (
    apply loopQ3
    · intro Q0 hq9
      refine Z.loopK tabOk (fun zq : Nat => [(6, .val (.int .i64 (zq : Int)))]) (fun zq : Nat => ([(18, some (Z.Ob.b ⟨[[.v (.int .u64 (numR ((r.take 8).take zq)))]], 1, 24, true⟩)), (0, some (Z.Ob.b ⟨[[.ro true 1 (r.map eB), .v (.int .i64 0)]], 2, 77, true⟩)), (1, some (Z.Ob.b ⟨[[.own 0 0 0]], 1, 63, true⟩)), (4, some (Z.Ob.b ⟨[[.own 0 0 0]], 1, 63, true⟩)), (5, some (Z.Ob.m ⟨[(Value.int .u8 1, 0, A0.one (Ce.mf 42 [Pt.ag [Pa.own 0 0 0]])), (Value.int .u8 2, 1, A0.one (Ce.mf 43 [Pt.ag [Pa.own 0 0 0]])), (Value.int .u8 3, 2, A0.one (Ce.mf 44 [Pt.ag [Pa.own 0 0 0]]))], 3⟩)), (6, (gB 5 26 (acc.map cE)).map Z.Ob.b), (9, some (Z.Ob.b ⟨[[.own 0 0 0]], 1, 63, true⟩)), (10, some (Z.Ob.b ⟨[[.v (.int .i64 0), .v (.int .i64 0), .v (.int .i64 0), .v (.int .i64 0), .v (.int .u64 0)]], 5, 26, true⟩))] : Z.Kr)) (fun zq => zq ≤ 8) (fun zq => 8 - zq) 0 19 [(0, _), (2, _), (5, _)] ⟨rfl, rfl, rfl, trivial⟩ [] trivial ?_ ?_ rfl rfl (Nat.zero_le _) ?_
      · repeat' (first | exact trivial | apply And.intro | exact ⟨_, rfl, Z.Imp.refl _⟩)
      · repeat' (first | exact trivial | exact (fun b hb => ⟨b, hb, Z.ImpO.refl b⟩) | (intro b hb; cases hb; refine ⟨_, rfl, ⟨rfl, rfl, rfl⟩, ⟨⟨Z.Imp.of_eq (congrArg (Ce.ro true 1) (by simp [tk_map]; done)), Z.Imp.refl _, trivial⟩, trivial⟩⟩; done) | apply And.intro)
      rintro j HINV
      (try dsimp only at HINV); (try dsimp only)
      by_cases hj : j < 8
      · obtain ⟨z9, hzd⟩ := getElem?_some' (xs := (r.take 8)) (i := j) (by simp; omega)
        have hzb := hBr z9 (List.mem_of_mem_take (List.mem_of_getElem? hzd))
        have hnl := num_lt (l := (r.take 8)) (i := j) (by omega) (by simp; omega) (isB_take hBr)
        generalize hnv : numR ((r.take 8).take j) = nv at *
        repeat' ((conv => whnf); first
          | (with_reducible refine spB_dec ?_ ?_ <;> intro _ <;> (try (exfalso; first | contradiction | omega | (rename_i hz; refine hz ?_; simp; done) | (rename_i hz; simp at hz; done) | (simp only [LN] at *; omega))))
          | ((with_reducible refine wr_shl8 ?_ ?_); (focus omega))
          | ((with_reducible refine rowN_mk (eB z9) ?_ ?_); (focus (exact rest_at (by simp [tk_map]; done) hzd)))
          | ((with_reducible refine ixN_mk (j) ?_ ?_ ?_); (focus (first | rfl)); (focus ((try simp only [LN] at *) <;> omega)))
          | ((with_reducible refine eqN_mk2 ?_ ?_); (focus rfl))
          | with_reducible refine wr_i64 (by first | omega | (simp only [LN] at *; omega)) ?_
          | with_reducible refine wr_u64 (by omega) ?_
          | with_reducible first | refine Z.drawZ_rule tabOk mixOk ?_ | refine Z.apZ_mk (by kernel_rfl) ?_)
        all_goals (try (conv => whnf))
        all_goals try (show Nat.ble _ _ = true; rfl)
        all_goals try (exfalso; rename_i hz; cases hz; done)
        all_goals try (exfalso; (try simp only [LN] at *) <;> omega)
        all_goals first
          | ((refine Z.rnd_rw 18 ([[.v (.int .u64 (numR ((r.take 8).take (j + 1))))]]) rfl rfl ?_ ?_); (focus (rw [take_snoc hzd, numR_snoc, hnv]; exact congrArg (fun z => [[Ce.v (.int .u64 z)]]) (or_add hnl hzb))); ((refine Z.rndK ((j + 1)) (fun s => [0, 1, 2, 3, 4, 5, 6, 7, 8, 9, 10, 11, 12, 13, 14, 15, 16, 17, 18]) rfl rfl rfl rfl ?_ ?_ ?_ ?_); (focus (repeat' (first | exact trivial | exact rfl | apply And.intro))); (focus (repeat' (first | exact trivial | (intro b hb; cases hb; rfl) | exact Z.gB_sub rfl rfl (ren_map fun _ => rfl) | apply And.intro))); (focus (((try dsimp only); omega))); ((try dsimp only); omega)))
      have hj8 : j = 8 := by omega
      repeat' ((conv => whnf); first
        | (with_reducible refine spB_dec ?_ ?_ <;> intro _ <;> (try (exfalso; first | contradiction | omega | (rename_i hz; refine hz ?_; simp; done) | (rename_i hz; simp at hz; done) | (simp only [LN] at *; omega)))))
      all_goals (try (conv => whnf))
      subst hj8
      exact hq9
    rw [show (r.take 8).take 8 = r.take 8 from List.take_of_length_le (List.length_take_le ..)]
    generalize hnv9 : numR (r.take 8) = v9 at *
    repeat' ((conv => whnf); first
      | ((with_reducible apply spB_cong); (focus (simp only [beq_self_eq_true, bne_self_eq_false, Bool.true_bne, Bool.false_bne, Bool.bne_true, Bool.bne_false, Bool.true_beq, Bool.false_beq, Bool.not_true, Bool.not_false, Bool.not_not, Int.reduceBEq, Int.reduceBNe, Int.reduceLE, Int.reduceLT, Int.reduceEq, decide_true, decide_false]; rfl)))
      | with_reducible first | refine spB_no (by decide) ?_
      | ((with_reducible refine Z.slN_lo 8 ?_ ?_ ?_); (focus rfl); (focus ((try simp only [LN] at *) <;> omega)))
      | (refine wr_mk (IntKind.i64.wrap (v9)) rfl ?_)
      | ((with_reducible refine posE_pos ?_ ?_); (focus ((try simp only [LN] at *) <;> omega)))
      | ((with_reducible refine apdN.mk ?_ ?_ ?_ ?_ ?_ ?_); (focus (first | rfl)); (focus (first | exact one_all (by rfl))); (focus ((try simp only [LN] at *) <;> omega)); (focus ((try simp only [LN] at *) <;> omega)); (focus ((try simp only [LN] at *) <;> omega)))
      | with_reducible refine wr_i64 (by first | omega | (simp only [LN] at *; omega)) ?_
      | with_reducible first | refine Z.callZ_in tabOk 10 Try.f35 _ Try.func35 (by kernel_rfl) rfl rfl rfl ?_
      | ((with_reducible refine eqN_mk2 ?_ ?_); (focus (exact Z.kb_some rfl)))
      | ((with_reducible apply ex_and); exact rfl))
    all_goals (try (conv => whnf))
    all_goals try (show Nat.ble _ _ = true; rfl)
    all_goals try (exfalso; rename_i hz; cases hz; done)
    all_goals try (exfalso; (try simp only [LN] at *) <;> omega))
  all_goals first
    | ((refine Z.rnd_bi 0 [[.ro true 1 ((r.drop 8).map eB), _]] rfl rfl ⟨⟨Z.Imp.of_eq (congrArg (Ce.ro true 1) (by first | (simp; done) | (simp [tk_map]; done) | (simp [tk_map, List.take_of_length_le]; done))), Z.Imp.refl _, trivial⟩, trivial⟩ ?_); ((refine Z.rndK ((i + 1, (r.drop 8), acc ++ [⟨1, s, k, IntKind.i64.wrap v9, 0⟩])) (fun s => [0, 1, 2, 3, 4, 5, s.idAt 7]) rfl rfl rfl rfl ?_ ?_ ?_ ?_); (focus (repeat' (first | exact trivial | exact rfl | (rw [List.map_append (f := cE)]; exact rfl) | apply And.intro))); (focus (repeat' (first | exact trivial | (intro b hb; cases hb; rfl) | exact Z.gB_sub' rfl (by first | rfl | (rw [List.map_append]; rfl) | simp only [List.map_append, List.map_cons, List.map_nil]) (ren_map fun _ => rfl) | apply And.intro))); (focus (exact ⟨by (try dsimp only); omega, ⟨by (try dsimp only); first | exact isB_drop hBr | exact hBr, by (try dsimp only); (try simp only [List.length_cons, List.length_drop] at *); omega⟩, by (try dsimp only); rw [List.length_append, HC]; rfl, by (try dsimp only); rw [HD, show N - i = (N - (i + 1)) + 1 by omega, preD_step hd1]⟩)); ((try dsimp only); omega)))
end Go.Proofs.Ytpnfogckdceiaaa
namespace Go.Proofs.Ytpnfogckdceiaaa
open Go Go.RowKit Wx
set_option linter.unusedVariables false
set_option linter.unusedSimpArgs false
set_option maxHeartbeats 40000000
theorem dec_b0 (b : List Int) (N i : Nat) (acc : List El) (r : List Int) (hB : isB (2 :: r)) (hL : ((2 :: r) : List Int).length ≤ 1099511627776) (HC : acc.length = i) (HD : decN N b = preD acc (decN (N - i) (2 :: r))) (hi : i < N) (hN : N ≤ 200) (h4 : r.length < 8) {Q : Exit → Z.S → Prop} (hQ : ∀ F' K' t', Wx.get F' 4 = some (.val (.slice none 0 0)) → Wx.get F' 5 = some (.val (.int .i64 7)) → Q .ret ⟨F', K', t'⟩) : Z.codeZ Try.prog tab 56 4 none (lbody Try.f34) ⟨dCH (i, (2 :: r), acc) ++ dFk N, dCK (i, (2 :: r), acc) ++ dKk, 7⟩ (loopPost (dRnd b N (i, (2 :: r), acc)) Q) := by
  dsimp only [dCH, dFk, dCK, dKk, dRnd]
  have hBr : isB r := fun x hx => hB x (by simp [hx])
  repeat' ((conv => whnf); first
    | with_reducible first | refine spB_t ?_
    | ((with_reducible apply spB_cong); (focus (simp only [beq_self_eq_true, bne_self_eq_false, Bool.true_bne, Bool.false_bne, Bool.bne_true, Bool.bne_false, Bool.true_beq, Bool.false_beq, Bool.not_true, Bool.not_false, Bool.not_not, Int.reduceBEq, Int.reduceBNe, Int.reduceLE, Int.reduceLT, Int.reduceEq, decide_true, decide_false]; rfl)))
    | with_reducible first | refine spB_no (by decide) ?_
    | (with_reducible refine spB_dec ?_ ?_ <;> intro _ <;> (try (exfalso; first | contradiction | omega | (rename_i hz; refine hz ?_; simp; done) | (rename_i hz; simp at hz; done) | (simp only [LN] at *; omega))))
    | (refine Z.lookN.mk ⟨_, _, rfl, ?_⟩)
    | with_reducible first | refine Z.callZ_mfa ?_
    | ((refine sl3N_mk 0 1 1 rfl rfl rfl ?_ ?_ ?_ ?_ ?_); (iterate 4 (focus (first | exact .inl rfl | ((try simp only [LN] at *) <;> omega)))))
    | ((with_reducible refine Z.slN_lo 1 ?_ ?_ ?_); (focus rfl); (focus ((try simp only [LN] at *) <;> omega)))
    | (refine loopZ_unr1 tabOk rfl ?_)
    | ((with_reducible refine wr_shl8 ?_ ?_); (focus omega))
    | ((with_reducible refine wr_or0 ?_ ?_); (focus omega))
    | with_reducible first | refine rowN_mk _ rfl ?_
    | ((with_reducible apply ixN_lit); (focus (exact rfl)); (focus (exact rfl)))
    | ((with_reducible refine eqN_mk2 ?_ ?_); (focus rfl))
    | with_reducible refine wr_i64 (by first | omega | (simp only [LN] at *; omega)) ?_
    | with_reducible refine wr_u64 (by omega) ?_
    | with_reducible first | refine Z.callZ_in tabOk 20 Try.f43 _ Try.func43 (by kernel_rfl) rfl rfl rfl ?_ | refine Z.callZ_in tabOk 18 Try.f47 _ Try.func47 (by kernel_rfl) rfl rfl rfl ?_ | refine Z.callZ_in tabOk 10 Try.f35 _ Try.func35 (by kernel_rfl) rfl rfl rfl ?_ | refine Z.callZ_in tabOk 5 Try.f49 _ Try.func49 (by kernel_rfl) rfl rfl rfl ?_ | refine Z.callZ_in tabOk 10 Try.f41 _ Try.func41 (by kernel_rfl) rfl rfl rfl ?_ | refine Z.callZ_in tabOk 58 Try.f46 _ Try.func46 (by kernel_rfl) rfl rfl rfl ?_ | refine Z.callZ_in tabOk 6 Try.f33 _ Try.func33 (by kernel_rfl) rfl rfl rfl ?_
    | ((with_reducible apply ex_and); exact rfl)
    | with_reducible first | refine Z.drawZ_rule tabOk mixOk ?_ | refine Z.apZ_mk (by kernel_rfl) ?_)
  all_goals (try (conv => whnf))
  all_goals try (show Nat.ble _ _ = true; rfl)
  all_goals try (exfalso; rename_i hz; cases hz; done)
  all_goals try (exfalso; (try simp only [LN] at *) <;> omega)
  all_goals first
    | exact hQ _ _ _ rfl rfl
end Go.Proofs.Ytpnfogckdceiaaa
namespace Go.Proofs.Ytpnfogckdceiaaa
open Go Go.RowKit Wx
set_option linter.unusedVariables false
set_option linter.unusedSimpArgs false
set_option maxHeartbeats 40000000
theorem dec_b1 (b : List Int) (N i : Nat) (acc : List El) (r : List Int) (hB : isB (2 :: r)) (hL : ((2 :: r) : List Int).length ≤ 1099511627776) (HC : acc.length = i) (HD : decN N b = preD acc (decN (N - i) (2 :: r))) (hi : i < N) (hN : N ≤ 200) (h4 : 8 ≤ r.length) (h5 : ¬ (1 ≤ numR (r.take 8) ∧ numR (r.take 8) ≤ 4611686018427387904)) {Q : Exit → Z.S → Prop} (hQ : ∀ F' K' t', Wx.get F' 4 = some (.val (.slice none 0 0)) → Wx.get F' 5 = some (.val (.int .i64 151)) → Q .ret ⟨F', K', t'⟩) : Z.codeZ Try.prog tab 56 4 none (lbody Try.f34) ⟨dCH (i, (2 :: r), acc) ++ dFk N, dCK (i, (2 :: r), acc) ++ dKk, 7⟩ (loopPost (dRnd b N (i, (2 :: r), acc)) Q) := by
  dsimp only [dCH, dFk, dCK, dKk, dRnd]
  have hBr : isB r := fun x hx => hB x (by simp [hx])
  have hv0 : 0 ≤ numR (r.take 8) := (numR_lt (n := 8) (by simp; omega) (isB_take hBr)).1
  have ce := checkE_con ⟨2, 0, 0, 0, numR (r.take 8)⟩ hv0
  rw [show okE ⟨2, 0, 0, 0, numR (r.take 8)⟩ = false from decide_eq_false (by simp; omega)] at ce
  dsimp only at ce
  simp only [cond_true, cond_false] at ce
  repeat' ((conv => whnf); first
    | with_reducible first | refine spB_t ?_
    | ((with_reducible apply spB_cong); (focus (simp only [beq_self_eq_true, bne_self_eq_false, Bool.true_bne, Bool.false_bne, Bool.bne_true, Bool.bne_false, Bool.true_beq, Bool.false_beq, Bool.not_true, Bool.not_false, Bool.not_not, Int.reduceBEq, Int.reduceBNe, Int.reduceLE, Int.reduceLT, Int.reduceEq, decide_true, decide_false]; rfl)))
    | with_reducible first | refine spB_no (by decide) ?_
    | (with_reducible refine spB_dec ?_ ?_ <;> intro _ <;> (try (exfalso; first | contradiction | omega | (rename_i hz; refine hz ?_; simp; done) | (rename_i hz; simp at hz; done) | (simp only [LN] at *; omega))))
    | (refine Z.lookN.mk ⟨_, _, rfl, ?_⟩)
    | with_reducible first | refine Z.callZ_mfa ?_
    | ((refine sl3N_mk 0 1 1 rfl rfl rfl ?_ ?_ ?_ ?_ ?_); (iterate 4 (focus (first | exact .inl rfl | ((try simp only [LN] at *) <;> omega)))))
    | ((refine sl3N_mk 0 8 8 rfl rfl rfl ?_ ?_ ?_ ?_ ?_); (iterate 4 (focus (first | exact .inl rfl | ((try simp only [LN] at *) <;> omega)))))
    | ((with_reducible refine Z.slN_lo 1 ?_ ?_ ?_); (focus rfl); (focus ((try simp only [LN] at *) <;> omega)))
    | (refine loopZ_unr1 tabOk rfl ?_)
    | ((with_reducible refine wr_shl8 ?_ ?_); (focus omega))
    | ((with_reducible refine wr_or0 ?_ ?_); (focus omega))
    | with_reducible first | refine rowN_mk _ rfl ?_
    | ((with_reducible apply ixN_lit); (focus (exact rfl)); (focus (exact rfl)))
    | ((with_reducible refine eqN_mk2 ?_ ?_); (focus rfl))
    | with_reducible refine wr_i64 (by first | omega | (simp only [LN] at *; omega)) ?_
    | with_reducible refine wr_u64 (by omega) ?_
    | with_reducible first | refine Z.callZ_in tabOk 20 Try.f43 _ Try.func43 (by kernel_rfl) rfl rfl rfl ?_ | refine Z.callZ_in tabOk 18 Try.f47 _ Try.func47 (by kernel_rfl) rfl rfl rfl ?_ | refine Z.callZ_in tabOk 10 Try.f35 _ Try.func35 (by kernel_rfl) rfl rfl rfl ?_ | refine Z.callZ_in tabOk 5 Try.f49 _ Try.func49 (by kernel_rfl) rfl rfl rfl ?_ | refine Z.callZ_in tabOk 10 Try.f41 _ Try.func41 (by kernel_rfl) rfl rfl rfl ?_ | refine Z.callZ_in tabOk 58 Try.f46 _ Try.func46 (by kernel_rfl) rfl rfl rfl ?_ | refine Z.callZ_in tabOk 6 Try.f33 _ Try.func33 (by kernel_rfl) rfl rfl rfl ?_
    | ((with_reducible apply ex_and); exact rfl)
    | with_reducible first | refine Z.drawZ_rule tabOk mixOk ?_ | refine Z.apZ_mk (by kernel_rfl) ?_)
  all_goals (try (conv => whnf))
  all_goals try (show Nat.ble _ _ = true; rfl)
  all_goals try (exfalso; rename_i hz; cases hz; done)
  all_goals try (exfalso; (try simp only [LN] at *) <;> omega)
  all_goals (
    apply loopQ3
    · intro Q0 hq9
      refine Z.loopK tabOk (fun zq : Nat => [(6, .val (.int .i64 (zq : Int)))]) (fun zq : Nat => ([(12, some (Z.Ob.b ⟨[[.v (.int .u64 (numR ((r.take 8).take zq)))]], 1, 24, true⟩)), (0, some (Z.Ob.b ⟨[[.ro true 1 (r.map eB), .v (.int .i64 0)]], 2, 77, true⟩)), (1, some (Z.Ob.b ⟨[[.own 0 0 0]], 1, 63, true⟩)), (4, some (Z.Ob.b ⟨[[.own 0 0 0]], 1, 63, true⟩)), (5, some (Z.Ob.m ⟨[(Value.int .u8 1, 0, A0.one (Ce.mf 42 [Pt.ag [Pa.own 0 0 0]])), (Value.int .u8 2, 1, A0.one (Ce.mf 43 [Pt.ag [Pa.own 0 0 0]])), (Value.int .u8 3, 2, A0.one (Ce.mf 44 [Pt.ag [Pa.own 0 0 0]]))], 3⟩)), (6, (gB 5 26 (acc.map cE)).map Z.Ob.b), (9, some (Z.Ob.b ⟨[[.own 0 0 0]], 1, 63, true⟩)), (10, some (Z.Ob.b ⟨[[.v (.int .i64 0), .v (.int .i64 0), .v (.int .i64 0), .v (.int .i64 0), .v (.int .u64 0)]], 5, 26, true⟩))] : Z.Kr)) (fun zq => zq ≤ 8) (fun zq => 8 - zq) 0 13 [(0, _), (2, _), (5, _)] ⟨rfl, rfl, rfl, trivial⟩ [] trivial ?_ ?_ rfl rfl (Nat.zero_le _) ?_
      · repeat' (first | exact trivial | apply And.intro | exact ⟨_, rfl, Z.Imp.refl _⟩)
      · repeat' (first | exact trivial | exact (fun b hb => ⟨b, hb, Z.ImpO.refl b⟩) | (intro b hb; cases hb; refine ⟨_, rfl, ⟨rfl, rfl, rfl⟩, ⟨⟨Z.Imp.of_eq (congrArg (Ce.ro true 1) (by simp [tk_map]; done)), Z.Imp.refl _, trivial⟩, trivial⟩⟩; done) | apply And.intro)
      rintro j HINV
      (try dsimp only at HINV); (try dsimp only)
      by_cases hj : j < 8
      · obtain ⟨z9, hzd⟩ := getElem?_some' (xs := (r.take 8)) (i := j) (by simp; omega)
        have hzb := hBr z9 (List.mem_of_mem_take (List.mem_of_getElem? hzd))
        have hnl := num_lt (l := (r.take 8)) (i := j) (by omega) (by simp; omega) (isB_take hBr)
        generalize hnv : numR ((r.take 8).take j) = nv at *
        repeat' ((conv => whnf); first
          | (with_reducible refine spB_dec ?_ ?_ <;> intro _ <;> (try (exfalso; first | contradiction | omega | (rename_i hz; refine hz ?_; simp; done) | (rename_i hz; simp at hz; done) | (simp only [LN] at *; omega))))
          | ((with_reducible refine wr_shl8 ?_ ?_); (focus omega))
          | ((with_reducible refine rowN_mk (eB z9) ?_ ?_); (focus (exact rest_at (by simp [tk_map]; done) hzd)))
          | ((with_reducible refine ixN_mk (j) ?_ ?_ ?_); (focus (first | rfl)); (focus ((try simp only [LN] at *) <;> omega)))
          | ((with_reducible refine eqN_mk2 ?_ ?_); (focus rfl))
          | with_reducible refine wr_i64 (by first | omega | (simp only [LN] at *; omega)) ?_
          | with_reducible refine wr_u64 (by omega) ?_
          | with_reducible first | refine Z.drawZ_rule tabOk mixOk ?_ | refine Z.apZ_mk (by kernel_rfl) ?_)
        all_goals (try (conv => whnf))
        all_goals try (show Nat.ble _ _ = true; rfl)
        all_goals try (exfalso; rename_i hz; cases hz; done)
        all_goals try (exfalso; (try simp only [LN] at *) <;> omega)
        all_goals first
          | ((refine Z.rnd_rw 12 ([[.v (.int .u64 (numR ((r.take 8).take (j + 1))))]]) rfl rfl ?_ ?_); (focus (rw [take_snoc hzd, numR_snoc, hnv]; exact congrArg (fun z => [[Ce.v (.int .u64 z)]]) (or_add hnl hzb))); ((refine Z.rndK ((j + 1)) (fun s => [0, 1, 2, 3, 4, 5, 6, 7, 8, 9, 10, 11, 12]) rfl rfl rfl rfl ?_ ?_ ?_ ?_); (focus (repeat' (first | exact trivial | exact rfl | apply And.intro))); (focus (repeat' (first | exact trivial | (intro b hb; cases hb; rfl) | exact Z.gB_sub rfl rfl (ren_map fun _ => rfl) | apply And.intro))); (focus (((try dsimp only); omega))); ((try dsimp only); omega)))
      have hj8 : j = 8 := by omega
      repeat' ((conv => whnf); first
        | (with_reducible refine spB_dec ?_ ?_ <;> intro _ <;> (try (exfalso; first | contradiction | omega | (rename_i hz; refine hz ?_; simp; done) | (rename_i hz; simp at hz; done) | (simp only [LN] at *; omega)))))
      all_goals (try (conv => whnf))
      subst hj8
      exact hq9
    rw [show (r.take 8).take 8 = r.take 8 from List.take_of_length_le (List.length_take_le ..)]
    generalize hnv9 : numR (r.take 8) = v9 at *
    repeat' ((conv => whnf); first
      | with_reducible first | refine spB_t ?_
      | ((with_reducible apply spB_cong); (focus (simp only [beq_self_eq_true, bne_self_eq_false, Bool.true_bne, Bool.false_bne, Bool.bne_true, Bool.bne_false, Bool.true_beq, Bool.false_beq, Bool.not_true, Bool.not_false, Bool.not_not, Int.reduceBEq, Int.reduceBNe, Int.reduceLE, Int.reduceLT, Int.reduceEq, decide_true, decide_false]; rfl)))
      | with_reducible first | refine spB_no (by decide) ?_
      | ((with_reducible refine Z.slN_lo 8 ?_ ?_ ?_); (focus rfl); (focus ((try simp only [LN] at *) <;> omega)))
      | with_reducible first | refine Z.callZ_in tabOk 10 Try.f35 _ Try.func35 (by kernel_rfl) rfl rfl rfl ?_
      | ((first | (with_reducible refine Z.conZ_mz ?_ (ce) ?_)); (focus ((repeat' (first | exact trivial | exact rfl | apply And.intro)); done)))
      | ((with_reducible apply ex_and); exact rfl)
      | with_reducible first | refine Z.drawZ_rule tabOk mixOk ?_ | refine Z.apZ_mk (by kernel_rfl) ?_)
    all_goals (try (conv => whnf))
    all_goals try (show Nat.ble _ _ = true; rfl)
    all_goals try (exfalso; rename_i hz; cases hz; done)
    all_goals try (exfalso; (try simp only [LN] at *) <;> omega))
  all_goals first
    | exact hQ _ _ _ rfl rfl
end Go.Proofs.Ytpnfogckdceiaaa
namespace Go.Proofs.Ytpnfogckdceiaaa
open Go Go.RowKit Wx
set_option linter.unusedVariables false
set_option linter.unusedSimpArgs false
set_option maxHeartbeats 400000000
theorem dec_b2 (b : List Int) (N i : Nat) (acc : List El) (r : List Int) (hB : isB (2 :: r)) (hL : ((2 :: r) : List Int).length ≤ 1099511627776) (HC : acc.length = i) (HD : decN N b = preD acc (decN (N - i) (2 :: r))) (hi : i < N) (hN : N ≤ 200) (h4 : 8 ≤ r.length) (h5 : 1 ≤ numR (r.take 8) ∧ numR (r.take 8) ≤ 4611686018427387904) {Q : Exit → Z.S → Prop} : Z.codeZ Try.prog tab 56 4 none (lbody Try.f34) ⟨dCH (i, (2 :: r), acc) ++ dFk N, dCK (i, (2 :: r), acc) ++ dKk, 7⟩ (loopPost (dRnd b N (i, (2 :: r), acc)) Q) := by
  have hd1 : dec1 (2 :: r) = (⟨2, 0, 0, 0, numR (r.take 8)⟩, 0, (r.drop 8)) := dec1_b h4 h5
  dsimp only [dCH, dFk, dCK, dKk, dRnd]
  have hBr : isB r := fun x hx => hB x (by simp [hx])
  have hv0 : 0 ≤ numR (r.take 8) := (numR_lt (n := 8) (by simp; omega) (isB_take hBr)).1
  have ce := checkE_con ⟨2, 0, 0, 0, numR (r.take 8)⟩ hv0
  rw [show okE ⟨2, 0, 0, 0, numR (r.take 8)⟩ = true from decide_eq_true (by simp; omega)] at ce
  dsimp only at ce
  simp only [cond_true, cond_false] at ce
  repeat' ((conv => whnf); first
    | with_reducible first | refine spB_t ?_
    | ((with_reducible apply spB_cong); (focus (simp only [beq_self_eq_true, bne_self_eq_false, Bool.true_bne, Bool.false_bne, Bool.bne_true, Bool.bne_false, Bool.true_beq, Bool.false_beq, Bool.not_true, Bool.not_false, Bool.not_not, Int.reduceBEq, Int.reduceBNe, Int.reduceLE, Int.reduceLT, Int.reduceEq, decide_true, decide_false]; rfl)))
    | with_reducible first | refine spB_no (by decide) ?_
    | (with_reducible refine spB_dec ?_ ?_ <;> intro _ <;> (try (exfalso; first | contradiction | omega | (rename_i hz; refine hz ?_; simp; done) | (rename_i hz; simp at hz; done) | (simp only [LN] at *; omega))))
    | (refine Z.lookN.mk ⟨_, _, rfl, ?_⟩)
    | with_reducible first | refine Z.callZ_mfa ?_
    | ((refine sl3N_mk 0 1 1 rfl rfl rfl ?_ ?_ ?_ ?_ ?_); (iterate 4 (focus (first | exact .inl rfl | ((try simp only [LN] at *) <;> omega)))))
    | ((refine sl3N_mk 0 8 8 rfl rfl rfl ?_ ?_ ?_ ?_ ?_); (iterate 4 (focus (first | exact .inl rfl | ((try simp only [LN] at *) <;> omega)))))
    | ((with_reducible refine Z.slN_lo 1 ?_ ?_ ?_); (focus rfl); (focus ((try simp only [LN] at *) <;> omega)))
    | (refine loopZ_unr1 tabOk rfl ?_)
    | ((with_reducible refine wr_shl8 ?_ ?_); (focus omega))
    | ((with_reducible refine wr_or0 ?_ ?_); (focus omega))
    | with_reducible first | refine rowN_mk _ rfl ?_
    | ((with_reducible apply ixN_lit); (focus (exact rfl)); (focus (exact rfl)))
    | ((with_reducible refine eqN_mk2 ?_ ?_); (focus rfl))
    | with_reducible refine wr_i64 (by first | omega | (simp only [LN] at *; omega)) ?_
    | with_reducible refine wr_u64 (by omega) ?_
    | with_reducible first | refine Z.callZ_in tabOk 20 Try.f43 _ Try.func43 (by kernel_rfl) rfl rfl rfl ?_ | refine Z.callZ_in tabOk 18 Try.f47 _ Try.func47 (by kernel_rfl) rfl rfl rfl ?_ | refine Z.callZ_in tabOk 10 Try.f35 _ Try.func35 (by kernel_rfl) rfl rfl rfl ?_ | refine Z.callZ_in tabOk 5 Try.f49 _ Try.func49 (by kernel_rfl) rfl rfl rfl ?_ | refine Z.callZ_in tabOk 10 Try.f41 _ Try.func41 (by kernel_rfl) rfl rfl rfl ?_ | refine Z.callZ_in tabOk 58 Try.f46 _ Try.func46 (by kernel_rfl) rfl rfl rfl ?_ | refine Z.callZ_in tabOk 6 Try.f33 _ Try.func33 (by kernel_rfl) rfl rfl rfl ?_
    | ((with_reducible apply ex_and); exact rfl)
    | with_reducible first | refine Z.drawZ_rule tabOk mixOk ?_ | refine Z.apZ_mk (by kernel_rfl) ?_)
  all_goals (try (conv => whnf))
  all_goals try (show Nat.ble _ _ = true; rfl)
  all_goals try (exfalso; rename_i hz; cases hz; done)
  all_goals try (exfalso; (try simp only [LN] at *) <;> omega)
  all_goals (
    apply loopQ3
    · intro Q0 hq9
      refine Z.loopK tabOk (fun zq : Nat => [(6, .val (.int .i64 (zq : Int)))]) (fun zq : Nat => ([(12, some (Z.Ob.b ⟨[[.v (.int .u64 (numR ((r.take 8).take zq)))]], 1, 24, true⟩)), (0, some (Z.Ob.b ⟨[[.ro true 1 (r.map eB), .v (.int .i64 0)]], 2, 77, true⟩)), (1, some (Z.Ob.b ⟨[[.own 0 0 0]], 1, 63, true⟩)), (4, some (Z.Ob.b ⟨[[.own 0 0 0]], 1, 63, true⟩)), (5, some (Z.Ob.m ⟨[(Value.int .u8 1, 0, A0.one (Ce.mf 42 [Pt.ag [Pa.own 0 0 0]])), (Value.int .u8 2, 1, A0.one (Ce.mf 43 [Pt.ag [Pa.own 0 0 0]])), (Value.int .u8 3, 2, A0.one (Ce.mf 44 [Pt.ag [Pa.own 0 0 0]]))], 3⟩)), (6, (gB 5 26 (acc.map cE)).map Z.Ob.b), (9, some (Z.Ob.b ⟨[[.own 0 0 0]], 1, 63, true⟩)), (10, some (Z.Ob.b ⟨[[.v (.int .i64 0), .v (.int .i64 0), .v (.int .i64 0), .v (.int .i64 0), .v (.int .u64 0)]], 5, 26, true⟩))] : Z.Kr)) (fun zq => zq ≤ 8) (fun zq => 8 - zq) 0 13 [(0, _), (2, _), (5, _)] ⟨rfl, rfl, rfl, trivial⟩ [] trivial ?_ ?_ rfl rfl (Nat.zero_le _) ?_
      · repeat' (first | exact trivial | apply And.intro | exact ⟨_, rfl, Z.Imp.refl _⟩)
      · repeat' (first | exact trivial | exact (fun b hb => ⟨b, hb, Z.ImpO.refl b⟩) | (intro b hb; cases hb; refine ⟨_, rfl, ⟨rfl, rfl, rfl⟩, ⟨⟨Z.Imp.of_eq (congrArg (Ce.ro true 1) (by simp [tk_map]; done)), Z.Imp.refl _, trivial⟩, trivial⟩⟩; done) | apply And.intro)
      rintro j HINV
      (try dsimp only at HINV); (try dsimp only)
      by_cases hj : j < 8
      · obtain ⟨z9, hzd⟩ := getElem?_some' (xs := (r.take 8)) (i := j) (by simp; omega)
        have hzb := hBr z9 (List.mem_of_mem_take (List.mem_of_getElem? hzd))
        have hnl := num_lt (l := (r.take 8)) (i := j) (by omega) (by simp; omega) (isB_take hBr)
        generalize hnv : numR ((r.take 8).take j) = nv at *
        repeat' ((conv => whnf); first
          | (with_reducible refine spB_dec ?_ ?_ <;> intro _ <;> (try (exfalso; first | contradiction | omega | (rename_i hz; refine hz ?_; simp; done) | (rename_i hz; simp at hz; done) | (simp only [LN] at *; omega))))
          | ((with_reducible refine wr_shl8 ?_ ?_); (focus omega))
          | ((with_reducible refine rowN_mk (eB z9) ?_ ?_); (focus (exact rest_at (by simp [tk_map]; done) hzd)))
          | ((with_reducible refine ixN_mk (j) ?_ ?_ ?_); (focus (first | rfl)); (focus ((try simp only [LN] at *) <;> omega)))
          | ((with_reducible refine eqN_mk2 ?_ ?_); (focus rfl))
          | with_reducible refine wr_i64 (by first | omega | (simp only [LN] at *; omega)) ?_
          | with_reducible refine wr_u64 (by omega) ?_
          | with_reducible first | refine Z.drawZ_rule tabOk mixOk ?_ | refine Z.apZ_mk (by kernel_rfl) ?_)
        all_goals (try (conv => whnf))
        all_goals try (show Nat.ble _ _ = true; rfl)
        all_goals try (exfalso; rename_i hz; cases hz; done)
        all_goals try (exfalso; (try simp only [LN] at *) <;> omega)
        all_goals first
          | ((refine Z.rnd_rw 12 ([[.v (.int .u64 (numR ((r.take 8).take (j + 1))))]]) rfl rfl ?_ ?_); (focus (rw [take_snoc hzd, numR_snoc, hnv]; exact congrArg (fun z => [[Ce.v (.int .u64 z)]]) (or_add hnl hzb))); ((refine Z.rndK ((j + 1)) (fun s => [0, 1, 2, 3, 4, 5, 6, 7, 8, 9, 10, 11, 12]) rfl rfl rfl rfl ?_ ?_ ?_ ?_); (focus (repeat' (first | exact trivial | exact rfl | apply And.intro))); (focus (repeat' (first | exact trivial | (intro b hb; cases hb; rfl) | exact Z.gB_sub rfl rfl (ren_map fun _ => rfl) | apply And.intro))); (focus (((try dsimp only); omega))); ((try dsimp only); omega)))
      have hj8 : j = 8 := by omega
      repeat' ((conv => whnf); first
        | (with_reducible refine spB_dec ?_ ?_ <;> intro _ <;> (try (exfalso; first | contradiction | omega | (rename_i hz; refine hz ?_; simp; done) | (rename_i hz; simp at hz; done) | (simp only [LN] at *; omega)))))
      all_goals (try (conv => whnf))
      subst hj8
      exact hq9
    rw [show (r.take 8).take 8 = r.take 8 from List.take_of_length_le (List.length_take_le ..)]
    generalize hnv9 : numR (r.take 8) = v9 at *
    repeat' ((conv => whnf); first
      | ((with_reducible apply spB_cong); (focus (simp only [beq_self_eq_true, bne_self_eq_false, Bool.true_bne, Bool.false_bne, Bool.bne_true, Bool.bne_false, Bool.true_beq, Bool.false_beq, Bool.not_true, Bool.not_false, Bool.not_not, Int.reduceBEq, Int.reduceBNe, Int.reduceLE, Int.reduceLT, Int.reduceEq, decide_true, decide_false]; rfl)))
      | with_reducible first | refine spB_no (by decide) ?_
      | ((with_reducible refine Z.slN_lo 8 ?_ ?_ ?_); (focus rfl); (focus ((try simp only [LN] at *) <;> omega)))
      | ((with_reducible refine posE_pos ?_ ?_); (focus ((try simp only [LN] at *) <;> omega)))
      | ((with_reducible refine apdN.mk ?_ ?_ ?_ ?_ ?_ ?_); (focus (first | rfl)); (focus (first | exact one_all (by rfl))); (focus ((try simp only [LN] at *) <;> omega)); (focus ((try simp only [LN] at *) <;> omega)); (focus ((try simp only [LN] at *) <;> omega)))
      | with_reducible refine wr_i64 (by first | omega | (simp only [LN] at *; omega)) ?_
      | with_reducible first | refine Z.callZ_in tabOk 10 Try.f35 _ Try.func35 (by kernel_rfl) rfl rfl rfl ?_
      | ((first | (with_reducible refine Z.conZ_mz ?_ (ce) ?_)); (focus ((repeat' (first | exact trivial | exact rfl | apply And.intro)); done)))
      | ((with_reducible refine eqN_mk2 ?_ ?_); (focus (exact Z.kb_some rfl)))
      | ((with_reducible apply ex_and); exact rfl)
      | with_reducible first | refine Z.drawZ_rule tabOk mixOk ?_ | refine Z.apZ_mk (by kernel_rfl) ?_)
    all_goals (try (conv => whnf))
    all_goals try (show Nat.ble _ _ = true; rfl)
    all_goals try (exfalso; rename_i hz; cases hz; done)
    all_goals try (exfalso; (try simp only [LN] at *) <;> omega))
  all_goals first
    | ((refine Z.rnd_bi 0 [[.ro true 1 ((r.drop 8).map eB), _]] rfl rfl ⟨⟨Z.Imp.of_eq (congrArg (Ce.ro true 1) (by first | (simp; done) | (simp [tk_map]; done) | (simp [tk_map, List.take_of_length_le]; done))), Z.Imp.refl _, trivial⟩, trivial⟩ ?_); ((refine Z.rndK ((i + 1, (r.drop 8), acc ++ [⟨2, 0, 0, 0, v9⟩])) (fun s => [0, 1, 2, 3, 4, 5, s.idAt 7]) rfl rfl rfl rfl ?_ ?_ ?_ ?_); (focus (repeat' (first | exact trivial | exact rfl | (rw [List.map_append (f := cE)]; exact rfl) | apply And.intro))); (focus (repeat' (first | exact trivial | (intro b hb; cases hb; rfl) | exact Z.gB_sub' rfl (by first | rfl | (rw [List.map_append]; rfl) | simp only [List.map_append, List.map_cons, List.map_nil]) (ren_map fun _ => rfl) | apply And.intro))); (focus (exact ⟨by (try dsimp only); omega, ⟨by (try dsimp only); first | exact isB_drop hBr | exact hBr, by (try dsimp only); (try simp only [List.length_cons, List.length_drop] at *); omega⟩, by (try dsimp only); rw [List.length_append, HC]; rfl, by (try dsimp only); rw [HD, show N - i = (N - (i + 1)) + 1 by omega, preD_step hd1]⟩)); ((try dsimp only); omega)))
end Go.Proofs.Ytpnfogckdceiaaa
namespace Go.Proofs.Ytpnfogckdceiaaa
open Go Go.RowKit Wx
set_option linter.unusedVariables false
set_option linter.unusedSimpArgs false
set_option maxHeartbeats 40000000
theorem dec_n0 (b : List Int) (N i : Nat) (acc : List El) (r : List Int) (hB : isB (3 :: r)) (hL : ((3 :: r) : List Int).length ≤ 1099511627776) (HC : acc.length = i) (HD : decN N b = preD acc (decN (N - i) (3 :: r))) (hi : i < N) (hN : N ≤ 200)  {Q : Exit → Z.S → Prop} : Z.codeZ Try.prog tab 56 4 none (lbody Try.f34) ⟨dCH (i, (3 :: r), acc) ++ dFk N, dCK (i, (3 :: r), acc) ++ dKk, 7⟩ (loopPost (dRnd b N (i, (3 :: r), acc)) Q) := by
  have hd1 : dec1 (3 :: r) = (⟨3, 0, 0, 0, 0⟩, 0, r) := rfl
  dsimp only [dCH, dFk, dCK, dKk, dRnd]
  have hBr : isB r := fun x hx => hB x (by simp [hx])
  repeat' ((conv => whnf); first
    | with_reducible first | refine spB_t ?_
    | ((with_reducible apply spB_cong); (focus (simp only [beq_self_eq_true, bne_self_eq_false, Bool.true_bne, Bool.false_bne, Bool.bne_true, Bool.bne_false, Bool.true_beq, Bool.false_beq, Bool.not_true, Bool.not_false, Bool.not_not, Int.reduceBEq, Int.reduceBNe, Int.reduceLE, Int.reduceLT, Int.reduceEq, decide_true, decide_false]; rfl)))
    | with_reducible first | refine spB_no (by decide) ?_
    | (with_reducible refine spB_dec ?_ ?_ <;> intro _ <;> (try (exfalso; first | contradiction | omega | (rename_i hz; refine hz ?_; simp; done) | (rename_i hz; simp at hz; done) | (simp only [LN] at *; omega))))
    | (refine Z.lookN.mk ⟨_, _, rfl, ?_⟩)
    | with_reducible first | refine Z.callZ_mfa ?_
    | ((refine sl3N_mk 0 1 1 rfl rfl rfl ?_ ?_ ?_ ?_ ?_); (iterate 4 (focus (first | exact .inl rfl | ((try simp only [LN] at *) <;> omega)))))
    | ((with_reducible refine Z.slN_lo 1 ?_ ?_ ?_); (focus rfl); (focus ((try simp only [LN] at *) <;> omega)))
    | (refine loopZ_unr1 tabOk rfl ?_)
    | ((with_reducible refine wr_shl8 ?_ ?_); (focus omega))
    | ((with_reducible refine wr_or0 ?_ ?_); (focus omega))
    | with_reducible first | refine rowN_mk _ rfl ?_
    | ((with_reducible refine posE_pos ?_ ?_); (focus ((try simp only [LN] at *) <;> omega)))
    | ((with_reducible apply ixN_lit); (focus (exact rfl)); (focus (exact rfl)))
    | ((with_reducible refine eqN_mk2 ?_ ?_); (focus rfl))
    | ((with_reducible refine apdN.mk ?_ ?_ ?_ ?_ ?_ ?_); (focus (first | rfl)); (focus (first | exact one_all (by rfl))); (focus ((try simp only [LN] at *) <;> omega)); (focus ((try simp only [LN] at *) <;> omega)); (focus ((try simp only [LN] at *) <;> omega)))
    | with_reducible refine wr_i64 (by first | omega | (simp only [LN] at *; omega)) ?_
    | with_reducible refine wr_u64 (by omega) ?_
    | with_reducible first | refine Z.callZ_in tabOk 5 Try.f44 _ Try.func44 (by kernel_rfl) rfl rfl rfl ?_ | refine Z.callZ_in tabOk 18 Try.f47 _ Try.func47 (by kernel_rfl) rfl rfl rfl ?_ | refine Z.callZ_in tabOk 10 Try.f35 _ Try.func35 (by kernel_rfl) rfl rfl rfl ?_ | refine Z.callZ_in tabOk 10 Try.f41 _ Try.func41 (by kernel_rfl) rfl rfl rfl ?_ | refine Z.callZ_in tabOk 58 Try.f46 _ Try.func46 (by kernel_rfl) rfl rfl rfl ?_ | refine Z.callZ_in tabOk 6 Try.f33 _ Try.func33 (by kernel_rfl) rfl rfl rfl ?_
    | ((with_reducible refine eqN_mk2 ?_ ?_); (focus (exact Z.kb_some rfl)))
    | ((with_reducible apply ex_and); exact rfl)
    | with_reducible first | refine Z.drawZ_rule tabOk mixOk ?_ | refine Z.apZ_mk (by kernel_rfl) ?_)
  all_goals (try (conv => whnf))
  all_goals try (show Nat.ble _ _ = true; rfl)
  all_goals try (exfalso; rename_i hz; cases hz; done)
  all_goals try (exfalso; (try simp only [LN] at *) <;> omega)
  all_goals first
    | ((refine Z.rnd_bi 0 [[.ro true 1 (r.map eB), _]] rfl rfl ⟨⟨Z.Imp.of_eq (congrArg (Ce.ro true 1) (by first | (simp; done) | (simp [tk_map]; done) | (simp [tk_map, List.take_of_length_le]; done))), Z.Imp.refl _, trivial⟩, trivial⟩ ?_); ((refine Z.rndK ((i + 1, r, acc ++ [⟨3, 0, 0, 0, 0⟩])) (fun s => [0, 1, 2, 3, 4, 5, s.idAt 7]) rfl rfl rfl rfl ?_ ?_ ?_ ?_); (focus (repeat' (first | exact trivial | exact rfl | (rw [List.map_append (f := cE)]; exact rfl) | apply And.intro))); (focus (repeat' (first | exact trivial | (intro b hb; cases hb; rfl) | exact Z.gB_sub' rfl (by first | rfl | (rw [List.map_append]; rfl) | simp only [List.map_append, List.map_cons, List.map_nil]) (ren_map fun _ => rfl) | apply And.intro))); (focus (exact ⟨by (try dsimp only); omega, ⟨by (try dsimp only); first | exact isB_drop hBr | exact hBr, by (try dsimp only); (try simp only [List.length_cons, List.length_drop] at *); omega⟩, by (try dsimp only); rw [List.length_append, HC]; rfl, by (try dsimp only); rw [HD, show N - i = (N - (i + 1)) + 1 by omega, preD_step hd1]⟩)); ((try dsimp only); omega)))
end Go.Proofs.Ytpnfogckdceiaaa
namespace Go.Proofs.Ytpnfogckdceiaaa
open Go Go.RowKit Wx
set_option linter.unusedVariables false
set_option linter.unusedSimpArgs false
set_option maxHeartbeats 4000000
theorem preD_nil : ∀ (n : Nat) (b : List Int), decN n b = preD [] (decN n b)
  | 0, b => by simp [preD, decN]
  | n + 1, b => by
    unfold preD
    rw [decN]
    split
    · split
      · simp
      · rename_i h; simp [h]
    · rename_i h; simp [h]
theorem res2 {F : Fr} {K : Kr} {t a b : Nat} {x y : Value} (h : Wx.get F a = some (.val x)) (g : Wx.get F b = some (.val y)) : resL tab ⟨F, K, t⟩ [.tmp a, .tmp b] = some [.one (.v x), .one (.v y)] := by
  simp [resL, h, g]
end Go.Proofs.Ytpnfogckdceiaaa
namespace Go.Proofs.Ytpnfogckdceiaaa
open Go Go.RowKit Wx
set_option linter.unusedVariables false
set_option linter.unusedSimpArgs false
set_option maxHeartbeats 40000000
theorem decode_con (b : List Int) (hl : b.length ≤ 1099511627776) (hB : isB b) : Con Try.prog 23 [.one (.ro false 1 (b.map eB))] (fun rx rK rt => rx = .tup [.one (.ro true 5 ((decR b).1.map eE)), .one (.v (.int .i64 (decR b).2))] ∧ rK = [] ∧ rt = 0) := by
  refine Z.con_ofF tabOk 41 Try.f23 _ Try.func23 (by kernel_rfl) rfl rfl rfl rfl ?_
  rcases b with _ | ⟨n0, b⟩
  · have ccp := copied_con [] (by simp)
    repeat' ((conv => whnf); first
      | ((with_reducible apply spB_cong); (focus (simp only [beq_self_eq_true, bne_self_eq_false, Bool.true_bne, Bool.false_bne, Bool.bne_true, Bool.bne_false, Bool.true_beq, Bool.false_beq, Bool.not_true, Bool.not_false, Bool.not_not, Int.reduceBEq, Int.reduceBNe, Int.reduceLE, Int.reduceLT, Int.reduceEq, decide_true, decide_false]; rfl)))
      | with_reducible first | refine spB_yes (by decide) ?_ | refine spB_no (by decide) ?_
      | (refine Z.updN.mk ⟨_, rfl, ?_⟩)
      | with_reducible refine wr_i64 (by first | omega | (simp only [LN] at *; omega)) ?_
      | with_reducible refine wr_u8 (by omega) ?_
      | with_reducible first | refine Z.callZ_in tabOk 8 Try.f32 _ Try.func32 (by kernel_rfl) rfl rfl rfl ?_ | refine Z.callZ_in tabOk 6 Try.f33 _ Try.func33 (by kernel_rfl) rfl rfl rfl ?_ | refine Z.callZ_in tabOk 56 Try.f34 _ Try.func34 (by kernel_rfl) rfl rfl rfl ?_ | refine Z.callZ_in tabOk 10 Try.f41 _ Try.func41 (by kernel_rfl) rfl rfl rfl ?_ | refine Z.callZ_in tabOk 58 Try.f46 _ Try.func46 (by kernel_rfl) rfl rfl rfl ?_
      | ((first | (with_reducible refine Z.callZ_mk ?_ (ccp) ?_)); (focus ((repeat' (first | exact trivial | exact rfl | apply And.intro)); done)))
      | ((with_reducible apply ex_and); exact rfl))
    all_goals (try (conv => whnf))
    all_goals try (show Nat.ble _ _ = true; rfl)
    all_goals try (exfalso; rename_i hz; cases hz; done)
    all_goals try (exfalso; (try simp only [LN] at *) <;> omega)
    all_goals (refine Z.loopZ_unroll tabOk 1 ?_)
    repeat' ((conv => whnf); first
      | with_reducible first | refine spB_t ?_
      | ((with_reducible apply spB_cong); (focus (simp only [beq_self_eq_true, bne_self_eq_false, Bool.true_bne, Bool.false_bne, Bool.bne_true, Bool.bne_false, Bool.true_beq, Bool.false_beq, Bool.not_true, Bool.not_false, Bool.not_not, Int.reduceBEq, Int.reduceBNe, Int.reduceLE, Int.reduceLT, Int.reduceEq, decide_true, decide_false]; rfl)))
      | with_reducible first | refine spB_no (by decide) ?_
      | with_reducible first | refine Z.callZ_in tabOk 10 Try.f35 _ Try.func35 (by kernel_rfl) rfl rfl rfl ?_
      | ((with_reducible apply ex_and); exact rfl))
    all_goals (try (conv => whnf))
    all_goals try (show Nat.ble _ _ = true; rfl)
    all_goals try (exfalso; rename_i hz; cases hz; done)
    all_goals try (exfalso; (try simp only [LN] at *) <;> omega)
    all_goals first
      | ((first | (with_reducible apply Z.retF2)); (focus (exact rfl)); (repeat' (first | exact trivial | (with_reducible apply Z.frz_one) | (with_reducible apply Z.fq_int) | (exact Z.frz_nil) | exact rfl | apply And.intro)); (all_goals (try exact (fun _ => none))); all_goals (first | (simp; done)))
  have hn0 := hB n0 (List.mem_cons_self ..)
  have hBb : isB b := fun x hx => hB x (List.mem_cons_of_mem _ hx)
  obtain ⟨N, rfl⟩ : ∃ N : Nat, n0 = (N : Int) := ⟨n0.toNat, by omega⟩
  have ccp := copied_con ((N : Int) :: b) hl
  have hll : b.length + 1 ≤ 1099511627776 := by simpa using hl
  by_cases hN : 200 < N
  · rw [show decR ((N : Int) :: b) = ([], 3) from if_pos (show (200 : Int) < (N : Int) by omega)]
    repeat' ((conv => whnf); first
      | with_reducible first | refine spB_t ?_
      | ((with_reducible apply spB_cong); (focus (simp only [beq_self_eq_true, bne_self_eq_false, Bool.true_bne, Bool.false_bne, Bool.bne_true, Bool.bne_false, Bool.true_beq, Bool.false_beq, Bool.not_true, Bool.not_false, Bool.not_not, Int.reduceBEq, Int.reduceBNe, Int.reduceLE, Int.reduceLT, Int.reduceEq, decide_true, decide_false]; rfl)))
      | with_reducible first | refine spB_no (by decide) ?_
      | (with_reducible refine spB_dec ?_ ?_ <;> intro _ <;> (try (exfalso; first | contradiction | omega | (rename_i hz; refine hz ?_; simp; done) | (rename_i hz; simp at hz; done) | (simp only [LN] at *; omega))))
      | ((refine sl3N_mk 0 1 1 rfl rfl rfl ?_ ?_ ?_ ?_ ?_); (iterate 4 (focus (first | exact .inl rfl | ((try simp only [LN] at *) <;> omega)))))
      | ((with_reducible refine Z.slN_lo 1 ?_ ?_ ?_); (focus rfl); (focus ((try simp only [LN] at *) <;> omega)))
      | (refine loopZ_unr1 tabOk rfl ?_)
      | ((with_reducible refine wr_shl8 ?_ ?_); (focus omega))
      | ((with_reducible refine wr_or0 ?_ ?_); (focus omega))
      | with_reducible first | refine rowN_mk _ rfl ?_
      | ((with_reducible apply ixN_lit); (focus (exact rfl)); (focus (exact rfl)))
      | ((with_reducible refine eqN_mk2 ?_ ?_); (focus rfl))
      | with_reducible refine wr_i64 (by first | omega | (simp only [LN] at *; omega)) ?_
      | with_reducible refine wr_u64 (by omega) ?_
      | with_reducible first | refine Z.callZ_in tabOk 8 Try.f32 _ Try.func32 (by kernel_rfl) rfl rfl rfl ?_ | refine Z.callZ_in tabOk 6 Try.f33 _ Try.func33 (by kernel_rfl) rfl rfl rfl ?_ | refine Z.callZ_in tabOk 10 Try.f41 _ Try.func41 (by kernel_rfl) rfl rfl rfl ?_ | refine Z.callZ_in tabOk 58 Try.f46 _ Try.func46 (by kernel_rfl) rfl rfl rfl ?_ | refine Z.callZ_in tabOk 18 Try.f47 _ Try.func47 (by kernel_rfl) rfl rfl rfl ?_
      | ((first | (with_reducible refine Z.callZ_mk ?_ (ccp) ?_)); (focus ((repeat' (first | exact trivial | exact rfl | apply And.intro)); done)))
      | ((with_reducible apply ex_and); exact rfl)
      | with_reducible first | refine Z.drawZ_rule tabOk mixOk ?_ | refine Z.apZ_mk (by kernel_rfl) ?_)
    all_goals (try (conv => whnf))
    all_goals try (show Nat.ble _ _ = true; rfl)
    all_goals try (exfalso; rename_i hz; cases hz; done)
    all_goals try (exfalso; (try simp only [LN] at *) <;> omega)
    all_goals first
      | ((first | (with_reducible apply Z.retF2)); (focus (exact rfl)); (repeat' (first | exact trivial | (with_reducible apply Z.frz_one) | (with_reducible apply Z.fq_int) | (exact Z.frz_nil) | exact rfl | apply And.intro)); (all_goals (try exact (fun _ => none))); all_goals (first | (simp; done)))
  have hdR : decR ((N : Int) :: b) = if (decN N b).2.1 = 0 then (if (decN N b).2.2 = [] then ((decN N b).1, 0) else ([], 151)) else ([], (decN N b).2.1) := by
    show (if (200 : Int) < (N : Int) then _ else _) = _
    rw [if_neg (by omega), Int.toNat_natCast]
  rw [hdR]
  repeat' ((conv => whnf); first
    | with_reducible first | refine spB_t ?_
    | ((with_reducible apply spB_cong); (focus (simp only [beq_self_eq_true, bne_self_eq_false, Bool.true_bne, Bool.false_bne, Bool.bne_true, Bool.bne_false, Bool.true_beq, Bool.false_beq, Bool.not_true, Bool.not_false, Bool.not_not, Int.reduceBEq, Int.reduceBNe, Int.reduceLE, Int.reduceLT, Int.reduceEq, decide_true, decide_false]; rfl)))
    | with_reducible first | refine spB_no (by decide) ?_
    | (with_reducible refine spB_dec ?_ ?_ <;> intro _ <;> (try (exfalso; first | contradiction | omega | (rename_i hz; refine hz ?_; simp; done) | (rename_i hz; simp at hz; done) | (simp only [LN] at *; omega))))
    | (refine Z.updN.mk ⟨_, rfl, ?_⟩)
    | ((refine sl3N_mk 0 1 1 rfl rfl rfl ?_ ?_ ?_ ?_ ?_); (iterate 4 (focus (first | exact .inl rfl | ((try simp only [LN] at *) <;> omega)))))
    | ((with_reducible refine Z.slN_lo 1 ?_ ?_ ?_); (focus rfl); (focus ((try simp only [LN] at *) <;> omega)))
    | (refine loopZ_unr1 tabOk rfl ?_)
    | ((with_reducible refine wr_shl8 ?_ ?_); (focus omega))
    | ((with_reducible refine wr_or0 ?_ ?_); (focus omega))
    | with_reducible first | refine rowN_mk _ rfl ?_
    | ((with_reducible apply ixN_lit); (focus (exact rfl)); (focus (exact rfl)))
    | ((with_reducible refine eqN_mk2 ?_ ?_); (focus rfl))
    | with_reducible refine wr_i64 (by first | omega | (simp only [LN] at *; omega)) ?_
    | with_reducible refine wr_u64 (by omega) ?_
    | with_reducible first | refine Z.callZ_in tabOk 8 Try.f32 _ Try.func32 (by kernel_rfl) rfl rfl rfl ?_ | refine Z.callZ_in tabOk 6 Try.f33 _ Try.func33 (by kernel_rfl) rfl rfl rfl ?_ | refine Z.callZ_in tabOk 56 Try.f34 _ Try.func34 (by kernel_rfl) rfl rfl rfl ?_ | refine Z.callZ_in tabOk 10 Try.f41 _ Try.func41 (by kernel_rfl) rfl rfl rfl ?_ | refine Z.callZ_in tabOk 58 Try.f46 _ Try.func46 (by kernel_rfl) rfl rfl rfl ?_ | refine Z.callZ_in tabOk 18 Try.f47 _ Try.func47 (by kernel_rfl) rfl rfl rfl ?_
    | ((first | (with_reducible refine Z.callZ_mk ?_ (ccp) ?_)); (focus ((repeat' (first | exact trivial | exact rfl | apply And.intro)); done)))
    | ((with_reducible apply ex_and); exact rfl)
    | with_reducible first | refine Z.drawZ_rule tabOk mixOk ?_ | refine Z.apZ_mk (by kernel_rfl) ?_)
  all_goals (try (conv => whnf))
  all_goals try (show Nat.ble _ _ = true; rfl)
  all_goals try (exfalso; rename_i hz; cases hz; done)
  all_goals try (exfalso; (try simp only [LN] at *) <;> omega)
  refine Z.loopK tabOk dCH dCK (dInv b N) (fun zq => N - zq.1) (0, b, []) 7 (dFk N) ⟨rfl, rfl, rfl, trivial⟩ dKk ⟨rfl, rfl, rfl, trivial⟩ ?_ ?_ rfl rfl ⟨Nat.zero_le _, ⟨hBb, by (try dsimp only); omega⟩, rfl, preD_nil N b⟩ ?_
  · repeat' (first | exact trivial | apply And.intro | exact ⟨_, rfl, Z.Imp.refl _⟩ | exact ⟨_, rfl, Z.Imp.nilg _⟩)
  · repeat' (first | exact trivial | (intro b hb; cases hb; done) | (intro b hb; cases hb; refine ⟨_, rfl, ⟨rfl, rfl, rfl⟩, ?_⟩; (try exact ⟨⟨Z.Imp.of_eq (congrArg (Ce.ro true 1) (by simp [tk_map])), Z.Imp.refl _, trivial⟩, trivial⟩); (repeat' (first | exact Z.Imp.nilr _ _)); done) | apply And.intro)
  rintro ⟨i, r, acc⟩ HINV
  obtain ⟨HI, ⟨HBr, HLr⟩, HC, HD⟩ := HINV
  dsimp only at HI HBr HLr HC HD
  by_cases hi : i < N
  · rcases r with _ | ⟨kd, r⟩
    · refine dec_e b N i acc  HBr HLr HC HD hi (by omega)  (fun F' K' t' g4 g5 => ?_)
      have hD9 : decN N b = ([], 7, []) := by
        rw [HD, show N - i = (N - (i + 1)) + 1 by omega]
        exact preD_bad (rfl) (by decide)
      rw [hD9]
      refine ⟨[.one (.v (.slice none 0 0)), .one (.v (.int .i64 7))], res2 g4 g5, ?_⟩
      repeat' ((conv => whnf); first
        | with_reducible first | refine spB_t ?_
        | ((with_reducible apply spB_cong); (focus (simp only [beq_self_eq_true, bne_self_eq_false, Bool.true_bne, Bool.false_bne, Bool.bne_true, Bool.bne_false, Bool.true_beq, Bool.false_beq, Bool.not_true, Bool.not_false, Bool.not_not, Int.reduceBEq, Int.reduceBNe, Int.reduceLE, Int.reduceLT, Int.reduceEq, decide_true, decide_false]; rfl)))
        | (rw [show Nat.ble t' t' = true from Nat.ble_self_eq_true t']))
      all_goals (try (conv => whnf))
      all_goals try (show Nat.ble _ _ = true; rfl)
      all_goals try (exfalso; rename_i hz; cases hz; done)
      all_goals try (exfalso; (try simp only [LN] at *) <;> omega)
      all_goals first
        | ((first | (with_reducible apply Z.retF2)); (focus (exact rfl)); (repeat' (first | exact trivial | (with_reducible apply Z.frz_one) | (with_reducible apply Z.fq_int) | (exact Z.frz_nil) | exact rfl | apply And.intro)); (all_goals (try exact (fun _ => none))); all_goals (first | (simp; done)))
    by_cases hk1 : kd = 1
    · subst hk1
      rcases r with _ | ⟨s, r⟩
      · refine dec_r0 b N i acc  HBr HLr HC HD hi (by omega)  (fun F' K' t' g4 g5 => ?_)
        have hD9 : decN N b = ([], 7, []) := by
          rw [HD, show N - i = (N - (i + 1)) + 1 by omega]
          exact preD_bad (rfl) (by decide)
        rw [hD9]
        refine ⟨[.one (.v (.slice none 0 0)), .one (.v (.int .i64 7))], res2 g4 g5, ?_⟩
        repeat' ((conv => whnf); first
          | with_reducible first | refine spB_t ?_
          | ((with_reducible apply spB_cong); (focus (simp only [beq_self_eq_true, bne_self_eq_false, Bool.true_bne, Bool.false_bne, Bool.bne_true, Bool.bne_false, Bool.true_beq, Bool.false_beq, Bool.not_true, Bool.not_false, Bool.not_not, Int.reduceBEq, Int.reduceBNe, Int.reduceLE, Int.reduceLT, Int.reduceEq, decide_true, decide_false]; rfl)))
          | (rw [show Nat.ble t' t' = true from Nat.ble_self_eq_true t']))
        all_goals (try (conv => whnf))
        all_goals try (show Nat.ble _ _ = true; rfl)
        all_goals try (exfalso; rename_i hz; cases hz; done)
        all_goals try (exfalso; (try simp only [LN] at *) <;> omega)
        all_goals first
          | ((first | (with_reducible apply Z.retF2)); (focus (exact rfl)); (repeat' (first | exact trivial | (with_reducible apply Z.frz_one) | (with_reducible apply Z.fq_int) | (exact Z.frz_nil) | exact rfl | apply And.intro)); (all_goals (try exact (fun _ => none))); all_goals (first | (simp; done)))
      have hbs := HBr s (by simp)
      by_cases hs : 8 ≤ s
      · refine dec_r1 b N i acc s r HBr HLr HC HD hi (by omega) hs (fun F' K' t' g4 g5 => ?_)
        have hD9 : decN N b = ([], 151, []) := by
          rw [HD, show N - i = (N - (i + 1)) + 1 by omega]
          exact preD_bad (by simp [dec1, hs]) (by decide)
        rw [hD9]
        refine ⟨[.one (.v (.slice none 0 0)), .one (.v (.int .i64 151))], res2 g4 g5, ?_⟩
        repeat' ((conv => whnf); first
          | with_reducible first | refine spB_t ?_
          | ((with_reducible apply spB_cong); (focus (simp only [beq_self_eq_true, bne_self_eq_false, Bool.true_bne, Bool.false_bne, Bool.bne_true, Bool.bne_false, Bool.true_beq, Bool.false_beq, Bool.not_true, Bool.not_false, Bool.not_not, Int.reduceBEq, Int.reduceBNe, Int.reduceLE, Int.reduceLT, Int.reduceEq, decide_true, decide_false]; rfl)))
          | (rw [show Nat.ble t' t' = true from Nat.ble_self_eq_true t']))
        all_goals (try (conv => whnf))
        all_goals try (show Nat.ble _ _ = true; rfl)
        all_goals try (exfalso; rename_i hz; cases hz; done)
        all_goals try (exfalso; (try simp only [LN] at *) <;> omega)
        all_goals first
          | ((first | (with_reducible apply Z.retF2)); (focus (exact rfl)); (repeat' (first | exact trivial | (with_reducible apply Z.frz_one) | (with_reducible apply Z.fq_int) | (exact Z.frz_nil) | exact rfl | apply And.intro)); (all_goals (try exact (fun _ => none))); all_goals (first | (simp; done)))
      rcases r with _ | ⟨k, r⟩
      · refine dec_r2 b N i acc s HBr HLr HC HD hi (by omega) ⟨hbs.1, by omega⟩ (fun F' K' t' g4 g5 => ?_)
        have hD9 : decN N b = ([], 7, []) := by
          rw [HD, show N - i = (N - (i + 1)) + 1 by omega]
          exact preD_bad (by simp [dec1, hs]) (by decide)
        rw [hD9]
        refine ⟨[.one (.v (.slice none 0 0)), .one (.v (.int .i64 7))], res2 g4 g5, ?_⟩
        repeat' ((conv => whnf); first
          | with_reducible first | refine spB_t ?_
          | ((with_reducible apply spB_cong); (focus (simp only [beq_self_eq_true, bne_self_eq_false, Bool.true_bne, Bool.false_bne, Bool.bne_true, Bool.bne_false, Bool.true_beq, Bool.false_beq, Bool.not_true, Bool.not_false, Bool.not_not, Int.reduceBEq, Int.reduceBNe, Int.reduceLE, Int.reduceLT, Int.reduceEq, decide_true, decide_false]; rfl)))
          | (rw [show Nat.ble t' t' = true from Nat.ble_self_eq_true t']))
        all_goals (try (conv => whnf))
        all_goals try (show Nat.ble _ _ = true; rfl)
        all_goals try (exfalso; rename_i hz; cases hz; done)
        all_goals try (exfalso; (try simp only [LN] at *) <;> omega)
        all_goals first
          | ((first | (with_reducible apply Z.retF2)); (focus (exact rfl)); (repeat' (first | exact trivial | (with_reducible apply Z.frz_one) | (with_reducible apply Z.fq_int) | (exact Z.frz_nil) | exact rfl | apply And.intro)); (all_goals (try exact (fun _ => none))); all_goals (first | (simp; done)))
      have hbk := HBr k (by simp)
      by_cases hk : 32 ≤ k
      · refine dec_r3 b N i acc s k r HBr HLr HC HD hi (by omega) ⟨hbs.1, by omega⟩ hk (fun F' K' t' g4 g5 => ?_)
        have hD9 : decN N b = ([], 151, []) := by
          rw [HD, show N - i = (N - (i + 1)) + 1 by omega]
          exact preD_bad (by simp [dec1, hs, hk]) (by decide)
        rw [hD9]
        refine ⟨[.one (.v (.slice none 0 0)), .one (.v (.int .i64 151))], res2 g4 g5, ?_⟩
        repeat' ((conv => whnf); first
          | with_reducible first | refine spB_t ?_
          | ((with_reducible apply spB_cong); (focus (simp only [beq_self_eq_true, bne_self_eq_false, Bool.true_bne, Bool.false_bne, Bool.bne_true, Bool.bne_false, Bool.true_beq, Bool.false_beq, Bool.not_true, Bool.not_false, Bool.not_not, Int.reduceBEq, Int.reduceBNe, Int.reduceLE, Int.reduceLT, Int.reduceEq, decide_true, decide_false]; rfl)))
          | (rw [show Nat.ble t' t' = true from Nat.ble_self_eq_true t']))
        all_goals (try (conv => whnf))
        all_goals try (show Nat.ble _ _ = true; rfl)
        all_goals try (exfalso; rename_i hz; cases hz; done)
        all_goals try (exfalso; (try simp only [LN] at *) <;> omega)
        all_goals first
          | ((first | (with_reducible apply Z.retF2)); (focus (exact rfl)); (repeat' (first | exact trivial | (with_reducible apply Z.frz_one) | (with_reducible apply Z.fq_int) | (exact Z.frz_nil) | exact rfl | apply And.intro)); (all_goals (try exact (fun _ => none))); all_goals (first | (simp; done)))
      by_cases h4 : r.length < 8
      · refine dec_r4 b N i acc s k r HBr HLr HC HD hi (by omega) ⟨hbs.1, by omega⟩ ⟨hbk.1, by omega⟩ h4 (fun F' K' t' g4 g5 => ?_)
        have hD9 : decN N b = ([], 7, []) := by
          rw [HD, show N - i = (N - (i + 1)) + 1 by omega]
          exact preD_bad (by simp [dec1, hs, hk, h4]) (by decide)
        rw [hD9]
        refine ⟨[.one (.v (.slice none 0 0)), .one (.v (.int .i64 7))], res2 g4 g5, ?_⟩
        repeat' ((conv => whnf); first
          | with_reducible first | refine spB_t ?_
          | ((with_reducible apply spB_cong); (focus (simp only [beq_self_eq_true, bne_self_eq_false, Bool.true_bne, Bool.false_bne, Bool.bne_true, Bool.bne_false, Bool.true_beq, Bool.false_beq, Bool.not_true, Bool.not_false, Bool.not_not, Int.reduceBEq, Int.reduceBNe, Int.reduceLE, Int.reduceLT, Int.reduceEq, decide_true, decide_false]; rfl)))
          | (rw [show Nat.ble t' t' = true from Nat.ble_self_eq_true t']))
        all_goals (try (conv => whnf))
        all_goals try (show Nat.ble _ _ = true; rfl)
        all_goals try (exfalso; rename_i hz; cases hz; done)
        all_goals try (exfalso; (try simp only [LN] at *) <;> omega)
        all_goals first
          | ((first | (with_reducible apply Z.retF2)); (focus (exact rfl)); (repeat' (first | exact trivial | (with_reducible apply Z.frz_one) | (with_reducible apply Z.fq_int) | (exact Z.frz_nil) | exact rfl | apply And.intro)); (all_goals (try exact (fun _ => none))); all_goals (first | (simp; done)))
      · exact dec_r5 b N i acc s k r HBr HLr HC HD hi (by omega) ⟨hbs.1, by omega⟩ ⟨hbk.1, by omega⟩ (by omega)
    by_cases hk2 : kd = 2
    · subst hk2
      by_cases h4 : r.length < 8
      · refine dec_b0 b N i acc r HBr HLr HC HD hi (by omega) h4 (fun F' K' t' g4 g5 => ?_)
        have hD9 : decN N b = ([], 7, []) := by
          rw [HD, show N - i = (N - (i + 1)) + 1 by omega]
          exact preD_bad (by simp [dec1, h4]) (by decide)
        rw [hD9]
        refine ⟨[.one (.v (.slice none 0 0)), .one (.v (.int .i64 7))], res2 g4 g5, ?_⟩
        repeat' ((conv => whnf); first
          | with_reducible first | refine spB_t ?_
          | ((with_reducible apply spB_cong); (focus (simp only [beq_self_eq_true, bne_self_eq_false, Bool.true_bne, Bool.false_bne, Bool.bne_true, Bool.bne_false, Bool.true_beq, Bool.false_beq, Bool.not_true, Bool.not_false, Bool.not_not, Int.reduceBEq, Int.reduceBNe, Int.reduceLE, Int.reduceLT, Int.reduceEq, decide_true, decide_false]; rfl)))
          | (rw [show Nat.ble t' t' = true from Nat.ble_self_eq_true t']))
        all_goals (try (conv => whnf))
        all_goals try (show Nat.ble _ _ = true; rfl)
        all_goals try (exfalso; rename_i hz; cases hz; done)
        all_goals try (exfalso; (try simp only [LN] at *) <;> omega)
        all_goals first
          | ((first | (with_reducible apply Z.retF2)); (focus (exact rfl)); (repeat' (first | exact trivial | (with_reducible apply Z.frz_one) | (with_reducible apply Z.fq_int) | (exact Z.frz_nil) | exact rfl | apply And.intro)); (all_goals (try exact (fun _ => none))); all_goals (first | (simp; done)))
      by_cases h5 : 1 ≤ numR (r.take 8) ∧ numR (r.take 8) ≤ 4611686018427387904
      · exact dec_b2 b N i acc r HBr HLr HC HD hi (by omega) (by omega) h5
      · refine dec_b1 b N i acc r HBr HLr HC HD hi (by omega) (by omega) h5 (fun F' K' t' g4 g5 => ?_)
        have hD9 : decN N b = ([], 151, []) := by
          rw [HD, show N - i = (N - (i + 1)) + 1 by omega]
          exact preD_bad (by simp only [dec1, show (2 : Int) ≠ 1 by decide, if_false, if_true, if_neg h4, if_neg h5]) (by decide)
        rw [hD9]
        refine ⟨[.one (.v (.slice none 0 0)), .one (.v (.int .i64 151))], res2 g4 g5, ?_⟩
        repeat' ((conv => whnf); first
          | with_reducible first | refine spB_t ?_
          | ((with_reducible apply spB_cong); (focus (simp only [beq_self_eq_true, bne_self_eq_false, Bool.true_bne, Bool.false_bne, Bool.bne_true, Bool.bne_false, Bool.true_beq, Bool.false_beq, Bool.not_true, Bool.not_false, Bool.not_not, Int.reduceBEq, Int.reduceBNe, Int.reduceLE, Int.reduceLT, Int.reduceEq, decide_true, decide_false]; rfl)))
          | (rw [show Nat.ble t' t' = true from Nat.ble_self_eq_true t']))
        all_goals (try (conv => whnf))
        all_goals try (show Nat.ble _ _ = true; rfl)
        all_goals try (exfalso; rename_i hz; cases hz; done)
        all_goals try (exfalso; (try simp only [LN] at *) <;> omega)
        all_goals first
          | ((first | (with_reducible apply Z.retF2)); (focus (exact rfl)); (repeat' (first | exact trivial | (with_reducible apply Z.frz_one) | (with_reducible apply Z.fq_int) | (exact Z.frz_nil) | exact rfl | apply And.intro)); (all_goals (try exact (fun _ => none))); all_goals (first | (simp; done)))
    by_cases hk3 : kd = 3
    · subst hk3
      · exact dec_n0 b N i acc r HBr HLr HC HD hi (by omega) 
    · refine dec_x b N i acc kd r HBr HLr HC HD hi (by omega) hk1 hk2 hk3 (fun F' K' t' g4 g5 => ?_)
      have hD9 : decN N b = ([], 151, []) := by
        rw [HD, show N - i = (N - (i + 1)) + 1 by omega]
        exact preD_bad (by simp [dec1, hk1, hk2, hk3]) (by decide)
      rw [hD9]
      refine ⟨[.one (.v (.slice none 0 0)), .one (.v (.int .i64 151))], res2 g4 g5, ?_⟩
      repeat' ((conv => whnf); first
        | with_reducible first | refine spB_t ?_
        | ((with_reducible apply spB_cong); (focus (simp only [beq_self_eq_true, bne_self_eq_false, Bool.true_bne, Bool.false_bne, Bool.bne_true, Bool.bne_false, Bool.true_beq, Bool.false_beq, Bool.not_true, Bool.not_false, Bool.not_not, Int.reduceBEq, Int.reduceBNe, Int.reduceLE, Int.reduceLT, Int.reduceEq, decide_true, decide_false]; rfl)))
        | (rw [show Nat.ble t' t' = true from Nat.ble_self_eq_true t']))
      all_goals (try (conv => whnf))
      all_goals try (show Nat.ble _ _ = true; rfl)
      all_goals try (exfalso; rename_i hz; cases hz; done)
      all_goals try (exfalso; (try simp only [LN] at *) <;> omega)
      all_goals first
        | ((first | (with_reducible apply Z.retF2)); (focus (exact rfl)); (repeat' (first | exact trivial | (with_reducible apply Z.frz_one) | (with_reducible apply Z.fq_int) | (exact Z.frz_nil) | exact rfl | apply And.intro)); (all_goals (try exact (fun _ => none))); all_goals (first | (simp; done)))
  have hil : i = N := by omega
  subst hil
  rw [Nat.sub_self] at HD
  have hD9 : decN i b = (acc, 0, r) := by rw [HD]; simp [preD, decN]
  rw [hD9]
  dsimp only [dCH, dFk, dCK, dKk]
  simp only [if_true]
  rcases r with _ | ⟨x, r⟩
  all_goals (
    repeat' ((conv => whnf); first
      | ((with_reducible apply spB_cong); (focus (simp only [beq_self_eq_true, bne_self_eq_false, Bool.true_bne, Bool.false_bne, Bool.bne_true, Bool.bne_false, Bool.true_beq, Bool.false_beq, Bool.not_true, Bool.not_false, Bool.not_not, Int.reduceBEq, Int.reduceBNe, Int.reduceLE, Int.reduceLT, Int.reduceEq, decide_true, decide_false]; rfl)))
      | with_reducible first | refine spB_no (by decide) ?_
      | (with_reducible refine spB_dec ?_ ?_ <;> intro _ <;> (try (exfalso; first | contradiction | omega | (rename_i hz; refine hz ?_; simp; done) | (rename_i hz; simp at hz; done) | (simp only [LN] at *; omega))))
      | with_reducible first | refine Z.callZ_in tabOk 10 Try.f35 _ Try.func35 (by kernel_rfl) rfl rfl rfl ?_ | refine Z.callZ_in tabOk 11 Try.f36 _ Try.func36 (by kernel_rfl) rfl rfl rfl ?_
      | ((with_reducible apply ex_and); exact rfl))
    all_goals (try (conv => whnf)))
  all_goals try (show Nat.ble _ _ = true; rfl)
  all_goals try (exfalso; rename_i hz; cases hz; done)
  all_goals try (exfalso; (try simp only [LN] at *) <;> omega)
  all_goals first
    | ((first | (with_reducible apply Z.retF2)); (focus (exact rfl)); (repeat' (first | exact trivial | (with_reducible apply Z.frz_one) | (with_reducible apply Z.fq_int) | (exact Z.frz_nil) | ((with_reducible apply Z.fq_gsl); (focus (first | exact Z.isB_map _)); (focus (exact fun _ => rfl))) | exact rfl | apply And.intro)); (all_goals (try exact (fun _ => none))); all_goals (first | (simp; done)))

end Go.Proofs.Ytpnfogckdceiaaa
namespace Go.Proofs.Ytpnfogckdceiaaa
open Go Go.RowKit Wx
set_option linter.unusedVariables false
set_option linter.unusedSimpArgs false
set_option maxHeartbeats 40000000
end Go.Proofs.Ytpnfogckdceiaaa
namespace Go.Proofs.Ytpnfogckdceiaaa
open Go Go.RowKit Wx
set_option linter.unusedVariables false
set_option linter.unusedSimpArgs false
set_option maxHeartbeats 4000000
theorem wakes_con : Con Try.prog 8 [] (fun x K t => x = .val (.bool true) ∧ K = [] ∧ t = 0) := Y.con_run ftabOk tabOk mixOk 40 12 (by kernel_rfl) (by kernel_rfl)
theorem decN_len : ∀ (n : Nat) (b : List Int), (decN n b).1.length ≤ n
  | 0, b => by simp [decN]
  | n + 1, b => by
    have h := decN_len n (dec1 b).2.2
    rw [decN]
    split
    · split
      · simpa using h
      · simp
    · simp
theorem decR_len (b : List Int) : (decR b).1.length ≤ 9223372036854775807 := by
  rcases b with _ | ⟨n, r⟩
  · simp [decR]
  · have h := decN_len n.toNat r
    show (if (200 : Int) < n then (([], 3) : List El × Int) else if (decN n.toNat r).2.1 = 0 then (if (decN n.toNat r).2.2 = [] then ((decN n.toNat r).1, 0) else ([], 151)) else ([], (decN n.toNat r).2.1)).1.length ≤ _
    by_cases h1 : 200 < n
    · rw [if_pos h1]; simp
    · rw [if_neg h1]
      split
      · split
        · show (decN n.toNat r).1.length ≤ _; omega
        · simp
      · simp
end Go.Proofs.Ytpnfogckdceiaaa
namespace Go.Proofs.Ytpnfogckdceiaaa
open Go Go.RowKit Wx
set_option linter.unusedVariables false
set_option linter.unusedSimpArgs false
set_option maxHeartbeats 4000000
/-- Is it an element as it comes in? -/
def wfE (e : El) : Prop := (-9223372036854775808 ≤ e.val ∧ e.val ≤ 9223372036854775807) ∧ 0 ≤ e.num
theorem el_1 {e : El} (h : okE e = true) (h1 : e.kd = 1) : e = ⟨1, e.src, e.key, e.val, 0⟩ ∧ (0 ≤ e.src ∧ e.src < 8) ∧ 0 ≤ e.key ∧ e.key < 32 := by
  have := okE_all h
  obtain ⟨a, b, c, d, f⟩ := e
  simp only at h1 this ⊢
  subst h1
  exact ⟨by congr 1; omega, by omega, by omega, by omega⟩
theorem el_2 {e : El} (h : okE e = true) (h1 : e.kd = 2) : e = ⟨2, 0, 0, 0, e.num⟩ ∧ 1 ≤ e.num ∧ e.num ≤ 4611686018427387904 := by
  have := okE_all h
  obtain ⟨a, b, c, d, f⟩ := e
  simp only at h1 this ⊢
  subst h1
  exact ⟨by congr 1 <;> omega, by omega, by omega⟩
theorem el_3 {e : El} (h : okE e = true) (h1 : e.kd = 3) : e = ⟨3, 0, 0, 0, 0⟩ := by
  have := okE_all h
  obtain ⟨a, b, c, d, f⟩ := e
  simp only at h1 this ⊢
  subst h1
  congr 1 <;> omega
theorem num_be8 {x : Int} (h : 0 ≤ x ∧ x < 18446744073709551616) : numR (be 8 x) = x := by
  have h3 : (256 : Int) ^ 8 = 18446744073709551616 := by decide
  exact numR_be h.1 (by rw [h3]; exact h.2)
theorem dec_enc1 {e : El} {r : List Int} (h : okE e = true) (hw : wfE e) : dec1 (encE e ++ r) = (e, 0, r) := by
  rcases okE_all h with g | g | g
  · obtain ⟨e1, hs, hk1, hk2⟩ := el_1 h g.1
    have hl := @be_len 8 (IntKind.u64.wrap e.val)
    rw [show encE e = 1 :: e.src :: e.key :: be 8 (IntKind.u64.wrap e.val) by unfold encE; rw [if_pos g.1, g.1]]
    show dec1 (1 :: e.src :: e.key :: (be 8 (IntKind.u64.wrap e.val) ++ r)) = _
    rw [dec1_r hs.2 hk2 (by rw [List.length_append]; omega), List.take_left' hl, List.drop_left' hl, num_be8 (u64_rng _), i64_u64 hw.1, ← e1]
  · obtain ⟨e1, hn⟩ := el_2 h g.1
    have hl := @be_len 8 e.num
    rw [show encE e = 2 :: be 8 e.num by unfold encE; rw [if_neg (by omega), if_pos g.1, g.1]]
    show dec1 (2 :: (be 8 e.num ++ r)) = _
    have h8 := num_be8 (x := e.num) (by omega)
    rw [dec1_b (by rw [List.length_append]; omega) (by rw [List.take_left' hl, h8]; exact hn), List.take_left' hl, List.drop_left' hl, h8, ← e1]
  · rw [show encE e = [3] by unfold encE; rw [if_neg (by omega), if_neg (by omega), g.1]]
    exact congrArg (fun z => (z, 0, r)) (el_3 h g.1).symm
theorem dec_encN {r : List Int} : ∀ {l : List El}, okEs l = true → (∀ e ∈ l, wfE e) → decN l.length (encs l ++ r) = (l, 0, r)
  | [], _, _ => rfl
  | e :: l, h, hw => by
    have h1 : okE e = true ∧ okEs l = true := by simpa [okEs] using h
    have ih := dec_encN (r := r) h1.2 (fun x hx => hw x (List.mem_cons_of_mem _ hx))
    have h2 : dec1 (encs (e :: l) ++ r) = (e, 0, encs l ++ r) := by
      rw [show encs (e :: l) ++ r = encE e ++ (encs l ++ r) by simp [encs]]
      exact dec_enc1 h1.1 (hw e (List.mem_cons_self ..))
    rw [List.length_cons, decN, h2]
    simp only [ih, if_true]
theorem dec_encR {l : List El} (h : okEs l = true) (hw : ∀ e ∈ l, wfE e) (hl : l.length ≤ 200) : decR (enc l) = (l, 0) := by
  have h1 := dec_encN (r := []) h hw
  rw [List.append_nil] at h1
  show (if (200 : Int) < (l.length : Int) then (([], 3) : List El × Int) else _) = _
  rw [if_neg (by omega), Int.toNat_natCast, h1]
  simp
theorem pre_1 {e : El} (h : okE e = true) {j : Nat} (hj : j < (encE e).length) : (dec1 ((encE e).take j)).2.1 = 7 := by
  rcases okE_all h with g | g | g
  · obtain ⟨e1, hs, hk1, hk2⟩ := el_1 h g.1
    have hl := @be_len 8 (IntKind.u64.wrap e.val)
    have hE : encE e = 1 :: e.src :: e.key :: be 8 (IntKind.u64.wrap e.val) := by unfold encE; rw [if_pos g.1, g.1]
    rw [hE] at hj ⊢
    simp only [List.length_cons, hl] at hj
    match j, hj with
    | 0, _ => rfl
    | 1, _ => rfl
    | 2, _ => simp [dec1, show ¬ 8 ≤ e.src by omega]
    | j + 3, hj => simp [dec1, show ¬ 8 ≤ e.src by omega, show ¬ 32 ≤ e.key by omega, hl, show j < 8 by omega, show min j 8 < 8 by omega]
  · have hl := @be_len 8 e.num
    have hE : encE e = 2 :: be 8 e.num := by unfold encE; rw [if_neg (by omega), if_pos g.1, g.1]
    rw [hE] at hj ⊢
    simp only [List.length_cons, hl] at hj
    match j, hj with
    | 0, _ => rfl
    | j + 1, hj => simp [dec1, hl, show j < 8 by omega, show min j 8 < 8 by omega]
  · have hE : encE e = [3] := by unfold encE; rw [if_neg (by omega), if_neg (by omega), g.1]
    rw [hE] at hj ⊢
    simp only [List.length_cons, List.length_nil] at hj
    obtain rfl : j = 0 := by omega
    rfl
theorem pre_N : ∀ {l : List El} {j : Nat}, okEs l = true → (∀ e ∈ l, wfE e) → j < (encs l).length → (decN l.length ((encs l).take j)).2.1 = 7
  | [], j, _, _, hj => by simp [encs] at hj
  | e :: l, j, h, hw, hj => by
    have h1 : okE e = true ∧ okEs l = true := by simpa [okEs] using h
    have hE : encs (e :: l) = encE e ++ encs l := by simp [encs]
    rw [hE] at hj ⊢
    rw [List.length_cons, decN]
    by_cases hk : j < (encE e).length
    · rw [List.take_append_of_le_length (by omega), if_neg (by rw [pre_1 h1.1 hk]; decide)]
      exact pre_1 h1.1 hk
    · obtain ⟨i, rfl⟩ : ∃ i, j = (encE e).length + i := ⟨j - (encE e).length, by omega⟩
      rw [List.take_append, Nat.add_sub_cancel_left, List.take_of_length_le (by omega)]
      have ih := pre_N (j := i) h1.2 (fun x hx => hw x (List.mem_cons_of_mem _ hx)) (by rw [List.length_append] at hj; omega)
      rw [dec_enc1 h1.1 (hw e (List.mem_cons_self ..))]
      simp only [if_true]
      rw [if_neg (by rw [ih]; decide)]
      exact ih
theorem pre_R {l : List El} {k : Nat} (h : okEs l = true) (hw : ∀ e ∈ l, wfE e) (hl : l.length ≤ 200) (hk : k < (enc l).length) : decR ((enc l).take k) = ([], 7) := by
  rcases k with _ | k
  · rfl
  · have h1 := pre_N (j := k) h hw (by simpa [enc] using hk)
    show (if (200 : Int) < (l.length : Int) then (([], 3) : List El × Int) else _) = _
    rw [if_neg (by omega), Int.toNat_natCast, if_neg (by rw [h1]; decide), h1]
/-- What is read leads back. -/
theorem i64_rng (z : Int) : -9223372036854775808 ≤ IntKind.i64.wrap z ∧ IntKind.i64.wrap z ≤ 9223372036854775807 := by
  simp only [IntKind.wrap, IntKind.bits, IntKind.signed]
  simp
  omega
theorem enc_dec1 {b r : List Int} {e : El} (hB : isB b) (h : dec1 b = (e, 0, r)) : b = encE e ++ r ∧ okE e = true ∧ wfE e ∧ isB r := by
  rcases b with _ | ⟨kd, b⟩
  · simp [dec1] at h
  by_cases h1 : kd = 1
  · subst h1
    rcases b with _ | ⟨s, b⟩
    · simp [dec1] at h
    by_cases hs : 8 ≤ s
    · simp [dec1, hs] at h
    rcases b with _ | ⟨k, b⟩
    · simp [dec1, hs] at h
    by_cases hk : 32 ≤ k
    · simp [dec1, hs, hk] at h
    by_cases h8 : b.length < 8
    · simp [dec1, hs, hk, h8] at h
    have hbs := hB s (by simp)
    have hbk := hB k (by simp)
    have hBr : isB b := fun x hx => hB x (by simp [hx])
    rw [dec1_r (by omega) (by omega) (by omega)] at h
    simp only [Prod.mk.injEq, true_and] at h
    obtain ⟨rfl, rfl⟩ := h
    have hl8 : (b.take 8).length = 8 := by simp; omega
    have hn := numR_lt (n := 8) hl8 (isB_take hBr)
    have h3 : (256 : Int) ^ 8 = 18446744073709551616 := by decide
    rw [h3] at hn
    refine ⟨?_, decide_eq_true (Or.inl ⟨rfl, ⟨hbs.1, by show s < 8; omega, hbk.1, by show k < 32; omega⟩, rfl⟩), ⟨i64_rng _, Int.le_refl _⟩, isB_drop hBr⟩
    show 1 :: s :: k :: b = 1 :: s :: k :: (be 8 (IntKind.u64.wrap (IntKind.i64.wrap (numR (b.take 8)))) ++ b.drop 8)
    rw [u64_i64 hn, be_numR hl8 (isB_take hBr), List.take_append_drop]
  by_cases h2 : kd = 2
  · subst h2
    have hBr : isB b := fun x hx => hB x (by simp [hx])
    by_cases h8 : b.length < 8
    · simp [dec1, h8] at h
    by_cases h5 : 1 ≤ numR (b.take 8) ∧ numR (b.take 8) ≤ 4611686018427387904
    · rw [dec1_b (by omega) h5] at h
      simp only [Prod.mk.injEq, true_and] at h
      obtain ⟨rfl, rfl⟩ := h
      have hl8 : (b.take 8).length = 8 := by simp; omega
      refine ⟨?_, decide_eq_true (Or.inr (Or.inl ⟨rfl, ⟨rfl, rfl, rfl⟩, by show 0 < numR (b.take 8); omega, h5.2⟩)), ⟨⟨by show (-9223372036854775808 : Int) ≤ 0; decide, by show (0 : Int) ≤ 9223372036854775807; decide⟩, by show 0 ≤ numR (b.take 8); omega⟩, isB_drop hBr⟩
      show 2 :: b = 2 :: (be 8 (numR (b.take 8)) ++ b.drop 8)
      rw [be_numR hl8 (isB_take hBr), List.take_append_drop]
    · simp only [dec1, show (2 : Int) ≠ 1 by decide, if_false, if_true, if_neg h8, if_neg h5] at h
      cases h
  by_cases h3 : kd = 3
  · subst h3
    simp only [dec1, show (3 : Int) ≠ 1 by decide, show (3 : Int) ≠ 2 by decide, if_false, if_true, Prod.mk.injEq, true_and] at h
    obtain ⟨rfl, rfl⟩ := h
    exact ⟨rfl, by decide, ⟨⟨by decide, by decide⟩, by decide⟩, fun x hx => hB x (by simp [hx])⟩
  · simp [dec1, h1, h2, h3] at h
theorem enc_decN : ∀ {n : Nat} {b r : List Int} {l : List El}, isB b → decN n b = (l, 0, r) → b = encs l ++ r ∧ l.length = n ∧ okEs l = true ∧ (∀ e ∈ l, wfE e)
  | 0, b, r, l, _, h => by
    simp only [decN, Prod.mk.injEq, true_and] at h
    obtain ⟨rfl, rfl⟩ := h
    exact ⟨rfl, rfl, rfl, by simp⟩
  | n + 1, b, r, l, hB, h => by
    rw [decN] at h
    by_cases h1 : (dec1 b).2.1 = 0
    · rw [if_pos h1] at h
      by_cases h2 : (decN n (dec1 b).2.2).2.1 = 0
      · rw [if_pos h2] at h
        simp only [Prod.mk.injEq, true_and] at h
        obtain ⟨rfl, rfl⟩ := h
        have e1 : dec1 b = ((dec1 b).1, 0, (dec1 b).2.2) := by rw [← h1]
        obtain ⟨g1, g2, g3, g4⟩ := enc_dec1 hB e1
        have e2 : decN n (dec1 b).2.2 = ((decN n (dec1 b).2.2).1, 0, (decN n (dec1 b).2.2).2.2) := by rw [← h2]
        obtain ⟨k1, k2, k3, k4⟩ := enc_decN g4 e2
        refine ⟨?_, by rw [List.length_cons, k2], by simp [okEs, g2]; simpa [okEs] using k3, fun x hx => ?_⟩
        · rw [show encs ((dec1 b).1 :: (decN n (dec1 b).2.2).1) = encE (dec1 b).1 ++ encs (decN n (dec1 b).2.2).1 by simp [encs], List.append_assoc, ← k1]; exact g1
        · rcases List.mem_cons.1 hx with rfl | hx
          · exact g3
          · exact k4 x hx
      · rw [if_neg h2] at h
        simp only [Prod.mk.injEq] at h
        exact absurd h.2.1 h2
    · rw [if_neg h1] at h
      simp only [Prod.mk.injEq] at h
      exact absurd h.2.1 h1
theorem enc_decR {b : List Int} {l : List El} (hB : isB b) (h : decR b = (l, 0)) : encR l = (b, 0) ∧ (∀ e ∈ l, wfE e) := by
  rcases b with _ | ⟨n, r⟩
  · simp [decR] at h
  have hn := hB n (by simp)
  have h' : (if (200 : Int) < n then (([], 3) : List El × Int) else if (decN n.toNat r).2.1 = 0 then (if (decN n.toNat r).2.2 = [] then ((decN n.toNat r).1, 0) else ([], 151)) else ([], (decN n.toNat r).2.1)) = (l, 0) := h
  by_cases h1 : 200 < n
  · rw [if_pos h1] at h'; simp at h'
  rw [if_neg h1] at h'
  by_cases h2 : (decN n.toNat r).2.1 = 0
  · rw [if_pos h2] at h'
    by_cases h3 : (decN n.toNat r).2.2 = []
    · rw [if_pos h3] at h'
      simp only [Prod.mk.injEq, and_true] at h'
      subst h'
      have e2 : decN n.toNat r = ((decN n.toNat r).1, 0, []) := by rw [← h2, ← h3]
      obtain ⟨k1, k2, k3, k4⟩ := enc_decN (fun x hx => hB x (by simp [hx])) e2
      rw [List.append_nil] at k1
      refine ⟨?_, k4⟩
      unfold encR
      rw [if_neg (by omega), k3]
      show ((((decN n.toNat r).1.length : Int) :: encs (decN n.toNat r).1), (0 : Int)) = _
      rw [k2, ← k1, Int.toNat_of_nonneg hn.1]
    · rw [if_neg h3] at h'; simp at h'
  · rw [if_neg h2] at h'
    simp only [Prod.mk.injEq] at h'
    exact absurd h'.2 h2
theorem enc_isB {l : List El} (h : okEs l = true) (hw : ∀ e ∈ l, wfE e) (hl : l.length ≤ 200) : isB (enc l) := by
  intro b hb
  rcases List.mem_cons.1 hb with rfl | hb
  · omega
  · obtain ⟨e, he, hbe⟩ := List.mem_flatMap.1 hb
    have hok := List.all_eq_true.1 h e he
    have hk := okE_all hok
    unfold encE at hbe
    split at hbe
    · rcases List.mem_cons.1 hbe with rfl | hbe
      · omega
      rcases List.mem_cons.1 hbe with rfl | hbe
      · omega
      rcases List.mem_cons.1 hbe with rfl | hbe
      · omega
      exact be_isB b hbe
    · split at hbe
      · rcases List.mem_cons.1 hbe with rfl | hbe
        · omega
        exact be_isB b hbe
      · rw [List.mem_singleton.1 hbe]; omega
end Go.Proofs.Ytpnfogckdceiaaa
