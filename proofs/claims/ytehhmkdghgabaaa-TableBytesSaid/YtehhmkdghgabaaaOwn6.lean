import Derived.Test.YtehhmkdghgabaaaLib3
import Derived.Test.YtehhmkdghgabaaaLib4
import Derived.Test.YtehhmkdghgabaaaLib5
namespace Go.Proofs.Ytehhmkdghgabaaa
open Go Go.RowKit Wx
set_option linter.unusedVariables false
set_option linter.unusedSimpArgs false
set_option maxHeartbeats 4000000
abbrev eB (z : Int) : List RT := [RT.v (.int .u8 z)]
abbrev cB (z : Int) : List Ce := [Ce.v (.int .u8 z)]
def be : Nat → Int → List Int
  | 0, _ => []
  | n + 1, x => be n (x / 256) ++ [x % 256]
theorem be_len : ∀ {n : Nat} {x : Int}, (be n x).length = n
  | 0, _ => rfl
  | n + 1, x => by rw [be, List.length_append, be_len]; rfl
def numR (l : List Int) : Int := l.foldl (fun x b => x * 256 + b) 0
theorem numR_snoc {l : List Int} {b : Int} : numR (l ++ [b]) = numR l * 256 + b := by unfold numR; rw [List.foldl_append]; rfl
def isB (l : List Int) : Prop := ∀ b ∈ l, 0 ≤ b ∧ b ≤ 255
theorem numR_lt : ∀ {n : Nat} {l : List Int}, l.length = n → isB l → 0 ≤ numR l ∧ numR l < 256 ^ n
  | 0, l, h, _ => by rw [List.length_eq_zero_iff.1 h]; decide
  | n + 1, l, h, hb => by
    rcases List.eq_nil_or_concat l with e | ⟨l', b, e⟩
    · subst e; simp at h
    · rw [List.concat_eq_append] at e
      subst e
      have h1 := numR_lt (n := n) (l := l') (by simpa using h) (fun x hx => hb x (List.mem_append_left _ hx))
      have h2 := hb b (by simp)
      rw [numR_snoc, Int.pow_succ]
      omega
theorem be_numR : ∀ {n : Nat} {l : List Int}, l.length = n → isB l → be n (numR l) = l
  | 0, l, h, _ => by rw [List.length_eq_zero_iff.1 h]; rfl
  | n + 1, l, h, hb => by
    rcases List.eq_nil_or_concat l with e | ⟨l', b, e⟩
    · subst e; simp at h
    · rw [List.concat_eq_append] at e
      subst e
      have h2 := hb b (by simp)
      rw [be, numR_snoc, show (numR l' * 256 + b) / 256 = numR l' by omega, show (numR l' * 256 + b) % 256 = b by omega, be_numR (by simpa using h) (fun x hx => hb x (List.mem_append_left _ hx))]
theorem u8_mod (z : Int) : IntKind.u8.wrap z = z % 256 := by
  simp [IntKind.wrap, IntKind.bits, IntKind.signed]
theorem wr_mod8 {z : Int} {A : Int → Prop} (h : A (z % 256)) : wr .u8 z A := ⟨_, u8_mod z, h⟩
theorem u64_mod (z : Int) : IntKind.u64.wrap z = z % 18446744073709551616 := by
  simp [IntKind.wrap, IntKind.bits, IntKind.signed]
theorem u64_rng (z : Int) : 0 ≤ IntKind.u64.wrap z ∧ IntKind.u64.wrap z < 18446744073709551616 := by rw [u64_mod]; omega
theorem u64_i64 {z : Int} (h : 0 ≤ z ∧ z < 18446744073709551616) : IntKind.u64.wrap (IntKind.i64.wrap z) = z := by
  rw [u64_mod]
  simp [IntKind.wrap, IntKind.bits, IntKind.signed]
  omega
theorem and255 {x : Int} (h : 0 ≤ x ∧ x < 18446744073709551616) : IntKind.u64.wrap ((BitVec.ofInt IntKind.u64.bits x &&& BitVec.ofInt IntKind.u64.bits 255).toNat : Int) = x % 256 := by
  obtain ⟨n, rfl⟩ := Int.eq_ofNat_of_zero_le h.1
  have h2 : n < 18446744073709551616 := by omega
  rw [u64_mod]
  show ((BitVec.ofInt 64 (n : Int) &&& BitVec.ofInt 64 255).toNat : Int) % 18446744073709551616 = _
  rw [BitVec.toNat_and]
  have e1 : (BitVec.ofInt 64 (n : Int)).toNat = n := by simp [BitVec.toNat_ofInt]; omega
  have e2 : (BitVec.ofInt 64 255).toNat = 255 := by decide
  rw [e1, e2, show n &&& 255 = n % 256 from Nat.and_two_pow_sub_one_eq_mod n 8]
  omega
theorem or256 {x b : Int} (h : 0 ≤ x ∧ x < 72057594037927936) (hb : 0 ≤ b ∧ b ≤ 255) : IntKind.u64.wrap ((BitVec.ofInt IntKind.u64.bits (IntKind.u64.wrap (x * 2 ^ 8)) ||| BitVec.ofInt IntKind.u64.bits (IntKind.u64.wrap b)).toNat : Int) = x * 256 + b := by
  obtain ⟨n, rfl⟩ := Int.eq_ofNat_of_zero_le h.1
  obtain ⟨c, rfl⟩ := Int.eq_ofNat_of_zero_le hb.1
  rw [u64_mod, u64_mod, u64_mod]
  have a1 : ((n : Int) * 2 ^ 8) % 18446744073709551616 = ((n * 256 : Nat) : Int) := by omega
  have a2 : (c : Int) % 18446744073709551616 = ((c : Nat) : Int) := by omega
  rw [a1, a2]
  show ((BitVec.ofInt 64 ((n * 256 : Nat) : Int) ||| BitVec.ofInt 64 (c : Int)).toNat : Int) % 18446744073709551616 = _
  rw [BitVec.toNat_or]
  have e1 : (BitVec.ofInt 64 ((n * 256 : Nat) : Int)).toNat = n * 256 := by simp [BitVec.toNat_ofInt]; omega
  have e2 : (BitVec.ofInt 64 (c : Int)).toNat = c := by simp [BitVec.toNat_ofInt]; omega
  have e3 : n * 256 ||| c = n * 256 + c := by
    rw [show n * 256 = n <<< 8 by rw [Nat.shiftLeft_eq]]
    exact (Nat.shiftLeft_add_eq_or_of_lt (by omega) n).symm
  rw [e1, e2, e3]
  omega
theorem put_set {b T : List Int} {m : Nat} {z : Int} : ((b ++ List.replicate (m + 1) 0 ++ T).map cB).set (0 + (b.length + m)) (cB z) = (b ++ List.replicate m 0 ++ (z :: T)).map cB := by
  rw [Nat.zero_add, List.replicate_succ', show b ++ (List.replicate m (0 : Int) ++ [0]) ++ T = (b ++ List.replicate m 0) ++ 0 :: T by simp, List.map_append, List.map_cons, Z.set_mid (by simp)]
  simp
theorem put_lay {b : List Int} {n k : Nat} {fl : Bool} (hk : b.length ≤ k) : lay (List.replicate (b.length + n) (cB 0)) 0 (List.take k ((b.map eB).map (List.map (RT.ce fl)))) = (b ++ List.replicate n 0 ++ []).map cB := by
  rw [List.take_of_length_le (by simpa using hk)]
  have h1 : ((b.map eB).map (List.map (RT.ce fl))) = b.map cB := map_ce fun _ => rfl
  rw [h1, List.append_nil, List.map_append, List.map_replicate]
  unfold lay
  simp
theorem mkN_any {lz cz : Int} (l : Nat) {bt : Nat} {A : Nat → Nat → Prop} (e1 : lz = (l : Int)) (e2 : cz = (l : Int)) (h2 : l ≤ maxLen) (h3 : bt * l ≤ 140737488355328) (k : A l l) : mkN lz cz bt A := ⟨l, l, e1, e2, Nat.le_refl _, h2, h3, k⟩
theorem put_row {b T : List Int} {m : Nat} : ((b ++ List.replicate (m + 1) 0 ++ T).map cB)[0 + (b.length + m)]? = some (cB 0) := by
  rw [Nat.zero_add, List.replicate_succ', show b ++ (List.replicate m (0 : Int) ++ [0]) ++ T = (b ++ List.replicate m 0) ++ 0 :: T by simp, List.map_append, List.map_cons, Z.get_mid (by simp)]
theorem vN_shr8 {p : Int} {A : Int → Prop} (hp : 0 ≤ p) (h : A (p / 256)) : vN (p.fdiv (2 ^ (min (Int.toNat 8) IntKind.u64.bits))) A := ⟨_, Int.fdiv_eq_ediv_of_nonneg _ (by decide), h⟩
theorem ce_cB {fl : Bool} {l : List Int} : (l.map eB).map (List.map (RT.ce fl)) = l.map cB := map_ce fun _ => rfl
theorem ret1g {T : Tab} {rs : List ResultVar} {s : S} {post : AV → Kr → Nat → Prop} (i : Nat) (rows : List (List Ce)) (sz : Nat) (ty : TypeId) (xs : List A0) (h : resL T s rs = some xs) {rows' rows2 : List (List Ce)} (hx : retV xs = .c (.gsl i rows')) (hK : kg s.K i = some ⟨rows2, sz, ty, false⟩) (e : rows' = rows) (e2 : rows2 = rows) (hf : rows.map (List.map (Ce.ren (rn [i] s.top))) = rows) (ho2 : ∀ r ∈ rows, ∀ c ∈ r, c.own' = true) (hp : post (.c (.gsl 0 rows)) [(0, some ⟨rows, sz, ty, false⟩)] 1) : retN T rs s post := by
  subst e e2
  exact ret1 xs h [i] (.c (.gsl 0 rows2)) [(0, some ⟨rows2, sz, ty, false⟩)] hx ⟨blk_sub (r := rn [i] s.top) (j := 0) hK rfl hf, trivial⟩ (by simp) rfl (own_one ho2) (by simp) hp
theorem and8 {x : Int} (h : 0 ≤ x ∧ x < 18446744073709551616) : IntKind.u8.wrap (IntKind.u64.wrap ((BitVec.ofInt IntKind.u64.bits x &&& BitVec.ofInt IntKind.u64.bits 255).toNat : Int)) = x % 256 := by
  rw [and255 h, u8_mod]; omega
theorem ren_cB {l : List Int} {r : Nat → Nat} : (l.map cB).map (List.map (Ce.ren r)) = l.map cB := ren_map fun _ => rfl
theorem gB_r {l : List Int} {r : Nat → Nat} (hne : l ≠ []) : (some ⟨(l.map cB).map (List.map (Ce.ren r)), 1, 5, false⟩ : Option Blk) = gB 1 5 (l.map cB) := by
  rw [ren_cB, gB_ne (by simpa using hne)]
theorem app_lit {A C : List Int} {S : List (List Ce)} {B : List Int} (hS : S = B.map cB) (h : C = A ++ B) : A.map cB ++ S = C.map cB := by
  rw [hS, h, List.map_append]
theorem low_int {K : Nat → Option Blk} {k : IntKind} {a b : Int} (h : a = b) : lowV K (.val (.int k a)) (.one (.v (.int k b))) := by subst h; rfl
theorem isB_take {l : List Int} {n : Nat} (h : isB l) : isB (l.take n) := fun b hb => h b (List.mem_of_mem_take hb)
theorem isB_drop {l : List Int} {n : Nat} (h : isB l) : isB (l.drop n) := fun b hb => h b (List.mem_of_mem_drop hb)
theorem rest_at {R : List (List RT)} {l : List Int} {j : Nat} {z : Int} (hR : R = l.map eB) (h : l[j]? = some z) : R[j]? = some (eB z) := by
  rw [hR, List.getElem?_map, h]; rfl
theorem pow_le7 {j : Nat} (h : j ≤ 7) : (256 : Int) ^ j ≤ 256 ^ 7 := by
  have : ∀ j : Fin 8, (256 : Int) ^ j.1 ≤ 256 ^ 7 := by decide
  exact this ⟨j, by omega⟩
theorem num_lt {l : List Int} {i : Nat} (hi : i < 8) (hl : i ≤ l.length) (hB : isB l) : 0 ≤ numR (l.take i) ∧ numR (l.take i) < 72057594037927936 := by
  have h1 := numR_lt (n := i) (l := l.take i) (by simp; omega) (isB_take hB)
  have h2 := pow_le7 (j := i) (by omega)
  have h3 : (256 : Int) ^ 7 = 72057594037927936 := by decide
  rw [h3] at h2
  exact ⟨h1.1, Int.lt_of_lt_of_le h1.2 h2⟩
theorem ap3 {r : List Int} : r = r.take 8 ++ ((r.drop 8).take 8 ++ r.drop 16) := by
  conv => lhs; rw [← List.take_append_drop 8 r, ← List.take_append_drop 8 (r.drop 8), List.drop_drop]
theorem num8 {l : List Int} (hl : l.length = 8) (hB : isB l) : be 8 (IntKind.u64.wrap (IntKind.i64.wrap (numR l))) = l := by
  have h := numR_lt hl hB
  rw [u64_i64 ⟨h.1, by have := h.2; simpa using this⟩, be_numR hl hB]
theorem i64_rng (z : Int) : -9223372036854775808 ≤ IntKind.i64.wrap z ∧ IntKind.i64.wrap z ≤ 9223372036854775807 := by
  simp [IntKind.wrap, IntKind.bits, IntKind.signed]
  omega
def cmpI (a b : Int) : Int := if a < b then -1 else if b < a then 1 else 0
def cmpR (s k s2 k2 : Int) : Int := if cmpI s s2 ≠ 0 then cmpI s s2 else cmpI k k2
structure Kc where
  src : Int
  key : Int
  cnt : Int
  sum : Int
deriving DecidableEq
def keyOk (s k : Int) : Bool := decide ((0 ≤ s ∧ s < 8) ∧ 0 ≤ k ∧ k < 32)
def kLt (s k s2 k2 : Int) : Prop := s < s2 ∨ (s = s2 ∧ k < k2)
instance (s k s2 k2 : Int) : Decidable (kLt s k s2 k2) := by unfold kLt; infer_instance
def okT : Option Kc → List Kc → Bool
  | _, [] => true
  | none, x :: r => keyOk x.src x.key && decide (0 < x.cnt) && okT (some x) r
  | some p, x :: r => keyOk x.src x.key && decide (0 < x.cnt) && decide (kLt p.src p.key x.src x.key) && okT (some x) r
def tabR (l : List Kc) : Bool := okT none l
theorem okT_all : ∀ {l : List Kc} {p : Option Kc}, okT p l = true → ∀ x ∈ l, keyOk x.src x.key = true ∧ 0 < x.cnt
  | [], _, _, x, hx => nomatch hx
  | y :: l, p, h, x, hx => by
    have h' : (keyOk y.src y.key = true ∧ 0 < y.cnt) ∧ okT (some y) l = true := by
      cases p with
      | none => simp only [okT, Bool.and_eq_true, decide_eq_true_eq] at h; exact ⟨h.1, h.2⟩
      | some p => simp only [okT, Bool.and_eq_true, decide_eq_true_eq] at h; exact ⟨h.1.1, h.2⟩
    rcases List.mem_cons.1 hx with rfl | hx
    · exact h'.1
    · exact okT_all h'.2 x hx
theorem keyOk_iff {s k : Int} : keyOk s k = true ↔ (0 ≤ s ∧ s < 8) ∧ 0 ≤ k ∧ k < 32 := by unfold keyOk; exact decide_eq_true_iff
theorem okT_len : ∀ {l : List Kc} {p : Kc}, keyOk p.src p.key = true → okT (some p) l = true → (l.length : Int) ≤ 255 - (p.src * 32 + p.key)
  | [], p, hp, _ => by rw [keyOk_iff] at hp; simp; omega
  | x :: l, p, hp, h => by
    simp only [okT, Bool.and_eq_true, decide_eq_true_eq] at h
    have ih := okT_len h.1.1.1 h.2
    have hx := keyOk_iff.1 h.1.1.1
    have hp' := keyOk_iff.1 hp
    have hk := h.1.2
    unfold kLt at hk
    simp only [List.length_cons]
    omega
theorem tab_len {l : List Kc} (h : tabR l = true) : l.length ≤ 256 := by
  cases l with
  | nil => simp
  | cons x l =>
    unfold tabR at h
    simp only [okT, Bool.and_eq_true, decide_eq_true_eq] at h
    have ih := okT_len h.1.1 h.2
    have hx := keyOk_iff.1 h.1.1
    simp only [List.length_cons]
    omega
def encK (x : Kc) : List Int := [x.src % 256, x.key % 256] ++ (be 8 (IntKind.u64.wrap x.cnt) ++ be 8 (IntKind.u64.wrap x.sum))
def encT (l : List Kc) : List Int := be 2 (IntKind.u16.wrap (l.length : Int)) ++ l.flatMap encK
theorem encK_len (x : Kc) : (encK x).length = 18 := by unfold encK; simp [be_len]
theorem encKs_len : ∀ l : List Kc, (l.flatMap encK).length = 18 * l.length
  | [] => rfl
  | x :: l => by rw [List.flatMap_cons, List.length_append, encK_len, encKs_len l, List.length_cons]; omega
theorem encKs_snoc {l : List Kc} {k : Nat} {x : Kc} (h : l[k]? = some x) : (l.take (k + 1)).flatMap encK = (l.take k).flatMap encK ++ encK x := by rw [take_snoc h, List.flatMap_append]; simp
def rowD (b : List Int) : Kc := ⟨(b.take 1).headD 0, ((b.drop 1).take 1).headD 0, IntKind.i64.wrap (numR ((b.drop 2).take 8)), IntKind.i64.wrap (numR ((b.drop 10).take 8))⟩
def decK : Nat → List Int → List Kc × Int × List Int
  | 0, b => ([], 0, b)
  | n + 1, b => if b.length < 18 then ([], 7, []) else if (decK n (b.drop 18)).2.1 = 0 then (rowD b :: (decK n (b.drop 18)).1, 0, (decK n (b.drop 18)).2.2) else ([], 7, [])
def decT (b : List Int) : List Kc × Int :=
  if b.length < 2 then ([], 7) else
  if (decK (numR (b.take 2)).toNat (b.drop 2)).2.1 = 0 then (if tabR (decK (numR (b.take 2)).toNat (b.drop 2)).1 = true ∧ (decK (numR (b.take 2)).toNat (b.drop 2)).2.2 = [] then ((decK (numR (b.take 2)).toNat (b.drop 2)).1, 0) else ([], 220)) else ([], 7)
def okK (x : Kc) : Prop := (0 ≤ x.src ∧ x.src ≤ 255) ∧ (0 ≤ x.key ∧ x.key ≤ 255) ∧ (-9223372036854775808 ≤ x.cnt ∧ x.cnt ≤ 9223372036854775807) ∧ (-9223372036854775808 ≤ x.sum ∧ x.sum ≤ 9223372036854775807)
theorem decK_err : ∀ (n : Nat) (b : List Int), (decK n b).2.1 = if b.length < 18 * n then 7 else 0
  | 0, b => by simp [decK]
  | n + 1, b => by
    rw [decK]
    by_cases h : b.length < 18
    · rw [if_pos h, if_pos (by omega)]
    · rw [if_neg h, decK_err n, List.length_drop]
      by_cases h2 : b.length - 18 < 18 * n
      · rw [if_pos h2, if_neg (by decide), if_pos (by omega)]
      · rw [if_neg h2, if_pos rfl, if_neg (by omega)]
theorem rowD_inv {b : List Int} (hB : isB b) (hl : 18 ≤ b.length) : b = encK (rowD b) ++ b.drop 18 ∧ okK (rowD b) := by
  match b, hl with
  | t :: w :: r, hl =>
    have ht := hB t (by simp)
    have hw := hB w (by simp)
    have hBr : isB r := fun x hx => hB x (by simp [hx])
    simp only [List.length_cons] at hl
    have e : rowD (t :: w :: r) = ⟨t, w, IntKind.i64.wrap (numR (r.take 8)), IntKind.i64.wrap (numR ((r.drop 8).take 8))⟩ := rfl
    have hok : okK (rowD (t :: w :: r)) := by rw [e]; exact ⟨ht, hw, i64_rng _, i64_rng _⟩
    refine ⟨?_, hok⟩
    rw [e]
    unfold encK
    simp only
    rw [num8 (by rw [List.length_take]; omega) (isB_take hBr), num8 (by rw [List.length_take, List.length_drop]; omega) (isB_take (isB_drop hBr)), show t % 256 = t by omega, show w % 256 = w by omega]
    show t :: w :: r = ([t, w] ++ (r.take 8 ++ (r.drop 8).take 8)) ++ r.drop 16
    conv => lhs; rw [@ap3 r]
    simp
theorem decK_inv : ∀ {n : Nat} {b : List Int} {L : List Kc} {r : List Int}, isB b → decK n b = (L, 0, r) → b = L.flatMap encK ++ r ∧ L.length = n ∧ ∀ x ∈ L, okK x
  | 0, b, L, r, _, h => by
    simp only [decK, Prod.mk.injEq, true_and] at h
    obtain ⟨rfl, rfl⟩ := h
    exact ⟨rfl, rfl, fun x hx => nomatch hx⟩
  | n + 1, b, L, r, hB, h => by
    rw [decK] at h
    split at h
    · simp at h
    · rename_i hl
      split at h
      · rename_i h2
        simp only [Prod.mk.injEq, true_and] at h
        obtain ⟨rfl, rfl⟩ := h
        obtain ⟨e1, e2⟩ := rowD_inv hB (by omega)
        obtain ⟨i1, i2, i3⟩ := decK_inv (isB_drop (n := 18) hB) (L := (decK n (b.drop 18)).1) (r := (decK n (b.drop 18)).2.2) (by rw [← h2])
        refine ⟨?_, by rw [List.length_cons, i2], fun x hx => ?_⟩
        · rw [List.flatMap_cons, List.append_assoc, ← i1]
          exact e1
        · rcases List.mem_cons.1 hx with rfl | hx
          · exact e2
          · exact i3 x hx
      · simp at h
theorem u16_in {n : Nat} (h : n ≤ 65535) : IntKind.u16.wrap (n : Int) = (n : Int) := by
  simp [IntKind.wrap, IntKind.bits, IntKind.signed]; omega
def encTR (l : List Kc) : List Int × Int := if tabR l = true then (encT l, 0) else ([], 220)
theorem encT_len (l : List Kc) : (encT l).length = 2 + 18 * l.length := by unfold encT; rw [List.length_append, be_len, encKs_len]
theorem decT_any {b : List Int} (hB : isB b) : ((decT b).2 = 0 ∧ encTR (decT b).1 = (b, 0) ∧ (decT b).1.length ≤ 256 ∧ ∀ x ∈ (decT b).1, okK x) ∨ ((decT b).1 = [] ∧ ((decT b).2 = 7 ∨ (decT b).2 = 220)) := by
  unfold decT
  by_cases h2 : b.length < 2
  · rw [if_pos h2]; exact .inr ⟨rfl, .inl rfl⟩
  · rw [if_neg h2]
    have hn := numR_lt (n := 2) (l := b.take 2) (by rw [List.length_take]; omega) (isB_take hB)
    by_cases h3 : (decK (numR (b.take 2)).toNat (b.drop 2)).2.1 = 0
    · rw [if_pos h3]
      by_cases h4 : tabR (decK (numR (b.take 2)).toNat (b.drop 2)).1 = true ∧ (decK (numR (b.take 2)).toNat (b.drop 2)).2.2 = []
      · rw [if_pos h4]
        obtain ⟨e1, e2, e3⟩ := decK_inv (isB_drop (n := 2) hB) (L := (decK (numR (b.take 2)).toNat (b.drop 2)).1) (r := (decK (numR (b.take 2)).toNat (b.drop 2)).2.2) (by rw [← h3])
        rw [h4.2, List.append_nil] at e1
        refine .inl ⟨rfl, ?_, tab_len h4.1, e3⟩
        unfold encTR encT
        simp only
        rw [if_pos h4.1, e2, ← e1, Int.toNat_of_nonneg hn.1, show IntKind.u16.wrap (numR (b.take 2)) = numR (b.take 2) by (have := hn.2; simp [IntKind.wrap, IntKind.bits, IntKind.signed]; omega), be_numR (by rw [List.length_take]; omega) (isB_take hB), List.take_append_drop]
      · rw [if_neg h4]; exact .inr ⟨rfl, .inr rfl⟩
    · rw [if_neg h3]; exact .inr ⟨rfl, .inl rfl⟩
theorem kLt_trans {a b c d e f : Int} (h1 : kLt a b c d) (h2 : kLt c d e f) : kLt a b e f := by unfold kLt at *; omega
theorem kLt_irr {a b : Int} : ¬ kLt a b a b := by unfold kLt; omega
theorem kLt_asym {a b c d : Int} (h : kLt a b c d) : ¬ kLt c d a b := by unfold kLt at *; omega
theorem kLt_tri {a b c d : Int} : kLt a b c d ∨ (a = c ∧ b = d) ∨ kLt c d a b := by unfold kLt; omega
abbrev kLtK (x y : Kc) : Prop := kLt x.src x.key y.src y.key
theorem okT_pw : ∀ {l : List Kc} {p : Kc}, okT (some p) l = true → (∀ x ∈ l, kLtK p x) ∧ l.Pairwise kLtK
  | [], _, _ => ⟨(fun x hx => nomatch hx), List.Pairwise.nil⟩
  | y :: l, p, h => by
    simp only [okT, Bool.and_eq_true, decide_eq_true_eq] at h
    obtain ⟨h1, h2⟩ := okT_pw h.2
    refine ⟨fun x hx => ?_, List.Pairwise.cons h1 h2⟩
    rcases List.mem_cons.1 hx with rfl | hx
    · exact h.1.2
    · exact kLt_trans h.1.2 (h1 x hx)
theorem okT_of : ∀ {l : List Kc} {p : Kc}, (∀ x ∈ l, keyOk x.src x.key = true ∧ 0 < x.cnt) → (∀ x ∈ l, kLtK p x) → l.Pairwise kLtK → okT (some p) l = true
  | [], _, _, _, _ => rfl
  | y :: l, p, h, hp, hw => by
    rw [List.pairwise_cons] at hw
    simp only [okT, Bool.and_eq_true, decide_eq_true_eq]
    exact ⟨⟨h y (by simp), hp y (by simp)⟩, okT_of (fun x hx => h x (by simp [hx])) hw.1 hw.2⟩
theorem tab_iff {l : List Kc} : tabR l = true ↔ (∀ x ∈ l, keyOk x.src x.key = true ∧ 0 < x.cnt) ∧ l.Pairwise kLtK := by
  constructor
  · intro h
    refine ⟨okT_all h, ?_⟩
    cases l with
    | nil => exact List.Pairwise.nil
    | cons y l =>
      unfold tabR at h
      simp only [okT, Bool.and_eq_true] at h
      exact List.Pairwise.cons (okT_pw h.2).1 (okT_pw h.2).2
  · rintro ⟨h1, h2⟩
    cases l with
    | nil => rfl
    | cons y l =>
      rw [List.pairwise_cons] at h2
      unfold tabR
      simp only [okT, Bool.and_eq_true, decide_eq_true_eq]
      exact ⟨h1 y (by simp), okT_of (fun x hx => h1 x (by simp [hx])) h2.1 h2.2⟩
def ltK (s k : Int) (x : Kc) : Bool := decide (kLt x.src x.key s k)
def gtK (s k : Int) (x : Kc) : Bool := decide (kLt s k x.src x.key)
def eqK (s k : Int) (x : Kc) : Bool := decide (x.src = s ∧ x.key = k)
def ownK (s k : Int) (c : Int × Int) : List Kc := if c = (0, 0) then [] else [⟨s, k, c.1, c.2⟩]
def putR (l : List Kc) (s k : Int) (c : Int × Int) : List Kc := l.filter (ltK s k) ++ ownK s k c ++ l.filter (gtK s k)
def getR (l : List Kc) (s k : Int) : Int × Int := match l.find? (eqK s k) with
  | none => (0, 0)
  | some x => (x.cnt, x.sum)
theorem put_tab {l : List Kc} {s k : Int} {c : Int × Int} (h : tabR l = true) (hk : keyOk s k = true) (hc : c = (0, 0) ∨ 0 < c.1) : tabR (putR l s k c) = true := by
  rw [tab_iff] at h ⊢
  obtain ⟨h1, h2⟩ := h
  have hown : ∀ x ∈ ownK s k c, x.src = s ∧ x.key = k ∧ 0 < x.cnt := fun x hx => by
    unfold ownK at hx
    split at hx
    · cases hx
    · rename_i h0
      rw [List.mem_singleton.1 hx]
      exact ⟨rfl, rfl, hc.resolve_left h0⟩
  refine ⟨fun x hx => ?_, ?_⟩
  · unfold putR at hx
    simp only [List.mem_append, List.mem_filter] at hx
    rcases hx with (hx | hx) | hx
    · exact h1 x hx.1
    · obtain ⟨e1, e2, e3⟩ := hown x hx
      rw [e1, e2]; exact ⟨hk, e3⟩
    · exact h1 x hx.1
  · unfold putR
    rw [List.pairwise_append, List.pairwise_append]
    refine ⟨⟨h2.filter _, ?_, fun x hx y hy => ?_⟩, h2.filter _, fun x hx y hy => ?_⟩
    · unfold ownK; split
      · exact List.Pairwise.nil
      · exact List.pairwise_singleton _ _
    · obtain ⟨e1, e2, _⟩ := hown y hy
      have := of_decide_eq_true (List.mem_filter.1 hx).2
      unfold kLtK; rw [e1, e2]; exact this
    · have hy' := of_decide_eq_true (List.mem_filter.1 hy).2
      rcases List.mem_append.1 hx with hx | hx
      · exact kLt_trans (of_decide_eq_true (List.mem_filter.1 hx).2) hy'
      · obtain ⟨e1, e2, _⟩ := hown x hx
        unfold kLtK; rw [e1, e2]; exact hy'
def posR (l : List Kc) (s k : Int) : Nat := (l.filter (ltK s k)).length
theorem pos_le (l : List Kc) (s k : Int) : posR l s k ≤ l.length := List.length_filter_le _ _
theorem filter_none {α : Type} {p : α → Bool} {l : List α} (h : ∀ x ∈ l, p x = false) : l.filter p = [] := List.filter_eq_nil_iff.2 fun x hx => by simp [h x hx]
theorem filter_all {α : Type} {p : α → Bool} {l : List α} (h : ∀ x ∈ l, p x = true) : l.filter p = l := List.filter_eq_self.2 h
theorem cut_lt : ∀ {l : List Kc} {s k : Int}, l.Pairwise kLtK → l.filter (ltK s k) = l.take (posR l s k) ∧ l.filter (gtK s k) = l.drop (posR l s k + (l.filter (eqK s k)).length)
  | [], _, _, _ => ⟨rfl, rfl⟩
  | x :: l, s, k, h => by
    rw [List.pairwise_cons] at h
    obtain ⟨i1, i2⟩ := cut_lt (s := s) (k := k) h.2
    rcases @kLt_tri x.src x.key s k with h1 | ⟨h1, h2⟩ | h1
    · have e1 : ltK s k x = true := decide_eq_true h1
      have e2 : gtK s k x = false := decide_eq_false (kLt_asym h1)
      have e3 : eqK s k x = false := decide_eq_false fun e => by rw [e.1, e.2] at h1; exact kLt_irr h1
      have hp : posR (x :: l) s k = posR l s k + 1 := by unfold posR; rw [List.filter_cons_of_pos e1]; rfl
      rw [hp, List.filter_cons_of_pos e1, List.filter_cons_of_neg (by simp [e2]), List.filter_cons_of_neg (by simp [e3]), List.take_succ_cons, i1, show posR l s k + 1 + (l.filter (eqK s k)).length = (posR l s k + (l.filter (eqK s k)).length) + 1 by omega, List.drop_succ_cons, i2]
      exact ⟨rfl, rfl⟩
    · have hg : ∀ y ∈ l, kLt s k y.src y.key := fun y hy => by have := h.1 y hy; unfold kLtK at this; rw [h1, h2] at this; exact this
      have e1 : ltK s k x = false := decide_eq_false (by rw [h1, h2]; exact kLt_irr)
      have e2 : gtK s k x = false := decide_eq_false (by rw [h1, h2]; exact kLt_irr)
      have e3 : eqK s k x = true := decide_eq_true ⟨h1, h2⟩
      have f1 : l.filter (ltK s k) = [] := filter_none fun y hy => decide_eq_false (kLt_asym (hg y hy))
      have f2 : l.filter (gtK s k) = l := filter_all fun y hy => decide_eq_true (hg y hy)
      have f3 : l.filter (eqK s k) = [] := filter_none fun y hy => decide_eq_false fun e => by have := hg y hy; rw [e.1, e.2] at this; exact kLt_irr this
      have hp : posR (x :: l) s k = 0 := by unfold posR; rw [List.filter_cons_of_neg (by simp [e1]), f1]; rfl
      rw [hp, List.filter_cons_of_neg (by simp [e1]), List.filter_cons_of_neg (by simp [e2]), List.filter_cons_of_pos e3, f1, f2, f3]
      exact ⟨rfl, rfl⟩
    · have hg : ∀ y ∈ l, kLt s k y.src y.key := fun y hy => kLt_trans h1 (h.1 y hy)
      have e1 : ltK s k x = false := decide_eq_false (kLt_asym h1)
      have e2 : gtK s k x = true := decide_eq_true h1
      have e3 : eqK s k x = false := decide_eq_false fun e => by rw [e.1, e.2] at h1; exact kLt_irr h1
      have f1 : l.filter (ltK s k) = [] := filter_none fun y hy => decide_eq_false (kLt_asym (hg y hy))
      have f2 : l.filter (gtK s k) = l := filter_all fun y hy => decide_eq_true (hg y hy)
      have f3 : l.filter (eqK s k) = [] := filter_none fun y hy => decide_eq_false fun e => by have := hg y hy; rw [e.1, e.2] at this; exact kLt_irr this
      have hp : posR (x :: l) s k = 0 := by unfold posR; rw [List.filter_cons_of_neg (by simp [e1]), f1]; rfl
      rw [hp, List.filter_cons_of_neg (by simp [e1]), List.filter_cons_of_pos e2, List.filter_cons_of_neg (by simp [e3]), f1, f2, f3]
      exact ⟨rfl, rfl⟩
theorem eq_at : ∀ {l : List Kc} {s k : Int}, l.Pairwise kLtK → (l.filter (eqK s k)).length ≤ 1 ∧ ((l.filter (eqK s k)).length = 1 ↔ ∃ x, l[posR l s k]? = some x ∧ x.src = s ∧ x.key = k)
  | [], _, _, _ => by simp
  | x :: l, s, k, h => by
    rw [List.pairwise_cons] at h
    obtain ⟨i1, i2⟩ := eq_at (s := s) (k := k) h.2
    rcases @kLt_tri x.src x.key s k with h1 | ⟨h1, h2⟩ | h1
    · have e1 : ltK s k x = true := decide_eq_true h1
      have e3 : eqK s k x = false := decide_eq_false fun e => by rw [e.1, e.2] at h1; exact kLt_irr h1
      have hp : posR (x :: l) s k = posR l s k + 1 := by unfold posR; rw [List.filter_cons_of_pos e1]; rfl
      rw [hp, List.filter_cons_of_neg (by simp [e3]), List.getElem?_cons_succ]
      exact ⟨i1, i2⟩
    · have hg : ∀ y ∈ l, kLt s k y.src y.key := fun y hy => by have := h.1 y hy; unfold kLtK at this; rw [h1, h2] at this; exact this
      have e1 : ltK s k x = false := decide_eq_false (by rw [h1, h2]; exact kLt_irr)
      have e3 : eqK s k x = true := decide_eq_true ⟨h1, h2⟩
      have f1 : l.filter (ltK s k) = [] := filter_none fun y hy => decide_eq_false (kLt_asym (hg y hy))
      have f3 : l.filter (eqK s k) = [] := filter_none fun y hy => decide_eq_false fun e => by have := hg y hy; rw [e.1, e.2] at this; exact kLt_irr this
      have hp : posR (x :: l) s k = 0 := by unfold posR; rw [List.filter_cons_of_neg (by simp [e1]), f1]; rfl
      rw [hp, List.filter_cons_of_pos e3, f3]
      exact ⟨Nat.le_refl _, fun _ => ⟨x, rfl, h1, h2⟩, fun _ => rfl⟩
    · have hg : ∀ y ∈ l, kLt s k y.src y.key := fun y hy => kLt_trans h1 (h.1 y hy)
      have e1 : ltK s k x = false := decide_eq_false (kLt_asym h1)
      have e3 : eqK s k x = false := decide_eq_false fun e => by rw [e.1, e.2] at h1; exact kLt_irr h1
      have f1 : l.filter (ltK s k) = [] := filter_none fun y hy => decide_eq_false (kLt_asym (hg y hy))
      have f3 : l.filter (eqK s k) = [] := filter_none fun y hy => decide_eq_false fun e => by have := hg y hy; rw [e.1, e.2] at this; exact kLt_irr this
      have hp : posR (x :: l) s k = 0 := by unfold posR; rw [List.filter_cons_of_neg (by simp [e1]), f1]; rfl
      rw [hp, List.filter_cons_of_neg (by simp [e3]), f3]
      refine ⟨Nat.zero_le _, fun h => by simp at h, ?_⟩
      rintro ⟨y, hy, h2, h3⟩
      cases hy
      rw [h2, h3] at h1
      exact absurd h1 kLt_irr
theorem put_at {l : List Kc} {s k : Int} {c : Int × Int} {x : Kc} (h : tabR l = true) (hx : l[posR l s k]? = some x) (he : x.src = s ∧ x.key = k) : putR l s k c = l.take (posR l s k) ++ ownK s k c ++ l.drop (posR l s k + 1) := by
  have hw := (tab_iff.1 h).2
  have h1 := ((eq_at hw).2).2 ⟨x, hx, he⟩
  unfold putR
  rw [(cut_lt hw).1, (cut_lt hw).2, h1]
theorem put_no {l : List Kc} {s k : Int} {c : Int × Int} (h : tabR l = true) (hn : ∀ x, l[posR l s k]? = some x → ¬ (x.src = s ∧ x.key = k)) : putR l s k c = l.take (posR l s k) ++ ownK s k c ++ l.drop (posR l s k) := by
  have hw := (tab_iff.1 h).2
  have h1 : (l.filter (eqK s k)).length = 0 := by
    have := (eq_at (s := s) (k := k) hw).1
    have h2 : ¬ (l.filter (eqK s k)).length = 1 := fun e => by
      obtain ⟨x, hx, he⟩ := ((eq_at hw).2).1 e
      exact hn x hx he
    omega
  unfold putR
  rw [(cut_lt hw).1, (cut_lt hw).2, h1, Nat.add_zero]
theorem cmp_lt {s k s2 k2 : Int} : decide (0 ≤ cmpR s k s2 k2) = !decide (kLt s k s2 k2) := by
  unfold cmpR cmpI kLt
  by_cases h1 : s < s2
  · simp [h1]
  · by_cases h2 : s2 < s
    · have h3 : ¬ s = s2 := by omega
      simp [h1, h2, h3]
    · have h3 : s = s2 := by omega
      by_cases h4 : k < k2
      · simp [h3, h4]
      · by_cases h5 : k2 < k
        · simp [h3, h4, h5]
        · simp [h3, h4, h5]
theorem cmp_eq (s k s2 k2 : Int) : (cmpR s k s2 k2 == 0) = (s == s2 && k == k2) := by
  unfold cmpR cmpI
  by_cases h1 : s < s2
  · have : ¬ s = s2 := by omega
    simp [h1, this]
  · by_cases h2 : s2 < s
    · have : ¬ s = s2 := by omega
      simp [h1, h2, this]
    · have h3 : s = s2 := by omega
      by_cases h4 : k < k2
      · have : ¬ k = k2 := by omega
        simp [h3, h4, this]
      · by_cases h5 : k2 < k
        · have : ¬ k = k2 := by omega
          simp [h3, h4, h5, this]
        · have : k = k2 := by omega
          simp [h3, this]
abbrev eK (x : Kc) : List RT := [RT.v (.int .i64 x.src), RT.v (.int .i64 x.key), RT.v (.int .i64 x.cnt), RT.v (.int .i64 x.sum)]
abbrev cK (x : Kc) : List Ce := [Ce.v (.int .i64 x.src), Ce.v (.int .i64 x.key), Ce.v (.int .i64 x.cnt), Ce.v (.int .i64 x.sum)]
def prevR (l : List Kc) : Nat → Option Kc
  | 0 => none
  | i + 1 => l[i]?
theorem okT_at {l : List Kc} {i : Nat} {x : Kc} (h : l[i]? = some x) : okT (prevR l i) (l.drop i) = (keyOk x.src x.key && decide (0 < x.cnt) && (match prevR l i with | none => true | some q => decide (kLt q.src q.key x.src x.key)) && okT (prevR l (i + 1)) (l.drop (i + 1))) := by
  rw [drop_cons h]
  have e : prevR l (i + 1) = some x := h
  rw [e]
  cases hp : prevR l i with
  | none => simp [okT]
  | some q => simp [okT]
end Go.Proofs.Ytehhmkdghgabaaa
namespace Go.Proofs.Ytehhmkdghgabaaa
open Go Go.RowKit Wx
set_option linter.unusedVariables false
set_option linter.unusedSimpArgs false
set_option maxHeartbeats 4000000
theorem high0 (x : Int)  : Con Try.prog 77 [.one (.v (.int .u64 x)), .one (.v (.int .i64 0))] (fun rx rK rt => rx = .val (.slice none 0 0) ∧ rK = [] ∧ rt = 0) := by
  refine Z.con_ofZ tabOk 17 Try.f77 _ Try.func77 (by kernel_rfl) rfl rfl rfl rfl ?_
  repeat' ((conv => whnf); first
    | with_reducible first | refine spB_t ?_
    | ((with_reducible apply spB_cong); (focus (simp only [beq_self_eq_true, bne_self_eq_false, Bool.true_bne, Bool.false_bne, Bool.bne_true, Bool.bne_false, Bool.true_beq, Bool.false_beq, Bool.not_true, Bool.not_false, Bool.not_not, Int.reduceBEq, Int.reduceBNe, Int.reduceLE, Int.reduceLT, Int.reduceEq, decide_true, decide_false]; rfl)))
    | fail)
  all_goals (try (conv => whnf))
  all_goals try (show Nat.ble _ _ = true; rfl)
  all_goals try (exfalso; rename_i hz; cases hz; done)
  all_goals try (exfalso; (try simp only [LN] at *) <;> omega)
  all_goals first
    | (refine ret0 _ rfl _ rfl (fun _ => rfl) rfl ⟨rfl, rfl, rfl⟩)
    | fail
theorem high1 (x : Int) (hx : 0 ≤ x ∧ x < 18446744073709551616) : Con Try.prog 77 [.one (.v (.int .u64 x)), .one (.v (.int .i64 1))] (fun rx rK rt => rx = .c (.gsl 0 ((be 1 x).map cB)) ∧ rK = [(0, some ⟨(be 1 x).map cB, 1, 5, false⟩)] ∧ rt = 1) := by
  refine Z.con_ofZ tabOk 17 Try.f77 _ Try.func77 (by kernel_rfl) rfl rfl rfl rfl ?_
  repeat' ((conv => whnf); first
    | ((with_reducible apply spB_cong); (focus (simp only [beq_self_eq_true, bne_self_eq_false, Bool.true_bne, Bool.false_bne, Bool.bne_true, Bool.bne_false, Bool.true_beq, Bool.false_beq, Bool.not_true, Bool.not_false, Bool.not_not, Int.reduceBEq, Int.reduceBNe, Int.reduceLE, Int.reduceLT, Int.reduceEq, decide_true, decide_false]; rfl)))
    | with_reducible first | refine spB_no (by decide) ?_
    | (with_reducible refine vN_shr8 (by omega) ?_)
    | (refine wr_mk (x % 256) (and8 hx) ?_)
    | ((with_reducible refine posE_pos ?_ ?_); (focus ((try simp only [LN] at *) <;> omega)))
    | ((with_reducible refine eqN_mk2 ?_ ?_); (focus rfl))
    | ((with_reducible refine apdN.mk ?_ ?_ ?_ ?_ ?_ ?_); (focus (first | rfl)); (focus (first | exact one_all (by rfl))); (focus ((try simp only [LN] at *) <;> omega)); (focus ((try simp only [LN] at *) <;> omega)); (focus ((try simp only [LN] at *) <;> omega)))
    | with_reducible refine wr_i64 (by first | omega | (simp only [LN] at *; omega)) ?_
    | ((first | (with_reducible apply Z.callZ_mk ?_ (high0 _) ?_)); (rotate_left 1); (focus ((repeat' (first | exact trivial | exact low_int (by omega) | exact rfl | apply And.intro)); done)))
    | fail)
  all_goals (try (conv => whnf))
  all_goals try (show Nat.ble _ _ = true; rfl)
  all_goals try (exfalso; rename_i hz; cases hz; done)
  all_goals try (exfalso; (try simp only [LN] at *) <;> omega)
  all_goals first
    | (refine ret1g (1) ((be 1 x).map cB) 1 5 _ rfl rfl (by first | rfl | exact Z.kb_some rfl) (rfl) (rfl) ren_cB (own_map fun _ => rfl) ⟨rfl, rfl, rfl⟩)
    | fail
theorem highs (n : Nat) (x m : Int) (hx : 0 ≤ x ∧ x < 18446744073709551616) (hn : n ≠ 0) (hm : m = (n : Int) + 1) (hn8 : n ≤ 8) (ih : Con Try.prog 77 [.one (.v (.int .u64 (x / 256))), .one (.v (.int .i64 (m - 1)))] (fun rx rK rt => rx = .c (.gsl 0 ((be n (x / 256)).map cB)) ∧ rK = [(0, some ⟨(be n (x / 256)).map cB, 1, 5, false⟩)] ∧ rt = 1)) : Con Try.prog 77 [.one (.v (.int .u64 x)), .one (.v (.int .i64 m))] (fun rx rK rt => rx = .c (.gsl 0 ((be (n + 1) x).map cB)) ∧ rK = [(0, some ⟨(be (n + 1) x).map cB, 1, 5, false⟩)] ∧ rt = 1) := by
  refine Z.con_ofZ tabOk 17 Try.f77 _ Try.func77 (by kernel_rfl) rfl rfl rfl rfl ?_
  have hbn : be n (x / 256) ≠ [] := fun h9 => by have h8 := @be_len n (x / 256); rw [h9] at h8; exact hn h8.symm
  have hbl := @be_len n (x / 256)
  repeat' ((conv => whnf); first
    | (with_reducible refine spB_beq ?_ ?_ <;> intro _ <;> (try (exfalso; first | contradiction | omega | (rename_i hz; refine hz ?_; simp; done) | (rename_i hz; simp at hz; done) | (simp only [LN] at *; omega))))
    | (with_reducible refine vN_shr8 (by omega) ?_)
    | (refine wr_mk (x % 256) (and8 hx) ?_)
    | ((with_reducible refine eqN_mk2 ?_ ?_); (focus (exact (Z.kb_some rfl).trans (gB_r (by assumption)))))
    | ((with_reducible refine posE_pos ?_ ?_); (focus ((try simp only [LN] at *) <;> omega)))
    | ((with_reducible refine eqN_mk2 ?_ ?_); (focus rfl))
    | ((with_reducible refine apdN.mk ?_ ?_ ?_ ?_ ?_ ?_); (focus (first | rfl)); (focus (first | exact one_all (by rfl))); (focus ((try simp only [LN] at *) <;> omega)); (focus ((try simp only [LN] at *) <;> omega)); (focus ((try simp only [LN] at *) <;> omega)))
    | with_reducible refine wr_i64 (by first | omega | (simp only [LN] at *; omega)) ?_
    | ((first | (with_reducible refine Z.callZ_mk ?_ (ih) ?_)); (focus ((repeat' (first | exact trivial | exact low_int (by omega) | apply And.intro)); done)))
    | fail)
  all_goals (try (conv => whnf))
  all_goals try (show Nat.ble _ _ = true; rfl)
  all_goals try (exfalso; rename_i hz; cases hz; done)
  all_goals try (exfalso; (try simp only [LN] at *) <;> omega)
  all_goals first
    | (refine ret1g (2) ((be (n + 1) x).map cB) 1 5 _ rfl rfl (by first | rfl | exact Z.kb_some rfl) (app_lit (B := [x % 256]) rfl rfl) (app_lit (B := [x % 256]) rfl rfl) ren_cB (own_map fun _ => rfl) ⟨rfl, rfl, rfl⟩)
    | fail
theorem high_con : ∀ (n : Nat) (x m : Int) (hx : 0 ≤ x ∧ x < 18446744073709551616) (hm : m = (n : Int) + 1) (hn8 : n ≤ 7), Con Try.prog 77 [.one (.v (.int .u64 x)), .one (.v (.int .i64 m))] (fun rx rK rt => rx = .c (.gsl 0 ((be (n + 1) x).map cB)) ∧ rK = [(0, some ⟨(be (n + 1) x).map cB, 1, 5, false⟩)] ∧ rt = 1)
  | 0, x, m, hx, hm, _ => by subst hm; exact high1 x hx
  | n + 1, x, m, hx, hm, h8 => highs (n + 1) x m hx (by omega) hm (by omega) (high_con n (x / 256) (m - 1) (by omega) (by omega) (by omega))
theorem high8 (x : Int) (hx : 0 ≤ x ∧ x < 18446744073709551616) : Con Try.prog 77 [.one (.v (.int .u64 x)), .one (.v (.int .i64 8))] (fun rx rK rt => rx = .c (.gsl 0 ((be 8 x).map cB)) ∧ rK = [(0, some ⟨(be 8 x).map cB, 1, 5, false⟩)] ∧ rt = 1) := high_con 7 x 8 hx (by decide) (by decide)
end Go.Proofs.Ytehhmkdghgabaaa
namespace Go.Proofs.Ytehhmkdghgabaaa
open Go Go.RowKit Wx
set_option linter.unusedVariables false
set_option linter.unusedSimpArgs false
set_option maxHeartbeats 4000000
theorem putO_con (b : List Int) (x : Int) (n : Nat) (hb : b.length ≤ 1099511627776) (hn : n ≤ 8) (hx : 0 ≤ x ∧ x < 18446744073709551616) : Con Try.prog 110 [.one (.ro false 1 (b.map eB)), .one (.v (.int .u64 x)), .one (.v (.int .i64 (n : Int)))] (fun rx rK rt => rx = .c (.osl 0 0 (b.length + n) (some (b.length + n))) ∧ rK = [(0, some ⟨(b ++ be n x).map cB, 1, 5, false⟩)] ∧ rt = 1) := by
  refine Z.con_ofZ tabOk 34 Try.f110 _ Try.func110 (by kernel_rfl) rfl rfl rfl rfl ?_
  repeat' ((conv => whnf); first
    | ((with_reducible refine mkN_any (b.length + n) ?_ ?_ ?_ ?_ ?_); (iterate 4 (focus ((try simp only [LN] at *) <;> omega))))
    | ((with_reducible refine cpyN.mk ?_ ?_ ?_ ?_); (focus (first | (simp; done))); (focus (first | exact one_map2 (fun _ => rfl))); (focus ((try simp only [LN] at *) <;> omega)))
    | with_reducible refine wr_i64 (by first | omega | (simp only [LN] at *; omega)) ?_)
  all_goals (try (conv => whnf))
  all_goals try (show Nat.ble _ _ = true; rfl)
  all_goals try (exfalso; rename_i hz; cases hz; done)
  all_goals try (exfalso; (try simp only [LN] at *) <;> omega)
  refine Z.loopK tabOk (fun zq : Nat × Int × List Int => [(18, .val (.int .i64 (zq.1 : Int))), (1, .val (.int .u64 zq.2.1))]) (fun zq : Nat × Int × List Int => ([(0, some (Z.Ob.b ⟨(b ++ List.replicate (n - zq.1) 0 ++ zq.2.2).map cB, 1, 5, false⟩))] : Z.Kr)) (fun zq => zq.1 ≤ n ∧ zq.2.2.length = zq.1 ∧ be (n - zq.1) zq.2.1 ++ zq.2.2 = be n x ∧ 0 ≤ zq.2.1 ∧ zq.2.1 < 18446744073709551616) (fun zq => n - zq.1) (0, x, []) 1 [(7, _), (17, _)] ⟨rfl, rfl, trivial⟩ [] trivial ?_ ?_ rfl rfl ⟨Nat.zero_le _, rfl, by simp, hx⟩ ?_
  · repeat' (first | exact trivial | apply And.intro | exact ⟨_, rfl, Z.Imp.refl _⟩)
  · repeat' (first | exact trivial | (intro b hb; cases hb; refine ⟨_, rfl, ⟨rfl, rfl, rfl⟩, Z.imp_eq ?_⟩; first | rfl | exact put_lay (by simp) | exact (put_lay (by simp)).trans (by simp); done) | apply And.intro)
  rintro ⟨i, y, T⟩ HINV
  dsimp only at HINV ⊢
  obtain ⟨HI, HT, HB, hy⟩ := HINV
  have hlr : (b ++ List.replicate (n - i) 0 ++ T).length = b.length + n := by simp; omega
  by_cases hi : i < n
  · obtain ⟨m, hm⟩ : ∃ m, n - i = m + 1 := ⟨n - i - 1, by omega⟩
    rw [hm] at hlr HB ⊢
    rw [be, List.append_assoc] at HB
    repeat' ((conv => whnf); first
      | (with_reducible refine spB_dec ?_ ?_ <;> intro _ <;> (try (exfalso; first | contradiction | omega | (rename_i hz; refine hz ?_; simp; done) | (rename_i hz; simp at hz; done) | (simp only [LN] at *; omega))))
      | (with_reducible refine vN_shr8 (by omega) ?_)
      | ((with_reducible refine ixN_mk (b.length + m) ?_ ?_ ?_); (focus (first | ((try simp only [LN] at *) <;> omega))); (focus ((try simp only [LN] at *) <;> omega)))
      | ((with_reducible refine rowN_mk (cB 0) ?_ ?_); (focus (exact put_row)))
      | with_reducible first | refine wr_mod8 ?_
      | ((with_reducible refine eqN_mk2 ?_ ?_); (focus rfl))
      | with_reducible refine wr_i64 (by first | omega | (simp only [LN] at *; omega)) ?_)
    all_goals (try (conv => whnf))
    all_goals try (show Nat.ble _ _ = true; rfl)
    all_goals try (exfalso; rename_i hz; cases hz; done)
    all_goals try (exfalso; (try simp only [LN] at *) <;> omega)
    all_goals first
      | ((refine Z.rnd_rw 0 ((b ++ List.replicate (n - (i + 1)) 0 ++ (y % 256) :: T).map cB) rfl rfl ?_ ?_); (focus (rw [show n - (i + 1) = m by omega]; exact put_set)); ((refine Z.rndK ((i + 1, y / 256, (y % 256) :: T)) (fun s => [0]) rfl rfl rfl rfl ?_ ?_ ?_ ?_); (focus (repeat' (first | exact trivial | exact rfl | apply And.intro))); (focus (repeat' (first | exact trivial | exact Z.blk_sub rfl rfl (ren_map fun _ => rfl) | apply And.intro))); (focus (exact ⟨by (try dsimp only); omega, by (try dsimp only); rw [List.length_cons, HT], by (try dsimp only); rw [show n - (i + 1) = m by omega]; exact HB, by (try dsimp only); omega⟩)); ((try dsimp only); omega)))
  have hil : i = n := by omega
  subst hil
  rw [Nat.sub_self, be, List.nil_append] at HB
  subst HB
  repeat' ((conv => whnf); first
    | (with_reducible refine spB_dec ?_ ?_ <;> intro _ <;> (try (exfalso; first | contradiction | omega | (rename_i hz; refine hz ?_; simp; done) | (rename_i hz; simp at hz; done) | (simp only [LN] at *; omega)))))
  all_goals (try (conv => whnf))
  all_goals try (show Nat.ble _ _ = true; rfl)
  all_goals try (exfalso; rename_i hz; cases hz; done)
  all_goals try (exfalso; (try simp only [LN] at *) <;> omega)
  all_goals first
    | (refine ret1b 0 (.c (.osl 0 0 (b.length + i) (some (b.length + i)))) ((b ++ be i x).map cB) 1 5 false _ rfl rfl rfl ?_ ren_cB rfl (own_map fun _ => rfl) ⟨rfl, rfl, rfl⟩; simp)
theorem putO2_con (b : List Int) (x : Int) (hb : b.length ≤ 1099511627776) (hx : 0 ≤ x ∧ x < 18446744073709551616) : Con Try.prog 110 [.one (.ro false 1 (b.map eB)), .one (.v (.int .u64 x)), .one (.v (.int .i64 2))] (fun rx rK rt => rx = .c (.osl 0 0 (b.length + 2) (some (b.length + 2))) ∧ rK = [(0, some ⟨(b ++ be 2 x).map cB, 1, 5, false⟩)] ∧ rt = 1) := putO_con b x 2 hb (by decide) hx
theorem putO16_con (b : List Int) (x : Int) (hb : b.length ≤ 1099511627776) (hx : 0 ≤ x ∧ x < 65536) : Con Try.prog 75 [.one (.ro false 1 (b.map eB)), .one (.v (.int .u16 x))] (fun rx rK rt => rx = .c (.osl 0 0 (b.length + 2) (some (b.length + 2))) ∧ rK = [(0, some ⟨(b ++ be 2 x).map cB, 1, 5, false⟩)] ∧ rt = 1) := by
  refine Z.con_ofZ tabOk 9 Try.f75 _ Try.func75 (by kernel_rfl) rfl rfl rfl rfl ?_
  repeat' ((conv => whnf); first
    | with_reducible refine wr_u64 (by omega) ?_
    | ((first | (with_reducible apply Z.callZ_mk ?_ (putO2_con _ _ ?_ ?_) ?_)); (rotate_left 2); (focus ((repeat' (first | exact trivial | exact rfl | apply And.intro)); done)); (iterate 2 (focus (first | assumption | omega)))))
  all_goals (try (conv => whnf))
  all_goals try (show Nat.ble _ _ = true; rfl)
  all_goals try (exfalso; rename_i hz; cases hz; done)
  all_goals try (exfalso; (try simp only [LN] at *) <;> omega)
  all_goals first
    | (refine ret1b 0 (.c (.osl 0 0 (b.length + 2) (some (b.length + 2)))) ((b ++ be 2 x).map cB) 1 5 false _ rfl rfl rfl ren_cB ren_cB rfl (own_map fun _ => rfl) ⟨rfl, rfl, rfl⟩)
end Go.Proofs.Ytehhmkdghgabaaa
namespace Go.Proofs.Ytehhmkdghgabaaa
open Go Go.RowKit Wx
set_option linter.unusedVariables false
set_option linter.unusedSimpArgs false
set_option maxHeartbeats 4000000
theorem put_con (b : List Int) (x : Int) (n : Nat) (hb : b.length ≤ 1099511627776) (hn : n ≤ 8) (hx : 0 ≤ x ∧ x < 18446744073709551616) : Con Try.prog 110 [.one (.ro false 1 (b.map eB)), .one (.v (.int .u64 x)), .one (.v (.int .i64 (n : Int)))] (fun rx rK rt => rx = .c (.ro true 1 ((b ++ be n x).map eB)) ∧ rK = [] ∧ rt = 0) := by
  refine Z.con_ofF tabOk 34 Try.f110 _ Try.func110 (by kernel_rfl) rfl rfl rfl rfl ?_
  repeat' ((conv => whnf); first
    | ((with_reducible refine mkN_any (b.length + n) ?_ ?_ ?_ ?_ ?_); (iterate 4 (focus ((try simp only [LN] at *) <;> omega))))
    | ((with_reducible refine cpyN.mk ?_ ?_ ?_ ?_); (focus (first | (simp; done))); (focus (first | exact one_map2 (fun _ => rfl))); (focus ((try simp only [LN] at *) <;> omega)))
    | with_reducible refine wr_i64 (by first | omega | (simp only [LN] at *; omega)) ?_)
  all_goals (try (conv => whnf))
  all_goals try (show Nat.ble _ _ = true; rfl)
  all_goals try (exfalso; rename_i hz; cases hz; done)
  all_goals try (exfalso; (try simp only [LN] at *) <;> omega)
  refine Z.loopK tabOk (fun zq : Nat × Int × List Int => [(18, .val (.int .i64 (zq.1 : Int))), (1, .val (.int .u64 zq.2.1))]) (fun zq : Nat × Int × List Int => ([(0, some (Z.Ob.b ⟨(b ++ List.replicate (n - zq.1) 0 ++ zq.2.2).map cB, 1, 5, false⟩))] : Z.Kr)) (fun zq => zq.1 ≤ n ∧ zq.2.2.length = zq.1 ∧ be (n - zq.1) zq.2.1 ++ zq.2.2 = be n x ∧ 0 ≤ zq.2.1 ∧ zq.2.1 < 18446744073709551616) (fun zq => n - zq.1) (0, x, []) 1 [(7, _), (17, _)] ⟨rfl, rfl, trivial⟩ [] trivial ?_ ?_ rfl rfl ⟨Nat.zero_le _, rfl, by simp, hx⟩ ?_
  · repeat' (first | exact trivial | apply And.intro | exact ⟨_, rfl, Z.Imp.refl _⟩)
  · repeat' (first | exact trivial | (intro b hb; cases hb; refine ⟨_, rfl, ⟨rfl, rfl, rfl⟩, Z.imp_eq ?_⟩; first | rfl | exact put_lay (by simp) | exact (put_lay (by simp)).trans (by simp); done) | apply And.intro)
  rintro ⟨i, y, T⟩ HINV
  dsimp only at HINV ⊢
  obtain ⟨HI, HT, HB, hy⟩ := HINV
  have hlr : (b ++ List.replicate (n - i) 0 ++ T).length = b.length + n := by simp; omega
  by_cases hi : i < n
  · obtain ⟨m, hm⟩ : ∃ m, n - i = m + 1 := ⟨n - i - 1, by omega⟩
    rw [hm] at hlr HB ⊢
    rw [be, List.append_assoc] at HB
    repeat' ((conv => whnf); first
      | (with_reducible refine spB_dec ?_ ?_ <;> intro _ <;> (try (exfalso; first | contradiction | omega | (rename_i hz; refine hz ?_; simp; done) | (rename_i hz; simp at hz; done) | (simp only [LN] at *; omega))))
      | (with_reducible refine vN_shr8 (by omega) ?_)
      | ((with_reducible refine ixN_mk (b.length + m) ?_ ?_ ?_); (focus (first | ((try simp only [LN] at *) <;> omega))); (focus ((try simp only [LN] at *) <;> omega)))
      | ((with_reducible refine rowN_mk (cB 0) ?_ ?_); (focus (exact put_row)))
      | with_reducible first | refine wr_mod8 ?_
      | ((with_reducible refine eqN_mk2 ?_ ?_); (focus rfl))
      | with_reducible refine wr_i64 (by first | omega | (simp only [LN] at *; omega)) ?_)
    all_goals (try (conv => whnf))
    all_goals try (show Nat.ble _ _ = true; rfl)
    all_goals try (exfalso; rename_i hz; cases hz; done)
    all_goals try (exfalso; (try simp only [LN] at *) <;> omega)
    all_goals first
      | ((refine Z.rnd_rw 0 ((b ++ List.replicate (n - (i + 1)) 0 ++ (y % 256) :: T).map cB) rfl rfl ?_ ?_); (focus (rw [show n - (i + 1) = m by omega]; exact put_set)); ((refine Z.rndK ((i + 1, y / 256, (y % 256) :: T)) (fun s => [0]) rfl rfl rfl rfl ?_ ?_ ?_ ?_); (focus (repeat' (first | exact trivial | exact rfl | apply And.intro))); (focus (repeat' (first | exact trivial | exact Z.blk_sub rfl rfl (ren_map fun _ => rfl) | apply And.intro))); (focus (exact ⟨by (try dsimp only); omega, by (try dsimp only); rw [List.length_cons, HT], by (try dsimp only); rw [show n - (i + 1) = m by omega]; exact HB, by (try dsimp only); omega⟩)); ((try dsimp only); omega)))
  have hil : i = n := by omega
  subst hil
  rw [Nat.sub_self, be, List.nil_append] at HB
  subst HB
  repeat' ((conv => whnf); first
    | (with_reducible refine spB_dec ?_ ?_ <;> intro _ <;> (try (exfalso; first | contradiction | omega | (rename_i hz; refine hz ?_; simp; done) | (rename_i hz; simp at hz; done) | (simp only [LN] at *; omega)))))
  all_goals (try (conv => whnf))
  all_goals try (show Nat.ble _ _ = true; rfl)
  all_goals try (exfalso; rename_i hz; cases hz; done)
  all_goals try (exfalso; (try simp only [LN] at *) <;> omega)
  all_goals first
    | ((first | (with_reducible apply Z.retF1)); (focus (exact rfl)); (repeat' (first | exact trivial | (with_reducible apply Z.frz_one) | ((with_reducible apply Z.fq_osl); (focus (exact rfl)); (focus (first | ((try simp only [LN] at *) <;> omega))); (focus (exact fun _ => rfl))) | apply And.intro)); (all_goals (try exact (fun _ => none))); all_goals (first | (simp; done)))
theorem put8_con (b : List Int) (x : Int) (hb : b.length ≤ 1099511627776) (hx : 0 ≤ x ∧ x < 18446744073709551616) : Con Try.prog 110 [.one (.ro false 1 (b.map eB)), .one (.v (.int .u64 x)), .one (.v (.int .i64 8))] (fun rx rK rt => rx = .c (.ro true 1 ((b ++ be 8 x).map eB)) ∧ rK = [] ∧ rt = 0) := put_con b x 8 hb (by decide) hx
theorem put64_con (b : List Int) (x : Int) (hb : b.length ≤ 1099511627776) (hx : 0 ≤ x ∧ x < 18446744073709551616) : Con Try.prog 76 [.one (.ro false 1 (b.map eB)), .one (.v (.int .u64 x))] (fun rx rK rt => rx = .c (.ro true 1 ((b ++ be 8 x).map eB)) ∧ rK = [] ∧ rt = 0) := by
  refine Z.con_ofF tabOk 8 Try.f76 _ Try.func76 (by kernel_rfl) rfl rfl rfl rfl ?_
  repeat' ((conv => whnf); first
    | ((first | (with_reducible apply Z.callZ_mk ?_ (put8_con _ _ ?_ ?_) ?_)); (rotate_left 2); (focus ((repeat' (first | exact trivial | exact rfl | apply And.intro)); done)); (iterate 2 (focus (first | assumption)))))
  all_goals (try (conv => whnf))
  all_goals first
    | ((first | (with_reducible apply Z.retF1)); (focus (exact rfl)); (repeat' (first | exact trivial | exact rfl | apply And.intro)); (all_goals (try exact (fun _ => none))); all_goals (rfl))
end Go.Proofs.Ytehhmkdghgabaaa
namespace Go.Proofs.Ytehhmkdghgabaaa
open Go Go.RowKit Wx
set_option linter.unusedVariables false
set_option linter.unusedSimpArgs false
set_option maxHeartbeats 4000000
theorem nan_con (a : Int)  : Con Try.prog 115 [.one (.v (.int .i64 a))] (fun rx rK rt => rx = .val (.bool false) ∧ rK = [] ∧ rt = 0) := by
  refine Z.con_ofF tabOk 6 Try.f115 _ Try.func115 (by kernel_rfl) rfl rfl rfl rfl ?_
  repeat' ((conv => whnf); first
    | with_reducible first | refine spB_t ?_)
  all_goals (try (conv => whnf))
  all_goals first
    | ((first | (with_reducible apply Z.retF1)); (focus (exact rfl)); (repeat' (first | exact trivial | (with_reducible apply Z.frz_one) | (with_reducible apply Z.fq_bool) | apply And.intro)); (all_goals (try exact (fun _ => none))); all_goals (simp))
theorem cmp_con (a b : Int)  : Con Try.prog 91 [.one (.v (.int .i64 a)), .one (.v (.int .i64 b))] (fun rx rK rt => rx = .val (.int .i64 (cmpI a b)) ∧ rK = [] ∧ rt = 0) := by
  refine Z.con_ofF tabOk 20 Try.f91 _ Try.func91 (by kernel_rfl) rfl rfl rfl rfl ?_
  repeat' ((conv => whnf); first
    | with_reducible first | refine spB_no (by decide) ?_
    | (with_reducible refine spB_dec ?_ ?_ <;> intro _ <;> (try (exfalso; first | contradiction | omega | (rename_i hz; with_reducible exact absurd rfl hz))))
    | ((first | (with_reducible apply Z.callZ_mk ?_ (nan_con _) ?_)); (rotate_left 1); (focus ((repeat' (first | exact trivial | exact rfl | apply And.intro)); done))))
  all_goals (try (conv => whnf))
  all_goals first
    | ((first | (with_reducible apply Z.retF1)); (focus (exact rfl)); (repeat' (first | exact trivial | (with_reducible apply Z.frz_one) | (with_reducible apply Z.fq_int) | apply And.intro)); (all_goals (try exact (fun _ => none))); all_goals (first | (unfold cmpI; first | rw [if_pos (by omega)] | rw [if_neg (by omega), if_pos (by omega)] | rw [if_neg (by omega), if_neg (by omega)])))
theorem or_con (a b : Int)  : Con Try.prog 90 [.one (.ro false 1 [[.v (.int .i64 a)], [.v (.int .i64 b)]])] (fun rx rK rt => rx = .val (.int .i64 (if a ≠ 0 then a else b)) ∧ rK = [] ∧ rt = 0) := by
  refine Z.con_ofF tabOk 18 Try.f90 _ Try.func90 (by kernel_rfl) rfl rfl rfl rfl ?_
  repeat' ((conv => whnf); first
    | (with_reducible refine spB_dec ?_ ?_ <;> intro _ <;> (try (exfalso; first | contradiction | omega | (rename_i hz; refine hz ?_; simp; done) | (rename_i hz; simp at hz; done) | (simp only [LN] at *; omega))))
    | (with_reducible refine spB_bne ?_ ?_ <;> intro _ <;> (try (exfalso; first | contradiction | omega | (rename_i hz; refine hz ?_; simp; done) | (rename_i hz; simp at hz; done) | (simp only [LN] at *; omega))))
    | with_reducible first | refine Z.loopZ_unroll tabOk 3 ?_
    | ((with_reducible apply rowN_mk); (focus rfl))
    | ((with_reducible apply ixN_lit); (focus (exact rfl)); (focus (exact rfl)))
    | with_reducible refine wr_i64 (by first | omega | (simp only [LN] at *; omega)) ?_)
  all_goals (try (conv => whnf))
  all_goals try (show Nat.ble _ _ = true; rfl)
  all_goals try (exfalso; rename_i hz; cases hz; done)
  all_goals try (exfalso; (try simp only [LN] at *) <;> omega)
  all_goals first
    | ((first | (with_reducible apply Z.retF1)); (focus (exact rfl)); (repeat' (first | exact trivial | (with_reducible apply Z.frz_one) | (with_reducible apply Z.fq_int) | (apply Z.fq_int) | apply And.intro)); (all_goals (try exact (fun _ => none))); all_goals (first | (simp_all; done)))
theorem compare_con (s k v s2 k2 v2 : Int)  : Con Try.prog 51 [.agg [.v (.int .i64 s), .v (.int .i64 k), .v (.int .i64 v)], .agg [.v (.int .i64 s2), .v (.int .i64 k2), .v (.int .i64 v2)]] (fun rx rK rt => rx = .val (.int .i64 (cmpR s k s2 k2)) ∧ rK = [] ∧ rt = 0) := by
  refine Z.con_ofF tabOk 17 Try.f51 _ Try.func51 (by kernel_rfl) rfl rfl rfl rfl ?_
  repeat' ((conv => whnf); first
    | ((first | (with_reducible apply Z.conZ_mz ?_ (or_con _ _) ?_) | (with_reducible apply Z.conZ_mz ?_ (cmp_con _ _) ?_)); (rotate_left 2); (focus ((repeat' (first | exact trivial | exact ⟨_, rfl, rfl, rfl⟩ | exact rfl | apply And.intro)); done)))
    | with_reducible first | refine Z.drawZ_rule tabOk mixOk ?_ | refine Z.apZ_mk (by kernel_rfl) ?_)
  all_goals (try (conv => whnf))
  all_goals first
    | ((first | (with_reducible apply Z.retF1)); (focus (exact rfl)); (repeat' (first | exact trivial | exact rfl | apply And.intro)); (all_goals (try exact (fun _ => none))); all_goals (rfl))
theorem rec_con (s k v : Int)  : Con Try.prog 50 [.agg [.v (.int .i64 s), .v (.int .i64 k), .v (.int .i64 v)]] (fun rx rK rt => rx = .val (.int .i64 (bif keyOk s k then 0 else 150)) ∧ rK = [] ∧ rt = 0) := by
  refine Z.con_ofF tabOk 21 Try.f50 _ Try.func50 (by kernel_rfl) rfl rfl rfl rfl ?_
  repeat' ((conv => whnf); first
    | with_reducible first | refine spB_t ?_
    | with_reducible first | refine spB_no (by decide) ?_
    | (with_reducible refine spB_dec ?_ ?_ <;> intro _ <;> (try (exfalso; first | contradiction | omega | (rename_i hz; refine hz ?_; simp; done) | (rename_i hz; simp at hz; done) | (simp only [LN] at *; omega)))))
  all_goals (try (conv => whnf))
  all_goals try (show Nat.ble _ _ = true; rfl)
  all_goals try (exfalso; rename_i hz; cases hz; done)
  all_goals try (exfalso; (try simp only [LN] at *) <;> omega)
  all_goals first
    | ((first | (with_reducible apply Z.retF1)); (focus (exact rfl)); (repeat' (first | exact trivial | (with_reducible apply Z.frz_one) | (with_reducible apply Z.fq_int) | apply And.intro)); (all_goals (try exact (fun _ => none))); all_goals (first | (rw [show keyOk s k = true from keyOk_iff.2 (by omega)]; rfl) | (rw [show keyOk s k = false by (cases hz : keyOk s k with | false => rfl | true => exact absurd (keyOk_iff.1 hz) (by omega))]; rfl)))
theorem rrec_con (s k v : Int)  : Con Try.prog 46 [.agg [.v (.int .i64 s), .v (.int .i64 k), .v (.int .i64 v)]] (fun rx rK rt => rx = .val (.bool (keyOk s k)) ∧ rK = [] ∧ rt = 0) := by
  refine Z.con_ofF tabOk 21 Try.f46 _ Try.func46 (by kernel_rfl) rfl rfl rfl rfl ?_
  repeat' ((conv => whnf); first
    | with_reducible first | refine spB_t ?_
    | with_reducible first | refine spB_no (by decide) ?_
    | (with_reducible refine spB_dec ?_ ?_ <;> intro _ <;> (try (exfalso; first | contradiction | omega | (rename_i hz; refine hz ?_; simp; done) | (rename_i hz; simp at hz; done) | (simp only [LN] at *; omega)))))
  all_goals (try (conv => whnf))
  all_goals try (show Nat.ble _ _ = true; rfl)
  all_goals try (exfalso; rename_i hz; cases hz; done)
  all_goals try (exfalso; (try simp only [LN] at *) <;> omega)
  all_goals first
    | ((first | (with_reducible apply Z.retF1)); (focus (exact rfl)); (repeat' (first | exact trivial | (with_reducible apply Z.frz_one) | (with_reducible apply Z.fq_bool) | apply And.intro)); (all_goals (try exact (fun _ => none))); all_goals (first | (unfold keyOk; exact decide_eq_decide.2 (by omega)) | (rw [show keyOk s k = false by (cases hz : keyOk s k with | false => rfl | true => exact absurd (keyOk_iff.1 hz) (by omega))])))
theorem rcompare_con (s k v s2 k2 v2 : Int)  : Con Try.prog 48 [.agg [.v (.int .i64 s), .v (.int .i64 k), .v (.int .i64 v)], .agg [.v (.int .i64 s2), .v (.int .i64 k2), .v (.int .i64 v2)]] (fun rx rK rt => rx = .val (.int .i64 (cmpR s k s2 k2)) ∧ rK = [] ∧ rt = 0) := by
  refine Z.con_ofF tabOk 36 Try.f48 _ Try.func48 (by kernel_rfl) rfl rfl rfl rfl ?_
  repeat' ((conv => whnf); first
    | with_reducible first | refine spB_t ?_
    | with_reducible first | refine spB_no (by decide) ?_
    | (with_reducible refine spB_dec ?_ ?_ <;> intro _ <;> (try (exfalso; first | contradiction | omega | (rename_i hz; refine hz ?_; simp; done) | (rename_i hz; simp at hz; done) | (simp only [LN] at *; omega))))
    | (with_reducible refine spB_beq ?_ ?_ <;> intro _ <;> (try (exfalso; first | contradiction | omega | (rename_i hz; refine hz ?_; simp; done) | (rename_i hz; simp at hz; done) | (simp only [LN] at *; omega)))))
  all_goals (try (conv => whnf))
  all_goals try (show Nat.ble _ _ = true; rfl)
  all_goals try (exfalso; rename_i hz; cases hz; done)
  all_goals try (exfalso; (try simp only [LN] at *) <;> omega)
  all_goals first
    | ((first | (with_reducible apply Z.retF1)); (focus (exact rfl)); (repeat' (first | exact trivial | (with_reducible apply Z.frz_one) | (with_reducible apply Z.fq_int) | apply And.intro)); (all_goals (try exact (fun _ => none))); all_goals ((unfold cmpR cmpI; repeat' split) <;> first | rfl | omega))
end Go.Proofs.Ytehhmkdghgabaaa
namespace Go.Proofs.Ytehhmkdghgabaaa
open Go Go.RowKit Wx
set_option linter.unusedVariables false
set_option linter.unusedSimpArgs false
set_option maxHeartbeats 4000000
theorem check_con (l : List Kc) (hl : l.length ≤ 9223372036854775807) : Con Try.prog 15 [.agg [.ro false 4 (l.map eK)]] (fun rx rK rt => rx = .val (.int .i64 (bif tabR l then 0 else 220)) ∧ rK = [] ∧ rt = 0) := by
  refine Z.con_ofF tabOk 42 Try.f15 _ Try.func15 (by kernel_rfl) rfl rfl rfl rfl ?_
  repeat' ((conv => whnf); first
    | with_reducible first | refine spB_t ?_
    | fail)
  all_goals (try (conv => whnf))
  all_goals try (show Nat.ble _ _ = true; rfl)
  all_goals try (exfalso; rename_i hz; cases hz; done)
  all_goals try (exfalso; (try simp only [LN] at *) <;> omega)
  refine Z.loopK tabOk (fun zq : Nat => [(9, .val (.int .i64 (zq : Int)))]) (fun zq : Nat => ([(0, some (Z.Ob.b ⟨[[.ro false 4 (l.map eK)]], 1, 30, true⟩))] : Z.Kr)) (fun zq => zq ≤ l.length ∧ tabR l = okT (prevR l zq) (l.drop zq)) (fun zq => l.length - zq) 0 1 [(1, _), (7, _), (8, _)] ⟨rfl, rfl, rfl, trivial⟩ [] trivial ?_ ?_ rfl rfl ⟨Nat.zero_le _, rfl⟩ ?_
  · repeat' (first | exact trivial | apply And.intro | exact ⟨_, rfl, Z.Imp.refl _⟩)
  · repeat' (first | exact trivial | exact (fun b hb => ⟨b, hb, Z.ImpO.refl b⟩) | apply And.intro)
  rintro i HINV
  (try dsimp only at HINV); (try dsimp only)
  obtain ⟨HI, HT⟩ := HINV
  by_cases hi : i < l.length
  · obtain ⟨x, hx⟩ := getElem?_some' (xs := l) (i := i) hi
    rw [okT_at hx] at HT
    have ck := rec_con x.src x.key 0
    cases hk : keyOk x.src x.key
    · rw [hk] at ck HT
      simp only [Bool.false_and, cond_false] at ck HT
      rw [HT]
      try simp only [cond_false]
      repeat' ((conv => whnf); first
        | with_reducible first | refine spB_t ?_
        | ((with_reducible apply spB_cong); (focus (simp only [beq_self_eq_true, bne_self_eq_false, Bool.true_bne, Bool.false_bne, Bool.bne_true, Bool.bne_false, Bool.true_beq, Bool.false_beq, Bool.not_true, Bool.not_false, Bool.not_not, Int.reduceBEq, Int.reduceBNe, Int.reduceLE, Int.reduceLT, Int.reduceEq, decide_true, decide_false]; rfl)))
        | (with_reducible refine spB_dec ?_ ?_ <;> intro _ <;> (try (exfalso; first | contradiction | omega | (rename_i hz; refine hz ?_; simp; done) | (rename_i hz; simp at hz; done) | (simp only [LN] at *; omega))))
        | with_reducible first | refine Z.rowN_known hx ?_
        | ((with_reducible apply ixN_litp); (focus (exact rfl)); (focus ((try simp only [LN] at *) <;> omega)))
        | with_reducible first | refine Z.callZ_in tabOk 8 Try.f49 _ Try.func49 (by kernel_rfl) rfl rfl rfl ?_
        | ((first | (with_reducible refine Z.conZ_mz ?_ (ck) ?_)); (focus ((repeat' (first | exact trivial | exact rfl | apply And.intro)); done)))
        | ((with_reducible apply ex_and); exact rfl)
        | with_reducible first | refine Z.drawZ_rule tabOk mixOk ?_ | refine Z.apZ_mk (by kernel_rfl) ?_
        | fail)
      all_goals (try (conv => whnf))
      all_goals try (show Nat.ble _ _ = true; rfl)
      all_goals try (exfalso; rename_i hz; cases hz; done)
      all_goals try (exfalso; (try simp only [LN] at *) <;> omega)
      all_goals first
        | ((first | (with_reducible apply Z.retF1)); (focus (exact rfl)); (repeat' (first | exact trivial | (with_reducible apply Z.frz_one) | (with_reducible apply Z.fq_int) | exact rfl | apply And.intro)); (all_goals (try exact (fun _ => none))); all_goals (first | (simp; done)))
        | fail
    rw [hk] at ck HT
    simp only [Bool.true_and, cond_true] at ck HT
    by_cases hc : 0 < x.cnt
    rotate_left
    · rw [decide_eq_false hc, Bool.false_and, Bool.false_and] at HT
      rw [HT]
      try simp only [cond_false]
      repeat' ((conv => whnf); first
        | with_reducible first | refine spB_t ?_
        | ((with_reducible apply spB_cong); (focus (simp only [beq_self_eq_true, bne_self_eq_false, Bool.true_bne, Bool.false_bne, Bool.bne_true, Bool.bne_false, Bool.true_beq, Bool.false_beq, Bool.not_true, Bool.not_false, Bool.not_not, Int.reduceBEq, Int.reduceBNe, Int.reduceLE, Int.reduceLT, Int.reduceEq, decide_true, decide_false]; rfl)))
        | with_reducible first | refine spB_no (by decide) ?_
        | (with_reducible refine spB_dec ?_ ?_ <;> intro _ <;> (try (exfalso; first | contradiction | omega | (rename_i hz; refine hz ?_; simp; done) | (rename_i hz; simp at hz; done) | (simp only [LN] at *; omega))))
        | with_reducible first | refine Z.rowN_known hx ?_
        | ((with_reducible apply ixN_litp); (focus (exact rfl)); (focus ((try simp only [LN] at *) <;> omega)))
        | with_reducible first | refine Z.callZ_in tabOk 8 Try.f49 _ Try.func49 (by kernel_rfl) rfl rfl rfl ?_
        | ((first | (with_reducible refine Z.conZ_mz ?_ (ck) ?_)); (focus ((repeat' (first | exact trivial | exact rfl | apply And.intro)); done)))
        | ((with_reducible apply ex_and); exact rfl)
        | with_reducible first | refine Z.drawZ_rule tabOk mixOk ?_ | refine Z.apZ_mk (by kernel_rfl) ?_
        | fail)
      all_goals (try (conv => whnf))
      all_goals try (show Nat.ble _ _ = true; rfl)
      all_goals try (exfalso; rename_i hz; cases hz; done)
      all_goals try (exfalso; (try simp only [LN] at *) <;> omega)
      all_goals first
        | ((first | (with_reducible apply Z.retF1)); (focus (exact rfl)); (repeat' (first | exact trivial | (with_reducible apply Z.frz_one) | (with_reducible apply Z.fq_int) | exact rfl | apply And.intro)); (all_goals (try exact (fun _ => none))); all_goals (first | (simp; done)))
        | fail
    rw [decide_eq_true hc, Bool.true_and] at HT
    rcases i with _ | j
    · have HT2 : tabR l = okT (prevR l 1) (l.drop 1) := by rw [HT]; rfl
      repeat' ((conv => whnf); first
        | ((with_reducible apply spB_cong); (focus (simp only [beq_self_eq_true, bne_self_eq_false, Bool.true_bne, Bool.false_bne, Bool.bne_true, Bool.bne_false, Bool.true_beq, Bool.false_beq, Bool.not_true, Bool.not_false, Bool.not_not, Int.reduceBEq, Int.reduceBNe, Int.reduceLE, Int.reduceLT, Int.reduceEq, decide_true, decide_false]; rfl)))
        | with_reducible first | refine spB_no (by decide) ?_
        | (with_reducible refine spB_dec ?_ ?_ <;> intro _ <;> (try (exfalso; first | contradiction | omega | (rename_i hz; refine hz ?_; simp; done) | (rename_i hz; simp at hz; done) | (simp only [LN] at *; omega))))
        | with_reducible first | refine Z.rowN_known hx ?_
        | ((with_reducible apply ixN_litp); (focus (exact rfl)); (focus ((try simp only [LN] at *) <;> omega)))
        | with_reducible refine wr_i64 (by first | omega | (simp only [LN] at *; omega)) ?_
        | with_reducible first | refine Z.callZ_in tabOk 8 Try.f49 _ Try.func49 (by kernel_rfl) rfl rfl rfl ?_
        | ((first | (with_reducible refine Z.conZ_mz ?_ (ck) ?_)); (focus ((repeat' (first | exact trivial | exact rfl | apply And.intro)); done)))
        | ((with_reducible apply ex_and); exact rfl)
        | with_reducible first | refine Z.drawZ_rule tabOk mixOk ?_ | refine Z.apZ_mk (by kernel_rfl) ?_
        | fail)
      all_goals (try (conv => whnf))
      all_goals try (show Nat.ble _ _ = true; rfl)
      all_goals try (exfalso; rename_i hz; cases hz; done)
      all_goals try (exfalso; (try simp only [LN] at *) <;> omega)
      all_goals first
        | ((refine Z.rndK (1) (fun s => [0]) rfl rfl rfl rfl ?_ ?_ ?_ ?_); (focus (repeat' (first | exact trivial | exact rfl | apply And.intro))); (focus (repeat' (first | exact trivial | (intro b hb; cases hb; rfl) | apply And.intro))); (focus (exact ⟨by (try dsimp only); omega, HT2⟩)); ((try dsimp only); omega))
        | fail
    obtain ⟨q, hq⟩ := getElem?_some' (xs := l) (i := j) (by omega)
    have hpr : prevR l (j + 1) = some q := hq
    rw [hpr] at HT
    simp only at HT
    have cc := compare_con q.src q.key 0 x.src x.key 0
    have hcl := @cmp_lt q.src q.key x.src x.key
    generalize cmpR q.src q.key x.src x.key = C at *
    by_cases hlt : kLt q.src q.key x.src x.key
    · rw [decide_eq_true hlt] at HT hcl
      have hC : ¬ 0 ≤ C := of_decide_eq_false (by simpa using hcl)
      rw [Bool.true_and] at HT
      repeat' ((conv => whnf); first
        | with_reducible first | refine spB_t ?_
        | ((with_reducible apply spB_cong); (focus (simp only [beq_self_eq_true, bne_self_eq_false, Bool.true_bne, Bool.false_bne, Bool.bne_true, Bool.bne_false, Bool.true_beq, Bool.false_beq, Bool.not_true, Bool.not_false, Bool.not_not, Int.reduceBEq, Int.reduceBNe, Int.reduceLE, Int.reduceLT, Int.reduceEq, decide_true, decide_false]; rfl)))
        | with_reducible first | refine spB_no (by decide) ?_
        | (with_reducible refine spB_dec ?_ ?_ <;> intro _ <;> (try (exfalso; first | contradiction | omega | (rename_i hz; refine hz ?_; simp; done) | (rename_i hz; simp at hz; done) | (simp only [LN] at *; omega))))
        | with_reducible first | refine Z.rowN_known hx ?_ | refine Z.rowN_known hq ?_
        | ((with_reducible refine ixN_mk (j) ?_ ?_ ?_); (focus (first | ((try simp only [LN] at *) <;> omega))); (focus ((try simp only [LN] at *) <;> omega)))
        | ((with_reducible apply ixN_litp); (focus (exact rfl)); (focus ((try simp only [LN] at *) <;> omega)))
        | with_reducible refine wr_i64 (by first | omega | (simp only [LN] at *; omega)) ?_
        | with_reducible first | refine Z.callZ_in tabOk 8 Try.f49 _ Try.func49 (by kernel_rfl) rfl rfl rfl ?_
        | ((first | (with_reducible refine Z.conZ_mz ?_ (ck) ?_) | (with_reducible refine Z.conZ_mz ?_ (cc) ?_)); (focus ((repeat' (first | exact trivial | exact rfl | apply And.intro)); done)))
        | ((with_reducible apply ex_and); exact rfl)
        | with_reducible first | refine Z.drawZ_rule tabOk mixOk ?_ | refine Z.apZ_mk (by kernel_rfl) ?_
        | ((with_reducible refine Z.ConZ.red ?_); (try subst hlb); (apply Z.conZ_all); (focus (repeat (first | exact Z.FK.nil | (apply Z.FK.keep; exact rfl)))); (focus rfl); (focus rfl); (focus (repeat (first | exact trivial | (refine ⟨(fun o ho => (by first | (cases ho; rfl) | (cases ho; exact Z.inL_map fun _ => rfl) | (cases ho; exact Z.inL_mapr fun _ => rfl) | exact Z.inL_gB ho fun _ => rfl)), ?_⟩)))))
        | ((refine ⟨rfl, ?_, rfl⟩); (focus (repeat (first | exact Z.DK.nil | apply Z.DK.cons))))
        | fail)
      all_goals (try (conv => whnf))
      all_goals try (show Nat.ble _ _ = true; rfl)
      all_goals try (exfalso; rename_i hz; cases hz; done)
      all_goals try (exfalso; (try simp only [LN] at *) <;> omega)
      all_goals first
        | ((refine Z.rndK ((j + 1 + 1)) (fun s => [0]) rfl rfl rfl rfl ?_ ?_ ?_ ?_); (focus (repeat' (first | exact trivial | exact rfl | apply And.intro))); (focus (repeat' (first | exact trivial | (intro b hb; cases hb; rfl) | apply And.intro))); (focus (exact ⟨by (try dsimp only); omega, HT⟩)); ((try dsimp only); omega))
        | fail
    · rw [decide_eq_false hlt] at HT hcl
      have hC : 0 ≤ C := of_decide_eq_true (by simpa using hcl)
      rw [Bool.false_and] at HT
      rw [HT]
      try simp only [cond_false]
      repeat' ((conv => whnf); first
        | with_reducible first | refine spB_t ?_
        | ((with_reducible apply spB_cong); (focus (simp only [beq_self_eq_true, bne_self_eq_false, Bool.true_bne, Bool.false_bne, Bool.bne_true, Bool.bne_false, Bool.true_beq, Bool.false_beq, Bool.not_true, Bool.not_false, Bool.not_not, Int.reduceBEq, Int.reduceBNe, Int.reduceLE, Int.reduceLT, Int.reduceEq, decide_true, decide_false]; rfl)))
        | with_reducible first | refine spB_no (by decide) ?_
        | (with_reducible refine spB_dec ?_ ?_ <;> intro _ <;> (try (exfalso; first | contradiction | omega | (rename_i hz; refine hz ?_; simp; done) | (rename_i hz; simp at hz; done) | (simp only [LN] at *; omega))))
        | with_reducible first | refine Z.rowN_known hx ?_ | refine Z.rowN_known hq ?_
        | ((with_reducible refine ixN_mk (j) ?_ ?_ ?_); (focus (first | ((try simp only [LN] at *) <;> omega))); (focus ((try simp only [LN] at *) <;> omega)))
        | ((with_reducible apply ixN_litp); (focus (exact rfl)); (focus ((try simp only [LN] at *) <;> omega)))
        | with_reducible refine wr_i64 (by first | omega | (simp only [LN] at *; omega)) ?_
        | with_reducible first | refine Z.callZ_in tabOk 8 Try.f49 _ Try.func49 (by kernel_rfl) rfl rfl rfl ?_
        | ((first | (with_reducible refine Z.conZ_mz ?_ (ck) ?_) | (with_reducible refine Z.conZ_mz ?_ (cc) ?_)); (focus ((repeat' (first | exact trivial | exact rfl | apply And.intro)); done)))
        | ((with_reducible apply ex_and); exact rfl)
        | with_reducible first | refine Z.drawZ_rule tabOk mixOk ?_ | refine Z.apZ_mk (by kernel_rfl) ?_
        | ((with_reducible refine Z.ConZ.red ?_); (try subst hlb); (apply Z.conZ_all); (focus (repeat (first | exact Z.FK.nil | (apply Z.FK.keep; exact rfl)))); (focus rfl); (focus rfl); (focus (repeat (first | exact trivial | (refine ⟨(fun o ho => (by first | (cases ho; rfl) | (cases ho; exact Z.inL_map fun _ => rfl) | (cases ho; exact Z.inL_mapr fun _ => rfl) | exact Z.inL_gB ho fun _ => rfl)), ?_⟩)))))
        | ((refine ⟨rfl, ?_, rfl⟩); (focus (repeat (first | exact Z.DK.nil | apply Z.DK.cons))))
        | fail)
      all_goals (try (conv => whnf))
      all_goals try (show Nat.ble _ _ = true; rfl)
      all_goals try (exfalso; rename_i hz; cases hz; done)
      all_goals try (exfalso; (try simp only [LN] at *) <;> omega)
      all_goals first
        | ((first | (with_reducible apply Z.retF1)); (focus (exact rfl)); (repeat' (first | exact trivial | (with_reducible apply Z.frz_one) | (with_reducible apply Z.fq_int) | exact rfl | apply And.intro)); (all_goals (try exact (fun _ => none))); all_goals (first | (simp; done)))
        | fail
  have hil : i = l.length := by omega
  subst hil
  rw [List.drop_length] at HT
  have HT3 : tabR l = true := by rw [HT]; cases prevR l l.length <;> rfl
  rw [HT3]
  try simp only [cond_true]
  repeat' ((conv => whnf); first
    | (with_reducible refine spB_dec ?_ ?_ <;> intro _ <;> (try (exfalso; first | contradiction | omega | (rename_i hz; refine hz ?_; simp; done) | (rename_i hz; simp at hz; done) | (simp only [LN] at *; omega))))
    | fail)
  all_goals (try (conv => whnf))
  all_goals try (show Nat.ble _ _ = true; rfl)
  all_goals try (exfalso; rename_i hz; cases hz; done)
  all_goals try (exfalso; (try simp only [LN] at *) <;> omega)
  all_goals first
    | ((first | (with_reducible apply Z.retF1)); (focus (exact rfl)); (repeat' (first | exact trivial | (with_reducible apply Z.frz_one) | (with_reducible apply Z.fq_int) | exact rfl | apply And.intro)); (all_goals (try exact (fun _ => none))); all_goals (first | (simp; done)))
    | fail
end Go.Proofs.Ytehhmkdghgabaaa
namespace Go.Proofs.Ytehhmkdghgabaaa
open Go Go.RowKit Wx
set_option linter.unusedVariables false
set_option linter.unusedSimpArgs false
set_option maxHeartbeats 4000000
theorem enc_rows {E C : List Int} {a b : Int} {fl : Bool} {S : List (List Ce)} (hS : S = [cB a, cB b]) : List.take (E.length + 2) (List.take E.length (E.map cB) ++ S) ++ (C.map eB).map (List.map (RT.ce fl)) = (E ++ [a, b] ++ C).map cB := by
  subst hS
  rw [ce_cB, List.take_of_length_le (l := E.map cB) (by simp), List.take_of_length_le (by simp), List.map_append, List.map_append]
  rfl
theorem encode_con (l : List Kc) (hl : l.length ≤ 9223372036854775807) : Con Try.prog 37 [.agg [.ro false 4 (l.map eK)]] (fun rx rK rt => rx = .tup [.one (.ro true 1 ((encTR l).1.map eB)), .one (.v (.int .i64 (encTR l).2))] ∧ rK = [] ∧ rt = 0) := by
  refine Z.con_ofF tabOk 50 Try.f37 _ Try.func37 (by kernel_rfl) rfl rfl rfl rfl ?_
  have cc := check_con l hl
  cases hok : tabR l
  · rw [hok] at cc
    have e1 : encTR l = ([], 220) := by unfold encTR; rw [hok]; rfl
    rw [e1]
    simp only [cond_false] at cc
    repeat' ((conv => whnf); first
      | with_reducible first | refine spB_t ?_
      | ((with_reducible apply spB_cong); (focus (simp only [beq_self_eq_true, bne_self_eq_false, Bool.true_bne, Bool.false_bne, Bool.bne_true, Bool.bne_false, Bool.true_beq, Bool.false_beq, Bool.not_true, Bool.not_false, Bool.not_not, Int.reduceBEq, Int.reduceBNe, Int.reduceLE, Int.reduceLT, Int.reduceEq, decide_true, decide_false]; rfl)))
      | ((first | (with_reducible refine Z.callZ_mk ?_ (cc) ?_)); (focus ((repeat' (first | exact trivial | exact rfl | apply And.intro)); done))))
    all_goals (try (conv => whnf))
    all_goals try (show Nat.ble _ _ = true; rfl)
    all_goals try (exfalso; rename_i hz; cases hz; done)
    all_goals try (exfalso; (try simp only [LN] at *) <;> omega)
    all_goals first
      | ((first | (with_reducible apply Z.retF2)); (focus (exact rfl)); (repeat' (first | exact trivial | (with_reducible apply Z.frz_one) | (exact Z.frz_nil) | exact rfl | apply And.intro)); (all_goals (try exact (fun _ => none))); all_goals (first | (simp; done)))
  rw [hok] at cc
  have e1 : encTR l = (encT l, 0) := by unfold encTR; rw [hok]; rfl
  rw [e1]
  simp only [cond_true] at cc
  have hl256 := tab_len hok
  have hwl : 0 ≤ IntKind.u16.wrap (l.length : Int) ∧ IntKind.u16.wrap (l.length : Int) < 65536 := by rw [u16_in (by omega)]; omega
  have cp0 := putO16_con [] (IntKind.u16.wrap (l.length : Int)) (by simp) hwl
  rw [List.nil_append] at cp0
  repeat' ((conv => whnf); first
    | ((with_reducible apply spB_cong); (focus (simp only [beq_self_eq_true, bne_self_eq_false, Bool.true_bne, Bool.false_bne, Bool.bne_true, Bool.bne_false, Bool.true_beq, Bool.false_beq, Bool.not_true, Bool.not_false, Bool.not_not, Int.reduceBEq, Int.reduceBNe, Int.reduceLE, Int.reduceLT, Int.reduceEq, decide_true, decide_false]; rfl)))
    | with_reducible first | refine spB_no (by decide) ?_
    | ((with_reducible refine wr_mk (IntKind.u16.wrap (l.length : Int)) (by rw [List.length_map]) ?_))
    | ((first | (with_reducible refine Z.callZ_mk ?_ (cc) ?_) | (with_reducible refine Z.callZ_mk ?_ (cp0) ?_)); (focus ((repeat' (first | exact trivial | exact rfl | exact Z.low_nil2 | apply And.intro)); done))))
  all_goals (try (conv => whnf))
  all_goals try (show Nat.ble _ _ = true; rfl)
  all_goals try (exfalso; rename_i hz; cases hz; done)
  all_goals try (exfalso; (try simp only [LN] at *) <;> omega)
  refine Z.loopK tabOk (fun zq : Nat => [(22, .val (.int .i64 (zq : Int))), (5, .c (.osl 1 0 (be 2 (IntKind.u16.wrap (l.length : Int)) ++ (l.take zq).flatMap encK).length none))]) (fun zq : Nat => ([(0, some (Z.Ob.b ⟨[[.ro false 4 (l.map eK)]], 1, 30, true⟩)), (1, some (Z.Ob.b ⟨(be 2 (IntKind.u16.wrap (l.length : Int)) ++ (l.take zq).flatMap encK).map cB, 1, 5, false⟩))] : Z.Kr)) (fun zq => zq ≤ l.length) (fun zq => l.length - zq) 0 2 [(20, _), (21, _)] ⟨rfl, rfl, trivial⟩ [] trivial ?_ ?_ rfl rfl (Nat.zero_le _) ?_
  · repeat' (first | exact trivial | apply And.intro | exact ⟨_, rfl, Z.Imp.refl _⟩ | exact ⟨_, rfl, Z.Imp.oslcn (by simp [be_len])⟩)
  · repeat' (first | exact trivial | exact (fun b hb => ⟨b, hb, Z.ImpO.refl b⟩) | apply And.intro)
  rintro k HINV
  (try dsimp only at HINV); (try dsimp only)
  have hEl : (be 2 (IntKind.u16.wrap (l.length : Int)) ++ (l.take k).flatMap encK).length ≤ 2 + 18 * l.length := by rw [List.length_append, be_len, encKs_len, List.length_take]; omega
  by_cases hi : k < l.length
  · obtain ⟨x, hx⟩ := getElem?_some' (xs := l) (i := k) hi
    have hsn : (be 2 (IntKind.u16.wrap (l.length : Int)) ++ (l.take (k + 1)).flatMap encK) = (be 2 (IntKind.u16.wrap (l.length : Int)) ++ (l.take k).flatMap encK) ++ [x.src % 256, x.key % 256] ++ (be 8 (IntKind.u64.wrap x.cnt) ++ be 8 (IntKind.u64.wrap x.sum)) := by rw [encKs_snoc hx, encK]; simp only [List.append_assoc]
    generalize hE : (be 2 (IntKind.u16.wrap (l.length : Int)) ++ (l.take k).flatMap encK) = E at *
    have cp1 := put64_con [] (IntKind.u64.wrap x.cnt) (by simp) (u64_rng _)
    rw [List.nil_append] at cp1
    have cp2 := put64_con (be 8 (IntKind.u64.wrap x.cnt)) (IntKind.u64.wrap x.sum) (by simp [be_len]) (u64_rng _)
    have hcl : (be 8 (IntKind.u64.wrap x.cnt) ++ be 8 (IntKind.u64.wrap x.sum)).length = 16 := by simp [be_len]
    generalize hC : be 8 (IntKind.u64.wrap x.cnt) ++ be 8 (IntKind.u64.wrap x.sum) = C at *
    have hsl : E.length + 2 + (List.map eB C).length = (be 2 (IntKind.u16.wrap (l.length : Int)) ++ (l.take (k + 1)).flatMap encK).length := by rw [hsn]; simp only [List.length_append, List.length_map, List.length_cons, List.length_nil]
    repeat' ((conv => whnf); first
      | (with_reducible refine spB_dec ?_ ?_ <;> intro _ <;> (try (exfalso; first | contradiction | omega | (rename_i hz; refine hz ?_; simp; done) | (rename_i hz; simp at hz; done) | (simp only [LN] at *; omega))))
      | with_reducible first | refine Z.rowN_known hx ?_
      | ((with_reducible refine apdE_n ?_); (with_reducible refine apdN.mk ?_ ?_ ?_ ?_ ?_ ?_); (focus (simp; done)); (focus (exact one_map2 (fun _ => rfl))); (focus (show _ ≤ (List.take E.length (List.map cB E) ++ _).length; rw [List.length_append, List.length_take, List.length_map, Nat.min_self]; exact Nat.le_refl _)); (iterate 2 (focus ((try simp only [LN] at *) <;> omega))))
      | ((with_reducible refine apdE_n ?_); (with_reducible refine apdN.mk ?_ ?_ ?_ ?_ ?_ ?_); (focus rfl); (focus (exact one_all (by rfl))); (focus (first | ((try simp only [LN] at *) <;> omega))); (iterate 2 (focus ((try simp only [LN] at *) <;> omega))))
      | with_reducible first | refine wr_mod8 ?_
      | ((with_reducible refine wr_mk (IntKind.u64.wrap x.cnt) rfl ?_))
      | ((with_reducible refine wr_mk (IntKind.u64.wrap x.sum) rfl ?_))
      | ((with_reducible apply ixN_litp); (focus (exact rfl)); (focus ((try simp only [LN] at *) <;> omega)))
      | with_reducible refine wr_i64 (by first | omega | (simp only [LN] at *; omega)) ?_
      | ((first | (with_reducible refine Z.conZ_mz ?_ (cp1) ?_)); (focus ((repeat' (first | exact trivial | exact rfl | exact Z.low_nil2 | apply And.intro)); done)))
      | ((first | (with_reducible refine Z.conZ_mz ?_ (cp2) ?_)); (focus ((repeat' (first | exact trivial | exact rfl | apply And.intro)); done)))
      | with_reducible first | refine Z.drawZ_rule tabOk mixOk ?_ | refine Z.apZ_mk (by kernel_rfl) ?_)
    all_goals (try (conv => whnf))
    all_goals try (show Nat.ble _ _ = true; rfl)
    all_goals try (exfalso; rename_i hz; cases hz; done)
    all_goals try (exfalso; (try simp only [LN] at *) <;> omega)
    all_goals first
      | ((refine Z.rndK ((k + 1)) (fun s => [0, s.idAt 5]) rfl rfl rfl rfl ?_ ?_ ?_ ?_); (focus (repeat' (first | exact trivial | exact congrArg (fun n => some (AV.c (Ce.osl _ 0 n none))) hsl | exact rfl | apply And.intro))); (focus (repeat' (first | exact trivial | exact Z.blk_sub rfl ((enc_rows (E := E) (C := C) (a := x.src % 256) (b := x.key % 256) rfl).trans (congrArg (List.map cB) hsn.symm)) (ren_map fun _ => rfl) | (intro b hb; cases hb; rfl) | apply And.intro))); (focus ((try dsimp only); omega)); ((try dsimp only); omega))
  have hil : k = l.length := by omega
  subst hil
  rw [List.take_length]
  rw [show be 2 (IntKind.u16.wrap (l.length : Int)) ++ l.flatMap encK = encT l from rfl] at *
  repeat' ((conv => whnf); first
    | (with_reducible refine spB_dec ?_ ?_ <;> intro _ <;> (try (exfalso; first | contradiction | omega | (rename_i hz; refine hz ?_; simp; done) | (rename_i hz; simp at hz; done) | (simp only [LN] at *; omega)))))
  all_goals (try (conv => whnf))
  all_goals try (show Nat.ble _ _ = true; rfl)
  all_goals try (exfalso; rename_i hz; cases hz; done)
  all_goals try (exfalso; (try simp only [LN] at *) <;> omega)
  all_goals first
    | ((first | (with_reducible apply Z.retF2)); (focus (exact rfl)); (repeat' (first | exact trivial | (with_reducible apply Z.frz_one) | (with_reducible apply Z.fq_int) | ((with_reducible apply Z.fq_osl); (focus (exact rfl)); (focus (first | exact rfl)); (focus (exact fun _ => rfl))) | exact rfl | apply And.intro)); (all_goals (try exact (fun _ => none))); all_goals (rfl))
end Go.Proofs.Ytehhmkdghgabaaa
namespace Go.Proofs.Ytehhmkdghgabaaa
open Go Go.RowKit Wx
set_option linter.unusedVariables false
set_option linter.unusedSimpArgs false
set_option maxHeartbeats 4000000
end Go.Proofs.Ytehhmkdghgabaaa
namespace Go.Proofs.Ytehhmkdghgabaaa
open Go Go.RowKit Wx
set_option linter.unusedVariables false
set_option linter.unusedSimpArgs false
set_option maxHeartbeats 4000000
theorem pw_at {l : List Kc} (h : l.Pairwise kLtK) {a b : Nat} {x y : Kc} (hab : a < b) (hx : l[a]? = some x) (hy : l[b]? = some y) : kLtK x y := by
  obtain ⟨ha, rfl⟩ := List.getElem?_eq_some_iff.1 hx
  obtain ⟨hb, rfl⟩ := List.getElem?_eq_some_iff.1 hy
  exact List.pairwise_iff_getElem.1 h a b ha hb hab
theorem pos_eq {l : List Kc} {s k : Int} {i : Nat} (hi : i ≤ l.length) (h1 : ∀ (n : Nat) (x : Kc), n < i → l[n]? = some x → kLt x.src x.key s k) (h2 : ∀ (n : Nat) (x : Kc), i ≤ n → l[n]? = some x → ¬ kLt x.src x.key s k) : posR l s k = i := by
  unfold posR
  conv => lhs; rw [← List.take_append_drop i l]
  rw [List.filter_append, filter_all (l := l.take i) fun x hx => ?_, filter_none (l := l.drop i) fun x hx => ?_]
  · simp; omega
  · obtain ⟨n, hn⟩ := List.mem_iff_getElem?.1 hx
    rw [List.getElem?_drop] at hn
    exact decide_eq_false (h2 (i + n) x (by omega) hn)
  · obtain ⟨n, hn⟩ := List.mem_iff_getElem?.1 hx
    rw [List.getElem?_take] at hn
    split at hn
    · rename_i hni; exact decide_eq_true (h1 n x hni hn)
    · cases hn
theorem srch_lo {l : List Kc} {s k : Int} {m : Nat} {x : Kc} (hw : l.Pairwise kLtK) (hx : l[m]? = some x) (h : kLt x.src x.key s k) : ∀ (n : Nat) (y : Kc), n < m + 1 → l[n]? = some y → kLt y.src y.key s k := fun n y hn hy => by
  by_cases e : n = m
  · subst e; rw [hx] at hy; cases hy; exact h
  · exact kLt_trans (pw_at hw (by omega) hy hx) h
theorem srch_hi {l : List Kc} {s k : Int} {m : Nat} {x : Kc} (hw : l.Pairwise kLtK) (hx : l[m]? = some x) (h : ¬ kLt x.src x.key s k) : ∀ (n : Nat) (y : Kc), m ≤ n → l[n]? = some y → ¬ kLt y.src y.key s k := fun n y hn hy h2 => by
  by_cases e : n = m
  · subst e; rw [hx] at hy; cases hy; exact h h2
  · exact h (kLt_trans (pw_at hw (by omega) hx hy) h2)
def thereR (l : List Kc) (s k : Int) : Bool := match l[posR l s k]? with
  | none => false
  | some x => x.src == s && x.key == k
theorem vN_to {z : Int} {A : Int → Prop} (v : Int) (h : z = v) (k : A v) : vN z A := ⟨v, h, k⟩
theorem search_con (l : List Kc) (s k v : Int) (hl : l.length ≤ 1000) (ht : tabR l = true) : Con Try.prog 97 [.one (.ro false 4 (l.map eK)), .agg [.v (.int .i64 s), .v (.int .i64 k), .v (.int .i64 v)], .one (.fn 98 [])] (fun rx rK rt => rx = .tup [.one (.v (.int .i64 (posR l s k : Nat))), .one (.v (.bool (thereR l s k)))] ∧ rK = [] ∧ rt = 0) := by
  refine Z.con_ofF tabOk 49 Try.f97 _ Try.func97 (by kernel_rfl) rfl rfl rfl rfl ?_
  have hw := (tab_iff.1 ht).2
  repeat' ((conv => whnf); first
    | with_reducible first | refine spB_t ?_
    | fail)
  all_goals (try (conv => whnf))
  all_goals try (show Nat.ble _ _ = true; rfl)
  all_goals try (exfalso; rename_i hz; cases hz; done)
  all_goals try (exfalso; (try simp only [LN] at *) <;> omega)
  refine Z.loopK tabOk (fun zq : Nat × Nat => [(9, .val (.int .i64 (zq.1 : Int))), (10, .val (.int .i64 (zq.2 : Int)))]) (fun zq : Nat × Nat => ([(0, some (Z.Ob.b ⟨[[.v (.int .i64 s), .v (.int .i64 k), .v (.int .i64 v)]], 3, 39, true⟩))] : Z.Kr)) (fun zq => zq.1 ≤ zq.2 ∧ zq.2 ≤ l.length ∧ (∀ (n : Nat) (x : Kc), n < zq.1 → l[n]? = some x → kLt x.src x.key s k) ∧ (∀ (n : Nat) (x : Kc), zq.2 ≤ n → l[n]? = some x → ¬ kLt x.src x.key s k)) (fun zq => zq.2 - zq.1) (0, (l.map eK).length) 1 [(0, _), (2, _), (4, _), (8, _)] ⟨rfl, rfl, rfl, rfl, trivial⟩ [] trivial ?_ ?_ rfl rfl ⟨Nat.zero_le _, by (try dsimp only); rw [List.length_map]; exact Nat.le_refl _, fun n x h => absurd h (Nat.not_lt_zero _), fun n x h hx => absurd (List.getElem?_eq_some_iff.1 hx).1 (by (try dsimp only at h); rw [List.length_map] at h; omega)⟩ ?_
  · repeat' (first | exact trivial | apply And.intro | exact ⟨_, rfl, Z.Imp.refl _⟩)
  · repeat' (first | exact trivial | exact (fun b hb => ⟨b, hb, Z.ImpO.refl b⟩) | apply And.intro)
  rintro ⟨i, j⟩ HINV
  (try dsimp only at HINV); (try dsimp only)
  obtain ⟨HI1, HI2, HI3, HI4⟩ := HINV
  by_cases hij : i < j
  · obtain ⟨x, hx⟩ := getElem?_some' (xs := l) (i := (i + j) / 2) (by omega)
    have cc := compare_con x.src x.key 0 s k v
    have hcl := @cmp_lt x.src x.key s k
    generalize cmpR x.src x.key s k = C at *
    by_cases hlt : kLt x.src x.key s k
    · rw [decide_eq_true hlt] at hcl
      have hC : ¬ 0 ≤ C := of_decide_eq_false (by simpa using hcl)
      repeat' ((conv => whnf); first
        | (with_reducible refine spB_dec ?_ ?_ <;> intro _ <;> (try (exfalso; first | contradiction | omega | (rename_i hz; refine hz ?_; simp; done) | (rename_i hz; simp at hz; done) | (simp only [LN] at *; omega))))
        | ((with_reducible refine vN_to (((i + j) / 2 : Nat) : Int) ?_ ?_); (focus (rw [show (2 : Int) ^ min (Int.toNat 1) IntKind.u64.bits = 2 by decide, Int.fdiv_eq_ediv_of_nonneg _ (by decide)]; omega)))
        | with_reducible first | refine Z.rowN_known hx ?_
        | ((with_reducible refine ixN_mk ((i + j) / 2) ?_ ?_ ?_); (focus (first | rfl)); (focus ((try simp only [LN] at *) <;> omega)))
        | ((with_reducible refine eqN_mk2 ?_ ?_); (focus rfl))
        | with_reducible refine wr_i64 (by first | omega | (simp only [LN] at *; omega)) ?_
        | with_reducible refine wr_u64 (by omega) ?_
        | with_reducible first | refine Z.callZ_in tabOk 9 Try.f98 _ Try.func98 (by kernel_rfl) rfl rfl rfl ?_ | refine Z.callZ_in tabOk 8 Try.f49 _ Try.func49 (by kernel_rfl) rfl rfl rfl ?_
        | ((first | (with_reducible refine Z.conZ_mz ?_ (cc) ?_)); (focus ((repeat' (first | exact trivial | exact rfl | apply And.intro)); done)))
        | ((with_reducible apply ex_and); exact rfl)
        | with_reducible first | refine Z.drawZ_rule tabOk mixOk ?_ | refine Z.apZ_mk (by kernel_rfl) ?_
        | ((with_reducible refine Z.ConZ.red ?_); (try subst hlb); (apply Z.conZ_all); (focus (repeat (first | exact Z.FK.nil | (apply Z.FK.keep; exact rfl)))); (focus rfl); (focus rfl); (focus (repeat (first | exact trivial | (refine ⟨(fun o ho => (by first | (cases ho; rfl) | (cases ho; exact Z.inL_map fun _ => rfl) | (cases ho; exact Z.inL_mapr fun _ => rfl) | exact Z.inL_gB ho fun _ => rfl)), ?_⟩)))))
        | ((refine ⟨rfl, ?_, rfl⟩); (focus (repeat (first | exact Z.DK.nil | apply Z.DK.cons))))
        | fail)
      all_goals (try (conv => whnf))
      all_goals try (show Nat.ble _ _ = true; rfl)
      all_goals try (exfalso; rename_i hz; cases hz; done)
      all_goals try (exfalso; (try simp only [LN] at *) <;> omega)
      all_goals first
        | ((refine Z.rndK (((i + j) / 2 + 1, j)) (fun s => [0]) rfl rfl rfl rfl ?_ ?_ ?_ ?_); (focus (repeat' (first | exact trivial | exact rfl | apply And.intro))); (focus (repeat' (first | exact trivial | (intro b hb; cases hb; rfl) | apply And.intro))); (focus (exact ⟨by (try dsimp only); omega, HI2, srch_lo hw hx hlt, HI4⟩)); ((try dsimp only); omega))
        | fail
    · rw [decide_eq_false hlt] at hcl
      have hC : 0 ≤ C := of_decide_eq_true (by simpa using hcl)
      repeat' ((conv => whnf); first
        | (with_reducible refine spB_dec ?_ ?_ <;> intro _ <;> (try (exfalso; first | contradiction | omega | (rename_i hz; refine hz ?_; simp; done) | (rename_i hz; simp at hz; done) | (simp only [LN] at *; omega))))
        | ((with_reducible refine vN_to (((i + j) / 2 : Nat) : Int) ?_ ?_); (focus (rw [show (2 : Int) ^ min (Int.toNat 1) IntKind.u64.bits = 2 by decide, Int.fdiv_eq_ediv_of_nonneg _ (by decide)]; omega)))
        | with_reducible first | refine Z.rowN_known hx ?_
        | ((with_reducible refine ixN_mk ((i + j) / 2) ?_ ?_ ?_); (focus (first | rfl)); (focus ((try simp only [LN] at *) <;> omega)))
        | ((with_reducible refine eqN_mk2 ?_ ?_); (focus rfl))
        | with_reducible refine wr_i64 (by first | omega | (simp only [LN] at *; omega)) ?_
        | with_reducible refine wr_u64 (by omega) ?_
        | with_reducible first | refine Z.callZ_in tabOk 9 Try.f98 _ Try.func98 (by kernel_rfl) rfl rfl rfl ?_ | refine Z.callZ_in tabOk 8 Try.f49 _ Try.func49 (by kernel_rfl) rfl rfl rfl ?_
        | ((first | (with_reducible refine Z.conZ_mz ?_ (cc) ?_)); (focus ((repeat' (first | exact trivial | exact rfl | apply And.intro)); done)))
        | ((with_reducible apply ex_and); exact rfl)
        | with_reducible first | refine Z.drawZ_rule tabOk mixOk ?_ | refine Z.apZ_mk (by kernel_rfl) ?_
        | ((with_reducible refine Z.ConZ.red ?_); (try subst hlb); (apply Z.conZ_all); (focus (repeat (first | exact Z.FK.nil | (apply Z.FK.keep; exact rfl)))); (focus rfl); (focus rfl); (focus (repeat (first | exact trivial | (refine ⟨(fun o ho => (by first | (cases ho; rfl) | (cases ho; exact Z.inL_map fun _ => rfl) | (cases ho; exact Z.inL_mapr fun _ => rfl) | exact Z.inL_gB ho fun _ => rfl)), ?_⟩)))))
        | ((refine ⟨rfl, ?_, rfl⟩); (focus (repeat (first | exact Z.DK.nil | apply Z.DK.cons))))
        | fail)
      all_goals (try (conv => whnf))
      all_goals try (show Nat.ble _ _ = true; rfl)
      all_goals try (exfalso; rename_i hz; cases hz; done)
      all_goals try (exfalso; (try simp only [LN] at *) <;> omega)
      all_goals first
        | ((refine Z.rndK ((i, (i + j) / 2)) (fun s => [0]) rfl rfl rfl rfl ?_ ?_ ?_ ?_); (focus (repeat' (first | exact trivial | exact rfl | apply And.intro))); (focus (repeat' (first | exact trivial | (intro b hb; cases hb; rfl) | apply And.intro))); (focus (exact ⟨by (try dsimp only); omega, by (try dsimp only); omega, HI3, srch_hi hw hx hlt⟩)); ((try dsimp only); omega))
        | fail
  have hji : j = i := by omega
  subst hji
  have hp : posR l s k = j := pos_eq HI2 HI3 HI4
  unfold thereR
  rw [hp]
  cases hx : l[j]? with
  | none =>
    have hjl : l.length ≤ j := List.getElem?_eq_none_iff.1 hx
    repeat' ((conv => whnf); first
      | with_reducible first | refine spB_no (by decide) ?_
      | (with_reducible refine spB_dec ?_ ?_ <;> intro _ <;> (try (exfalso; first | contradiction | omega | (rename_i hz; refine hz ?_; simp; done) | (rename_i hz; simp at hz; done) | (simp only [LN] at *; omega))))
      | with_reducible first | refine Z.drawZ_rule tabOk mixOk ?_ | refine Z.apZ_mk (by kernel_rfl) ?_
      | fail)
    all_goals (try (conv => whnf))
    all_goals try (show Nat.ble _ _ = true; rfl)
    all_goals try (exfalso; rename_i hz; cases hz; done)
    all_goals try (exfalso; (try simp only [LN] at *) <;> omega)
    all_goals first
      | ((first | (with_reducible apply Z.retF2)); (focus (exact rfl)); (repeat' (first | exact trivial | (with_reducible apply Z.frz_one) | (with_reducible apply Z.fq_int) | (with_reducible apply Z.fq_bool) | exact rfl | apply And.intro)); (all_goals (try exact (fun _ => none))); all_goals (first | (simp; done)))
      | fail
  | some x =>
    have hjl := (List.getElem?_eq_some_iff.1 hx).1
    have cc := compare_con x.src x.key 0 s k v
    have hce := cmp_eq x.src x.key s k
    generalize cmpR x.src x.key s k = C at *
    dsimp only
    rw [← hce]
    repeat' ((conv => whnf); first
      | with_reducible first | refine spB_t ?_
      | (with_reducible refine spB_dec ?_ ?_ <;> intro _ <;> (try (exfalso; first | contradiction | omega | (rename_i hz; refine hz ?_; simp; done) | (rename_i hz; simp at hz; done) | (simp only [LN] at *; omega))))
      | with_reducible first | refine Z.rowN_known hx ?_
      | ((with_reducible refine ixN_mk (j) ?_ ?_ ?_); (focus (first | rfl)); (focus ((try simp only [LN] at *) <;> omega)))
      | with_reducible first | refine Z.callZ_in tabOk 9 Try.f98 _ Try.func98 (by kernel_rfl) rfl rfl rfl ?_ | refine Z.callZ_in tabOk 8 Try.f49 _ Try.func49 (by kernel_rfl) rfl rfl rfl ?_
      | ((first | (with_reducible refine Z.conZ_mz ?_ (cc) ?_)); (focus ((repeat' (first | exact trivial | exact rfl | apply And.intro)); done)))
      | ((with_reducible apply ex_and); exact rfl)
      | with_reducible first | refine Z.drawZ_rule tabOk mixOk ?_ | refine Z.apZ_mk (by kernel_rfl) ?_
      | ((with_reducible refine Z.ConZ.red ?_); (try subst hlb); (apply Z.conZ_all); (focus (repeat (first | exact Z.FK.nil | (apply Z.FK.keep; exact rfl)))); (focus rfl); (focus rfl); (focus (repeat (first | exact trivial | (refine ⟨(fun o ho => (by first | (cases ho; rfl) | (cases ho; exact Z.inL_map fun _ => rfl) | (cases ho; exact Z.inL_mapr fun _ => rfl) | exact Z.inL_gB ho fun _ => rfl)), ?_⟩)))))
      | ((refine ⟨rfl, ?_, rfl⟩); (focus (repeat (first | exact Z.DK.nil | apply Z.DK.cons))))
      | fail)
    all_goals (try (conv => whnf))
    all_goals try (show Nat.ble _ _ = true; rfl)
    all_goals try (exfalso; rename_i hz; cases hz; done)
    all_goals try (exfalso; (try simp only [LN] at *) <;> omega)
    all_goals first
      | ((first | (with_reducible apply Z.retF2)); (focus (exact rfl)); (repeat' (first | exact trivial | (with_reducible apply Z.frz_one) | (with_reducible apply Z.fq_int) | (with_reducible apply Z.fq_bool) | exact rfl | apply And.intro)); (all_goals (try exact (fun _ => none))); all_goals (first | (simp_all; done)))
      | fail
end Go.Proofs.Ytehhmkdghgabaaa
namespace Go.Proofs.Ytehhmkdghgabaaa
open Go Go.RowKit Wx
set_option linter.unusedVariables false
set_option linter.unusedSimpArgs false
set_option maxHeartbeats 4000000
theorem find_con (l : List Kc) (s k v : Int) (hl : l.length ≤ 1000) (ht : tabR l = true) : Con Try.prog 59 [.agg [.ro false 4 (l.map eK)], .agg [.v (.int .i64 s), .v (.int .i64 k), .v (.int .i64 v)]] (fun rx rK rt => rx = .tup [.one (.v (.int .i64 (posR l s k : Nat))), .one (.v (.bool (thereR l s k)))] ∧ rK = [] ∧ rt = 0) := by
  refine Z.con_ofF tabOk 12 Try.f59 _ Try.func59 (by kernel_rfl) rfl rfl rfl rfl ?_
  have cb := search_con l s k v hl ht
  repeat' ((conv => whnf); first
    | ((first | (with_reducible refine Z.callZ_mk ?_ (cb) ?_)); (focus ((repeat' (first | exact trivial | exact rfl | apply And.intro)); done))))
  all_goals (try (conv => whnf))
  all_goals try (show Nat.ble _ _ = true; rfl)
  all_goals first
    | ((first | (with_reducible apply Z.retF2)); (focus (exact rfl)); (repeat' (first | exact trivial | exact rfl | apply And.intro)); (all_goals (try exact (fun _ => none))); all_goals (rfl))
end Go.Proofs.Ytehhmkdghgabaaa
namespace Go.Proofs.Ytehhmkdghgabaaa
open Go Go.RowKit Wx
set_option linter.unusedVariables false
set_option linter.unusedSimpArgs false
set_option maxHeartbeats 4000000
theorem get_pos {l : List Kc} {s k : Int} (h : tabR l = true) : getR l s k = if thereR l s k = true then (match l[posR l s k]? with | some x => (x.cnt, x.sum) | none => (0, 0)) else (0, 0) := by
  have hw := (tab_iff.1 h).2
  obtain ⟨h1, h2⟩ := eq_at (s := s) (k := k) hw
  unfold getR
  rw [← List.head?_filter]
  by_cases hl : (l.filter (eqK s k)).length = 1
  · obtain ⟨x, hx, he⟩ := h2.1 hl
    have ht : thereR l s k = true := by unfold thereR; rw [hx]; simp [he.1, he.2]
    rw [if_pos ht, hx]
    have hm : x ∈ l.filter (eqK s k) := List.mem_filter.2 ⟨List.mem_of_getElem? hx, decide_eq_true he⟩
    cases hf : l.filter (eqK s k) with
    | nil => rw [hf] at hm; cases hm
    | cons y r =>
      rw [hf] at hl hm
      have hr : r = [] := by simpa using hl
      subst hr
      rw [List.mem_singleton.1 hm]
      rfl
  · have h0 : l.filter (eqK s k) = [] := List.length_eq_zero_iff.1 (by omega)
    have ht : thereR l s k = false := by
      cases ht : thereR l s k with
      | false => rfl
      | true =>
        exfalso
        unfold thereR at ht
        cases hx : l[posR l s k]? with
        | none => rw [hx] at ht; cases ht
        | some x => rw [hx] at ht; exact hl (h2.2 ⟨x, hx, by simpa using ht⟩)
    rw [h0, ht]
    rfl
end Go.Proofs.Ytehhmkdghgabaaa
namespace Go.Proofs.Ytehhmkdghgabaaa
open Go Go.RowKit Wx
set_option linter.unusedVariables false
set_option linter.unusedSimpArgs false
set_option maxHeartbeats 4000000
end Go.Proofs.Ytehhmkdghgabaaa
namespace Go.Proofs.Ytehhmkdghgabaaa
open Go Go.RowKit Wx
set_option linter.unusedVariables false
set_option linter.unusedSimpArgs false
set_option maxHeartbeats 4000000
theorem cK_one (x : Kc) : ∀ c ∈ cK x, c.single = true := fun c hc => by
  simp only [List.mem_cons, List.not_mem_nil, or_false] at hc
  rcases hc with rfl | rfl | rfl | rfl <;> rfl
theorem there_no {l : List Kc} {s k : Int} (h : thereR l s k = false) : ∀ x, l[posR l s k]? = some x → ¬ (x.src = s ∧ x.key = k) := fun x hx he => by
  unfold thereR at h
  rw [hx] at h
  simp [he.1, he.2] at h
theorem there_at {l : List Kc} {s k : Int} (h : thereR l s k = true) : ∃ x, l[posR l s k]? = some x ∧ x.src = s ∧ x.key = k := by
  unfold thereR at h
  cases hx : l[posR l s k]? with
  | none => rw [hx] at h; cases h
  | some x => rw [hx] at h; exact ⟨x, rfl, by simpa using h⟩
theorem put_same {l : List Kc} {s k : Int} (ht : tabR l = true) (hth : thereR l s k = false) : putR l s k (0, 0) = l := by
  rw [put_no ht (there_no hth)]; simp [ownK]
theorem put_del {l : List Kc} {s k : Int} (ht : tabR l = true) (hth : thereR l s k = true) : putR l s k (0, 0) = l.eraseIdx (posR l s k) := by
  obtain ⟨x, hx, he⟩ := there_at hth
  rw [put_at ht hx he, List.eraseIdx_eq_take_drop_succ]; simp [ownK]
theorem put_new {l : List Kc} {s k : Int} {c : Int × Int} (ht : tabR l = true) (hth : thereR l s k = false) (hc : 0 < c.1) : putR l s k c = l.take (posR l s k) ++ ⟨s, k, c.1, c.2⟩ :: l.drop (posR l s k) := by
  rw [put_no ht (there_no hth)]
  unfold ownK
  rw [if_neg (fun e => by rw [e] at hc; exact absurd hc (by decide))]; simp
theorem put_upd {l : List Kc} {s k : Int} {c : Int × Int} (ht : tabR l = true) (hth : thereR l s k = true) (hc : 0 < c.1) : putR l s k c = (l.eraseIdx (posR l s k)).take (posR l s k) ++ ⟨s, k, c.1, c.2⟩ :: (l.eraseIdx (posR l s k)).drop (posR l s k) := by
  obtain ⟨x, hx, he⟩ := there_at hth
  rw [put_at ht hx he]
  unfold ownK
  rw [if_neg (fun e => by rw [e] at hc; exact absurd hc (by decide))]
  have hl := (List.getElem?_eq_some_iff.1 hx).1
  generalize posR l s k = p at *
  rw [List.eraseIdx_eq_take_drop_succ, List.take_left' (by simp; omega), List.drop_left' (by simp; omega)]; simp
theorem clonek_x (x : Kc) (l : List Kc) (hl : l.length ≤ 1000) : Con Try.prog 67 [.one (.ro false 4 ((x :: l).map eK))] (fun rx rK rt => rx = .c (.osl 0 0 (x :: l).length none) ∧ rK = [(0, some ⟨(x :: l).map cK, 4, 74, false⟩)] ∧ rt = 1) := by
  refine con_of tabOk 8 Try.f67 _ Try.func67 (by kernel_rfl) rfl rfl rfl rfl (fun W => ?_)
  repeat' ((conv => whnf); first
    | with_reducible first | refine spB_no (by decide) ?_
    | ((with_reducible refine apdE_n ?_); (with_reducible refine apdN.mk ?_ ?_ ?_ ?_ ?_ ?_); (focus (simp; done)); (focus (exact one_map2 fun _ => rfl)); (focus ((try simp only [LN] at *) <;> omega)); (focus ((try simp only [LN] at *) <;> omega)); (focus ((try simp only [LN] at *) <;> omega))))
  all_goals (try (conv => whnf))
  refine ret1b 1 (.c (.osl 0 0 (x :: l).length none)) ((x :: l).map cK) 4 74 false _ rfl ?_ rfl ?_ (ren_map fun _ => rfl) rfl (own_map fun _ => rfl) ⟨rfl, rfl, rfl⟩
  · rw [show (x :: l).length = 0 + (List.map eK (x :: l)).length by simp]; rfl
  · rw [show List.map cK (x :: l) = List.map (List.map (RT.ce false)) (List.map eK (x :: l)) by rw [List.map_map]; rfl]; rfl
theorem clonek_con (l : List Kc) (hl : l.length ≤ 1000) (hne : l ≠ []) : Con Try.prog 67 [.one (.ro false 4 (l.map eK))] (fun rx rK rt => rx = .c (.osl 0 0 l.length none) ∧ rK = [(0, some ⟨l.map cK, 4, 74, false⟩)] ∧ rt = 1) := by
  cases l with
  | nil => exact absurd rfl hne
  | cons x l => exact clonek_x x l (by simp only [List.length_cons] at hl; omega)
theorem clonek_0   : Con Try.prog 67 [.one (.v (.slice none 0 0))] (fun rx rK rt => rx = .val (.slice none 0 0) ∧ rK = [] ∧ rt = 0) := by
  refine con_of tabOk 8 Try.f67 _ Try.func67 (by kernel_rfl) rfl rfl rfl rfl (fun W => ?_)
  repeat' ((conv => whnf); first
    | with_reducible first | refine spB_t ?_)
  all_goals (try (conv => whnf))
  refine ret1 [.one (.v (.slice none 0 0))] rfl [] (.val (.slice none 0 0)) [] rfl trivial List.nodup_nil rfl ?_ (fun p hp => nomatch hp) ⟨rfl, rfl, rfl⟩
  intro p b hp; cases hp
theorem clonek_1 (ad : Addr) (cap : Nat)  : Con Try.prog 67 [.one (.v (.slice (some ad) 0 cap))] (fun rx rK rt => rx = .c (.osl 0 0 0 (some 0)) ∧ rK = [(0, some ⟨[], 4, 74, false⟩)] ∧ rt = 1) := by
  refine con_of tabOk 8 Try.f67 _ Try.func67 (by kernel_rfl) rfl rfl rfl rfl (fun W => ?_)
  repeat' ((conv => whnf); first
    | with_reducible first | refine spB_no (by decide) ?_
    | ((with_reducible refine apdE_r ?_); (with_reducible refine aprN.mk ⟨_, rfl, ?_⟩ ?_ ?_ ?_ ?_); (focus ((try simp only [LN] at *) <;> omega)); (focus (first | rfl)); (focus (first | exact one_all (by rfl))); (focus ((try simp only [LN] at *) <;> omega))))
  all_goals (try (conv => whnf))
  refine ret1b 0 (.c (.osl 0 0 0 (some 0))) [] 4 74 false _ rfl ?_ rfl ?_ rfl rfl (fun r hr => nomatch hr) ⟨rfl, rfl, rfl⟩
  all_goals rfl
end Go.Proofs.Ytehhmkdghgabaaa
namespace Go.Proofs.Ytehhmkdghgabaaa
open Go Go.RowKit Wx
set_option linter.unusedVariables false
set_option linter.unusedSimpArgs false
set_option maxHeartbeats 4000000
namespace Ops
def modE (x n : Int) : Int := if n < 1 then 0 else if x.tmod n < 0 then IntKind.i64.wrap (x.tmod n + n) else x.tmod n
abbrev eI (z : Int) : List RT := [RT.v (.int .i64 z)]
abbrev cI (z : Int) : List Ce := [Ce.v (.int .i64 z)]
def stp (t a b : Int) (c : Int × Int) (v : Int) : (Int × Int) × List Int :=
  if t = 2 then (c, [IntKind.i64.wrap (IntKind.i64.wrap (v * a) + b)])
  else if t = 3 then (c, if modE v a = b then [v] else [])
  else if t = 4 then ((c.1 + 1, IntKind.i64.wrap (c.2 + v)), [IntKind.i64.wrap (c.2 + v)])
  else if t = 5 then (if c.1 + 1 < a then ((c.1 + 1, IntKind.i64.wrap (c.2 + v)), []) else ((0, 0), [IntKind.i64.wrap (c.2 + v)]))
  else (c, [v])
def fs (t a b : Int) (c : Int × Int) (l : List Int) : (Int × Int) × List Int := l.foldl (fun s v => ((stp t a b s.1 v).1, s.2 ++ (stp t a b s.1 v).2)) (c, [])
theorem fs_snoc {t a b : Int} {c : Int × Int} {l : List Int} {v : Int} : fs t a b c (l ++ [v]) = ((stp t a b (fs t a b c l).1 v).1, (fs t a b c l).2 ++ (stp t a b (fs t a b c l).1 v).2) := by
  simp only [fs, List.foldl_append, List.foldl_cons, List.foldl_nil]
theorem fs_step {t a b : Int} {c : Int × Int} {l : List Int} {i : Nat} {v : Int} (h : l[i]? = some v) : fs t a b c (l.take (i + 1)) = ((stp t a b (fs t a b c (l.take i)).1 v).1, (fs t a b c (l.take i)).2 ++ (stp t a b (fs t a b c (l.take i)).1 v).2) := by
  have hlt := (List.getElem?_eq_some_iff.1 h).1
  have hv := (List.getElem?_eq_some_iff.1 h).2
  rw [show l.take (i + 1) = l.take i ++ [v] by rw [List.take_succ_eq_append_getElem hlt, hv], fs_snoc]
theorem fs_acc {t a b : Int} : ∀ (l : List Int) (c : Int × Int) (o : List Int), l.foldl (fun s v => ((stp t a b s.1 v).1, s.2 ++ (stp t a b s.1 v).2)) (c, o) = ((fs t a b c l).1, o ++ (fs t a b c l).2)
  | [], c, o => by simp [fs]
  | v :: l, c, o => by
    simp only [fs, List.foldl_cons, List.nil_append]
    rw [fs_acc l, fs_acc l _ (stp t a b c v).2]
    simp [List.append_assoc]
theorem fs_cons {t a b : Int} {c : Int × Int} {v : Int} {l : List Int} : fs t a b c (v :: l) = ((fs t a b (stp t a b c v).1 l).1, (stp t a b c v).2 ++ (fs t a b (stp t a b c v).1 l).2) := by
  have := fs_acc (t := t) (a := a) (b := b) l (stp t a b c v).1 (stp t a b c v).2
  simp only [fs, List.foldl_cons, List.nil_append]
  exact this
def fitP (t a : Int) (c : Int × Int) : Prop := if t = 4 ∨ t = 5 then (c.1 = 0 ∧ c.2 = 0) ∨ (0 < c.1 ∧ (t = 4 ∨ c.1 < a)) else c.1 = 0 ∧ c.2 = 0
instance (t a : Int) (c : Int × Int) : Decidable (fitP t a c) := by unfold fitP; infer_instance
def ris (lim : Int) : Int → List Int → Bool
  | _, [] => true
  | last, x :: r => decide (last < x ∧ x < lim) && ris lim x r
def tagP (t n a b : Int) : Prop := (t = 1 ∧ n = 0 ∧ (0 ≤ a ∧ a < 4) ∧ b = 0) ∨ (t = 2 ∧ n = 1) ∨ (t = 3 ∧ n = 1 ∧ 0 < a ∧ 0 ≤ b ∧ b < a) ∨ ((t = 4 ∨ t = 7) ∧ n = 1 ∧ a = 0 ∧ b = 0) ∨ (t = 5 ∧ n = 1 ∧ (1 ≤ a ∧ a ≤ 8) ∧ b = 0) ∨ (t = 6 ∧ 2 ≤ n ∧ a = 0 ∧ b = 0)
instance (t n a b : Int) : Decidable (tagP t n a b) := by unfold tagP; infer_instance
def okO (t w : Int) (ins : List Int) (a b : Int) : Bool := decide (1 ≤ w ∧ w ≤ 3) && ris 8 (-1) ins && decide (tagP t ins.length a b)
theorem fit_stp {t a b : Int} {c : Int × Int} {v : Int} {n : Int} (ht : tagP t n a b) (h : fitP t a c) : fitP t a (stp t a b c v).1 := by
  unfold tagP at ht
  unfold fitP at h ⊢
  unfold stp
  by_cases h2 : t = 2
  · subst h2; simpa using h
  by_cases h3 : t = 3
  · subst h3; simpa using h
  by_cases h4 : t = 4
  · subst h4; simp at h ⊢; omega
  by_cases h5 : t = 5
  · subst h5
    simp only [h2, h3, h4, if_false, if_true, or_true] at h ⊢
    split
    · simp only; right; omega
    · simp
  · simp only [h2, h3, h4, h5, if_false, or_self] at h ⊢; exact h
theorem fit_low {t a b n : Int} (ht : tagP t n a b) {c : Int × Int} (h : fitP t a c) : 0 ≤ c.1 ∧ (t ≠ 4 → c.1 < 9) := by
  unfold tagP at ht; unfold fitP at h
  split at h
  · omega
  · omega
theorem out_len {t a b : Int} {c : Int × Int} {v : Int} : (stp t a b c v).2.length ≤ 1 := by
  unfold stp; repeat' split
  all_goals simp
theorem fs_len {t a b : Int} : ∀ (l : List Int) {c : Int × Int}, (fs t a b c l).2.length ≤ l.length
  | [], _ => by simp [fs]
  | v :: l, c => by
    rw [fs_cons]; simp only [List.length_append, List.length_cons]
    have h1 := out_len (t := t) (a := a) (b := b) (c := c) (v := v)
    have h2 := fs_len (t := t) (a := a) (b := b) l (c := (stp t a b c v).1)
    omega
end Ops
end Go.Proofs.Ytehhmkdghgabaaa
namespace Go.Proofs.Ytehhmkdghgabaaa
open Go Go.RowKit Wx
set_option linter.unusedVariables false
set_option linter.unusedSimpArgs false
set_option maxHeartbeats 4000000
namespace Ops
theorem mod_con (x n : Int)  : Con Try.prog 143 [.one (.v (.int .i64 x)), .one (.v (.int .i64 n))] (fun rx rK rt => rx = .val (.int .i64 (modE x n)) ∧ rK = [] ∧ rt = 0) := by
  refine con_of tabOk 17 Try.f143 _ Try.func143 (by kernel_rfl) rfl rfl rfl rfl (fun W => ?_)
  repeat' ((conv => whnf); first
    | (with_reducible refine spB_dec ?_ ?_ <;> intro _ <;> (try (exfalso; first | contradiction | omega | (rename_i hz; with_reducible exact absurd rfl hz))))
    | with_reducible first | refine wr_mk _ rfl ?_
    | with_reducible first | refine vN_mk ?_
    | with_reducible refine nzN_mk (by omega) ?_)
  all_goals (try (conv => whnf))
  all_goals refine ret0 _ rfl _ rfl (fun _ => rfl) rfl ⟨?_, rfl, rfl⟩
  all_goals (refine rv_int ?_; unfold modE; first | rw [if_pos (by omega)] | rw [if_neg (by omega), if_pos (by assumption)] | rw [if_neg (by omega), if_neg (by assumption)])
end Ops
end Go.Proofs.Ytehhmkdghgabaaa
namespace Go.Proofs.Ytehhmkdghgabaaa
open Go Go.RowKit Wx
set_option linter.unusedVariables false
set_option linter.unusedSimpArgs false
set_option maxHeartbeats 4000000
namespace Ops
theorem stp5y {a b c s x : Int} (h : c + 1 < a) : stp 5 a b (c, s) x = ((c + 1, IntKind.i64.wrap (s + x)), []) := by simp [stp, h]
theorem stp5n {a b c s x : Int} (h : ¬ c + 1 < a) : stp 5 a b (c, s) x = ((0, 0), [IntKind.i64.wrap (s + x)]) := by simp [stp, h]
theorem stp3y {a b c s x : Int} (h : modE x a = b) : stp 3 a b (c, s) x = ((c, s), [x]) := by simp [stp, h]
theorem stp3n {a b c s x : Int} (h : ¬ modE x a = b) : stp 3 a b (c, s) x = ((c, s), []) := by simp [stp, h]
theorem no_step {t a b c1 s1 : Int} {c : Int × Int} {l acc : List Int} {i : Nat} (hno : ∀ j, j < i → (fs t a b c (l.take j)).1.1 ≠ 9223372036854775807) (hq : ((c1, s1), acc) = fs t a b c (l.take i)) (hc : c1 ≠ 9223372036854775807) : ∀ j, j < i + 1 → (fs t a b c (l.take j)).1.1 ≠ 9223372036854775807 := fun j hj => by
  rcases Nat.lt_or_ge j i with h | h
  · exact hno j h
  · have : j = i := by omega
    subst this; rw [← hq]; exact hc
theorem run1_con (w : Int) (ins : List Int) (a b c s : Int) (l : List Int) (hc : 0 ≤ c ∧ c ≤ 9223372036854775807) (hl : l.length ≤ 40) : Con Try.prog 89 [.agg [.v (.int .i64 1), .v (.int .i64 w), .ro false 1 (ins.map eI), .v (.int .i64 a), .v (.int .i64 b)], .agg [.v (.int .i64 c), .v (.int .i64 s)], .one (.ro false 1 (l.map eI))] (fun rx rK rt => ((∃ j, j < l.length ∧ (fs 1 a b (c, s) (l.take j)).1.1 = 9223372036854775807) ∧ rx = .tup [.agg [.v (.int .i64 0), .v (.int .i64 0)], .one (.v (.slice none 0 0)), .one (.v (.int .i64 6))] ∧ rK = [] ∧ rt = 0) ∨ ((∀ j, j < l.length → (fs 1 a b (c, s) (l.take j)).1.1 ≠ 9223372036854775807) ∧ rx = .tup [.agg [.v (.int .i64 (fs 1 a b (c, s) (l)).1.1), .v (.int .i64 (fs 1 a b (c, s) (l)).1.2)], .one (.ro true 1 ((fs 1 a b (c, s) (l)).2.map eI)), .one (.v (.int .i64 0))] ∧ rK = [] ∧ rt = 0)) := by
  refine Z.con_ofZ tabOk 32 Try.f89 _ Try.func89 (by kernel_rfl) rfl rfl rfl rfl ?_
  repeat' ((conv => whnf); first
    | ((with_reducible apply ixN_lit); (focus (exact rfl)); (focus (exact rfl)))
    | (with_reducible refine Z.callZ_in tabOk 11 Try.f114 _ Try.func114 (by kernel_rfl) rfl rfl rfl ?_)
    | (with_reducible refine Z.callZ_in tabOk 18 Try.f131 _ Try.func131 (by kernel_rfl) rfl rfl rfl ?_)
    | (with_reducible refine Z.callZ_in tabOk 32 Try.f132 _ Try.func132 (by kernel_rfl) rfl rfl rfl ?_)
    | ((with_reducible apply ex_and); exact rfl)
    | ((with_reducible refine Z.RangeZ.red ?_); (refine Z.range_rule [(2, _), (4, _), (6, _), (9, _), (10, _)] rfl ⟨rfl, rfl, rfl, rfl, rfl, trivial⟩ rfl rfl ?_); intro lb hlb))
  all_goals (try (conv => whnf))
  refine Z.loopZ_rule tabOk (fun q : Nat × Int × Int × List Int => (⟨[(12, .val (.int .i64 (q.1 : Int))), (11, .val (.int .i64 ((l.map eI).length : Nat))), (10, .c (.ro false 1 (l.map eI))), (5, .c (.own 13 0 0)), (3, .c (.own 11 0 0)), (0, .c (.yl 12))], [(0, some (.b ⟨[[.v (.int .i64 1), .v (.int .i64 w), .ro false 1 (ins.map eI), .v (.int .i64 a), .v (.int .i64 b)]], 5, 25, true⟩)), (1, some (.b ⟨[[.v (.int .i64 q.2.1), .v (.int .i64 q.2.2.1)]], 2, 41, true⟩)), (2, some (.b ⟨[[.v (.int .i64 0), .v (.int .i64 0)]], 2, 41, true⟩)), (3, some (.b ⟨[[.gsl 14 (q.2.2.2.map cI)]], 1, 77, true⟩)), (4, some (.b ⟨[[.v (.int .i64 (q.1 : Int))]], 1, 3, true⟩)), (5, some (.b ⟨[[.v (.int .i64 1), .v (.int .i64 w), .ro false 1 (ins.map eI), .v (.int .i64 a), .v (.int .i64 b)]], 5, 25, true⟩)), (6, some (.b ⟨[[.v (.int .i64 c), .v (.int .i64 s)]], 2, 41, true⟩)), (7, some (.b ⟨[[.ro false 1 (l.map eI)]], 1, 77, true⟩)), (8, some (.b ⟨[[.v (.int .i64 1), .v (.int .i64 w), .ro false 1 (ins.map eI), .v (.int .i64 a), .v (.int .i64 b)]], 5, 25, true⟩)), (9, some (.b ⟨[[.fn 140 []]], 1, 166, true⟩)), (10, none), (11, some (.b ⟨[[.fn 139 []]], 1, 167, true⟩)), (12, some (.l lb)), (13, some (.b ⟨[[.v (.int .i64 q.2.1), .v (.int .i64 q.2.2.1)]], 2, 41, true⟩)), (14, (gB 1 2 (q.2.2.2.map cI)).map Z.Ob.b)], 15⟩ : Z.S)) (fun q => q.1 ≤ l.length ∧ ((q.2.1, q.2.2.1), q.2.2.2) = fs 1 a b (c, s) (l.take q.1) ∧ (0 ≤ q.2.1 ∧ q.2.1 ≤ 9223372036854775807) ∧ ∀ j, j < q.1 → (fs 1 a b (c, s) (l.take j)).1.1 ≠ 9223372036854775807) (fun q => l.length - q.1) (0, c, s, []) ⟨Nat.zero_le _, rfl, hc, fun j hj => absurd hj (Nat.not_lt_zero _)⟩ (Z.Stp.trans (Z.Stp.cells 3 _ [[.gsl 77 []]] rfl (Nat.le_of_ble_eq_true rfl) ⟨⟨Z.Imp.nilg 77, trivial⟩, trivial⟩) (Z.Wk.stp (l := [0, 1, 2, 3, 4, 5, 6, 7, 8, 9, 10, 11, 12, 13, 77]) ⟨rfl, by decide, rfl, (Nat.le_of_ble_eq_true rfl), ⟨rfl, rfl, rfl, rfl, rfl, rfl, trivial⟩, ⟨fun b hb => (by cases hb; rfl), fun b hb => (by cases hb; rfl), fun b hb => (by cases hb; rfl), fun b hb => (by cases hb; rfl), fun b hb => (by cases hb; rfl), fun b hb => (by cases hb; rfl), fun b hb => (by cases hb; rfl), fun b hb => (by cases hb; rfl), fun b hb => (by cases hb; rfl), fun b hb => (by cases hb; rfl), fun b hb => (by cases hb), fun b hb => (by cases hb; rfl), fun b hb => (by cases hb; (try subst hlb); rfl), fun b hb => (by cases hb; rfl), fun b hb => (by cases hb), trivial⟩⟩)) ?_
  rintro ⟨i, c1, s1, acc⟩ ⟨hi, hq, hb1, hno⟩
  dsimp only at hi hq hb1 hno ⊢
  have hal : acc.length ≤ 40 := by
    have := fs_len (t := 1) (a := a) (b := b) (l.take i) (c := (c, s))
    rw [← hq, List.length_take] at this; dsimp only at this; omega
  repeat' ((conv => whnf); first
    | ((with_reducible apply spB_cong); (focus (simp only [beq_self_eq_true, bne_self_eq_false, Bool.true_bne, Bool.false_bne, Bool.bne_true, Bool.bne_false, Bool.true_beq, Bool.false_beq, Bool.not_true, Bool.not_false, Bool.not_not, Int.reduceBEq, Int.reduceBNe, Int.reduceLE, Int.reduceLT, Int.reduceEq, decide_true, decide_false]; rfl)))
    | with_reducible first | refine spB_no (by decide) ?_
    | (with_reducible refine spB_dec ?_ ?_ <;> intro _ <;> (try (exfalso; first | contradiction | omega | (rename_i hz; with_reducible exact absurd rfl hz))))
    | (with_reducible refine spB_beq ?_ ?_ <;> intro _ <;> (try (exfalso; first | contradiction | omega | (rename_i hz; with_reducible exact absurd rfl hz))))
    | ((with_reducible refine posE_pos ?_ ?_); (focus ((try simp only [LN] at *) <;> omega)))
    | ((with_reducible apply ixN_litp); (focus (exact rfl)); (focus ((try simp only [LN] at *) <;> omega)))
    | ((with_reducible refine apdN.mk ?_ ?_ ?_ ?_ ?_ ?_); (focus (first | rfl)); (focus (first | exact one_all (by rfl))); (focus ((try simp only [LN] at *) <;> omega)); (focus ((try simp only [LN] at *) <;> omega)); (focus ((try simp only [LN] at *) <;> omega)))
    | with_reducible refine wr_i64 (by first | omega | (simp only [LN] at *; omega)) ?_
    | ((with_reducible refine rowN_map ?_ ?_); (focus ((try simp only [LN] at *) <;> omega)); intro x hx)
    | (with_reducible refine Z.callZ_in tabOk 9 Try.f139 _ Try.func139 (by kernel_rfl) rfl rfl rfl ?_)
    | ((with_reducible refine eqN_mk2 ?_ ?_); (focus (exact Z.kb_some rfl)))
    | ((with_reducible apply ex_and); exact rfl)
    | ((with_reducible refine Z.rngN.mk ?_); (try subst hlb))
    | ((with_reducible refine Z.CallZ.yl ?_); subst hlb; refine Z.yield_rule tabOk _ _ rfl rfl rfl rfl ?_)
    | with_reducible first | refine Z.drawZ_rule tabOk mixOk ?_ | refine Z.apZ_mk (by kernel_rfl) ?_)
  all_goals (try (conv => whnf))
  all_goals first
    | ((refine Z.rndK ((i + 1, c1, s1, acc ++ [x])) (fun s => [0, 1, 2, 3, 4, 5, 6, 7, 8, 9, 10, 11, 12, 13, s.idIn 3 0]) rfl rfl rfl rfl ?_ ?_ ?_ ?_); (focus (repeat' (first | exact trivial | exact rfl | apply And.intro))); (focus (repeat' (first | exact trivial | (intro b hb; cases hb; rfl) | (intro b hb; cases hb; rw [List.map_append]; rfl) | (intro b hb; cases hb; done) | exact Z.gB_sub' rfl (by first | rfl | (rw [List.map_append]; rfl) | simp only [List.map_append, List.map_cons, List.map_nil]) (ren_map fun _ => rfl) | apply And.intro))); (focus (refine ⟨by (try simp only [LN] at *); (try dsimp only); omega, ?_, ?_, ?_⟩; (focus (dsimp only; rw [fs_step hx, ← hq]; simp [stp])); (focus (dsimp only; omega)); exact no_step hno hq (by omega))); (try simp only [LN] at *); (try dsimp only); omega)
    | (refine ret0 _ rfl _ rfl (fun _ => rfl) rfl (.inl ⟨⟨i, by (try simp only [LN] at *) <;> omega, by rw [← hq]; (first | assumption)⟩, rfl, rfl, rfl⟩))
    | skip
  have hend : i = l.length := by (try simp only [LN] at *) <;> omega
  subst hend
  rw [List.take_length] at hq
  refine ret_stp (Stp.fzg 7 14 (acc.map cI) rfl 1 2 (by show Z.isB ((gB _ _ _).map Z.Ob.b) = _; exact Z.isB_map _) (acc.map eI) (by simp only [List.map_map]; rfl) (Nat.zero_le _)) ?_
  refine ret0 _ rfl _ rfl (fun _ => rfl) rfl (.inr ⟨hno, ?_, rfl, rfl⟩)
  rw [← hq]; rfl
theorem run2_con (w : Int) (ins : List Int) (a b c s : Int) (l : List Int) (hc : 0 ≤ c ∧ c ≤ 9223372036854775807) (hl : l.length ≤ 40) : Con Try.prog 89 [.agg [.v (.int .i64 2), .v (.int .i64 w), .ro false 1 (ins.map eI), .v (.int .i64 a), .v (.int .i64 b)], .agg [.v (.int .i64 c), .v (.int .i64 s)], .one (.ro false 1 (l.map eI))] (fun rx rK rt => ((∃ j, j < l.length ∧ (fs 2 a b (c, s) (l.take j)).1.1 = 9223372036854775807) ∧ rx = .tup [.agg [.v (.int .i64 0), .v (.int .i64 0)], .one (.v (.slice none 0 0)), .one (.v (.int .i64 6))] ∧ rK = [] ∧ rt = 0) ∨ ((∀ j, j < l.length → (fs 2 a b (c, s) (l.take j)).1.1 ≠ 9223372036854775807) ∧ rx = .tup [.agg [.v (.int .i64 (fs 2 a b (c, s) (l)).1.1), .v (.int .i64 (fs 2 a b (c, s) (l)).1.2)], .one (.ro true 1 ((fs 2 a b (c, s) (l)).2.map eI)), .one (.v (.int .i64 0))] ∧ rK = [] ∧ rt = 0)) := by
  refine Z.con_ofZ tabOk 32 Try.f89 _ Try.func89 (by kernel_rfl) rfl rfl rfl rfl ?_
  repeat' ((conv => whnf); first
    | ((with_reducible apply ixN_lit); (focus (exact rfl)); (focus (exact rfl)))
    | (with_reducible refine Z.callZ_in tabOk 11 Try.f114 _ Try.func114 (by kernel_rfl) rfl rfl rfl ?_)
    | (with_reducible refine Z.callZ_in tabOk 18 Try.f131 _ Try.func131 (by kernel_rfl) rfl rfl rfl ?_)
    | (with_reducible refine Z.callZ_in tabOk 32 Try.f132 _ Try.func132 (by kernel_rfl) rfl rfl rfl ?_)
    | ((with_reducible apply ex_and); exact rfl)
    | ((with_reducible refine Z.RangeZ.red ?_); (refine Z.range_rule [(2, _), (4, _), (6, _), (9, _), (10, _)] rfl ⟨rfl, rfl, rfl, rfl, rfl, trivial⟩ rfl rfl ?_); intro lb hlb))
  all_goals (try (conv => whnf))
  refine Z.loopZ_rule tabOk (fun q : Nat × Int × Int × List Int => (⟨[(12, .val (.int .i64 (q.1 : Int))), (11, .val (.int .i64 ((l.map eI).length : Nat))), (10, .c (.ro false 1 (l.map eI))), (5, .c (.own 13 0 0)), (3, .c (.own 11 0 0)), (0, .c (.yl 12))], [(0, some (.b ⟨[[.v (.int .i64 2), .v (.int .i64 w), .ro false 1 (ins.map eI), .v (.int .i64 a), .v (.int .i64 b)]], 5, 25, true⟩)), (1, some (.b ⟨[[.v (.int .i64 q.2.1), .v (.int .i64 q.2.2.1)]], 2, 41, true⟩)), (2, some (.b ⟨[[.v (.int .i64 0), .v (.int .i64 0)]], 2, 41, true⟩)), (3, some (.b ⟨[[.gsl 14 (q.2.2.2.map cI)]], 1, 77, true⟩)), (4, some (.b ⟨[[.v (.int .i64 (q.1 : Int))]], 1, 3, true⟩)), (5, some (.b ⟨[[.v (.int .i64 2), .v (.int .i64 w), .ro false 1 (ins.map eI), .v (.int .i64 a), .v (.int .i64 b)]], 5, 25, true⟩)), (6, some (.b ⟨[[.v (.int .i64 c), .v (.int .i64 s)]], 2, 41, true⟩)), (7, some (.b ⟨[[.ro false 1 (l.map eI)]], 1, 77, true⟩)), (8, some (.b ⟨[[.v (.int .i64 2), .v (.int .i64 w), .ro false 1 (ins.map eI), .v (.int .i64 a), .v (.int .i64 b)]], 5, 25, true⟩)), (9, some (.b ⟨[[.fn 140 []]], 1, 166, true⟩)), (10, none), (11, some (.b ⟨[[.fn 141 [.own 8 0 0]]], 1, 167, true⟩)), (12, some (.l lb)), (13, some (.b ⟨[[.v (.int .i64 q.2.1), .v (.int .i64 q.2.2.1)]], 2, 41, true⟩)), (14, (gB 1 2 (q.2.2.2.map cI)).map Z.Ob.b)], 15⟩ : Z.S)) (fun q => q.1 ≤ l.length ∧ ((q.2.1, q.2.2.1), q.2.2.2) = fs 2 a b (c, s) (l.take q.1) ∧ (0 ≤ q.2.1 ∧ q.2.1 ≤ 9223372036854775807) ∧ ∀ j, j < q.1 → (fs 2 a b (c, s) (l.take j)).1.1 ≠ 9223372036854775807) (fun q => l.length - q.1) (0, c, s, []) ⟨Nat.zero_le _, rfl, hc, fun j hj => absurd hj (Nat.not_lt_zero _)⟩ (Z.Stp.trans (Z.Stp.cells 3 _ [[.gsl 77 []]] rfl (Nat.le_of_ble_eq_true rfl) ⟨⟨Z.Imp.nilg 77, trivial⟩, trivial⟩) (Z.Wk.stp (l := [0, 1, 2, 3, 4, 5, 6, 7, 8, 9, 10, 11, 12, 13, 77]) ⟨rfl, by decide, rfl, (Nat.le_of_ble_eq_true rfl), ⟨rfl, rfl, rfl, rfl, rfl, rfl, trivial⟩, ⟨fun b hb => (by cases hb; rfl), fun b hb => (by cases hb; rfl), fun b hb => (by cases hb; rfl), fun b hb => (by cases hb; rfl), fun b hb => (by cases hb; rfl), fun b hb => (by cases hb; rfl), fun b hb => (by cases hb; rfl), fun b hb => (by cases hb; rfl), fun b hb => (by cases hb; rfl), fun b hb => (by cases hb; rfl), fun b hb => (by cases hb), fun b hb => (by cases hb; rfl), fun b hb => (by cases hb; (try subst hlb); rfl), fun b hb => (by cases hb; rfl), fun b hb => (by cases hb), trivial⟩⟩)) ?_
  rintro ⟨i, c1, s1, acc⟩ ⟨hi, hq, hb1, hno⟩
  dsimp only at hi hq hb1 hno ⊢
  have hal : acc.length ≤ 40 := by
    have := fs_len (t := 2) (a := a) (b := b) (l.take i) (c := (c, s))
    rw [← hq, List.length_take] at this; dsimp only at this; omega
  repeat' ((conv => whnf); first
    | ((with_reducible apply spB_cong); (focus (simp only [beq_self_eq_true, bne_self_eq_false, Bool.true_bne, Bool.false_bne, Bool.bne_true, Bool.bne_false, Bool.true_beq, Bool.false_beq, Bool.not_true, Bool.not_false, Bool.not_not, Int.reduceBEq, Int.reduceBNe, Int.reduceLE, Int.reduceLT, Int.reduceEq, decide_true, decide_false]; rfl)))
    | with_reducible first | refine spB_no (by decide) ?_
    | (with_reducible refine spB_dec ?_ ?_ <;> intro _ <;> (try (exfalso; first | contradiction | omega | (rename_i hz; with_reducible exact absurd rfl hz))))
    | (with_reducible refine spB_beq ?_ ?_ <;> intro _ <;> (try (exfalso; first | contradiction | omega | (rename_i hz; with_reducible exact absurd rfl hz))))
    | ((with_reducible refine posE_pos ?_ ?_); (focus ((try simp only [LN] at *) <;> omega)))
    | ((with_reducible apply ixN_litp); (focus (exact rfl)); (focus ((try simp only [LN] at *) <;> omega)))
    | ((with_reducible refine apdN.mk ?_ ?_ ?_ ?_ ?_ ?_); (focus (first | rfl)); (focus (first | exact one_all (by rfl))); (focus ((try simp only [LN] at *) <;> omega)); (focus ((try simp only [LN] at *) <;> omega)); (focus ((try simp only [LN] at *) <;> omega)))
    | with_reducible refine wr_i64 (by first | omega | (simp only [LN] at *; omega)) ?_
    | with_reducible first | refine wr_mk _ rfl ?_
    | ((with_reducible refine rowN_map ?_ ?_); (focus ((try simp only [LN] at *) <;> omega)); intro x hx)
    | (with_reducible refine Z.callZ_in tabOk 16 Try.f141 _ Try.func141 (by kernel_rfl) rfl rfl rfl ?_)
    | ((with_reducible refine eqN_mk2 ?_ ?_); (focus (exact Z.kb_some rfl)))
    | ((with_reducible apply ex_and); exact rfl)
    | ((with_reducible refine Z.rngN.mk ?_); (try subst hlb))
    | ((with_reducible refine Z.CallZ.yl ?_); subst hlb; refine Z.yield_rule tabOk _ _ rfl rfl rfl rfl ?_)
    | with_reducible first | refine Z.drawZ_rule tabOk mixOk ?_ | refine Z.apZ_mk (by kernel_rfl) ?_)
  all_goals (try (conv => whnf))
  all_goals first
    | ((refine Z.rndK ((i + 1, c1, s1, acc ++ [IntKind.i64.wrap (IntKind.i64.wrap (x * a) + b)])) (fun s => [0, 1, 2, 3, 4, 5, 6, 7, 8, 9, 10, 11, 12, 13, s.idIn 3 0]) rfl rfl rfl rfl ?_ ?_ ?_ ?_); (focus (repeat' (first | exact trivial | exact rfl | apply And.intro))); (focus (repeat' (first | exact trivial | (intro b hb; cases hb; rfl) | (intro b hb; cases hb; rw [List.map_append]; rfl) | (intro b hb; cases hb; done) | exact Z.gB_sub' rfl (by first | rfl | (rw [List.map_append]; rfl) | simp only [List.map_append, List.map_cons, List.map_nil]) (ren_map fun _ => rfl) | apply And.intro))); (focus (refine ⟨by (try simp only [LN] at *); (try dsimp only); omega, ?_, ?_, ?_⟩; (focus (dsimp only; rw [fs_step hx, ← hq]; simp [stp])); (focus (dsimp only; omega)); exact no_step hno hq (by omega))); (try simp only [LN] at *); (try dsimp only); omega)
    | (refine ret0 _ rfl _ rfl (fun _ => rfl) rfl (.inl ⟨⟨i, by (try simp only [LN] at *) <;> omega, by rw [← hq]; (first | assumption)⟩, rfl, rfl, rfl⟩))
    | skip
  have hend : i = l.length := by (try simp only [LN] at *) <;> omega
  subst hend
  rw [List.take_length] at hq
  refine ret_stp (Stp.fzg 7 14 (acc.map cI) rfl 1 2 (by show Z.isB ((gB _ _ _).map Z.Ob.b) = _; exact Z.isB_map _) (acc.map eI) (by simp only [List.map_map]; rfl) (Nat.zero_le _)) ?_
  refine ret0 _ rfl _ rfl (fun _ => rfl) rfl (.inr ⟨hno, ?_, rfl, rfl⟩)
  rw [← hq]; rfl
theorem run3_con (w : Int) (ins : List Int) (a b c s : Int) (l : List Int) (hc : 0 ≤ c ∧ c ≤ 9223372036854775807) (hl : l.length ≤ 40) : Con Try.prog 89 [.agg [.v (.int .i64 3), .v (.int .i64 w), .ro false 1 (ins.map eI), .v (.int .i64 a), .v (.int .i64 b)], .agg [.v (.int .i64 c), .v (.int .i64 s)], .one (.ro false 1 (l.map eI))] (fun rx rK rt => ((∃ j, j < l.length ∧ (fs 3 a b (c, s) (l.take j)).1.1 = 9223372036854775807) ∧ rx = .tup [.agg [.v (.int .i64 0), .v (.int .i64 0)], .one (.v (.slice none 0 0)), .one (.v (.int .i64 6))] ∧ rK = [] ∧ rt = 0) ∨ ((∀ j, j < l.length → (fs 3 a b (c, s) (l.take j)).1.1 ≠ 9223372036854775807) ∧ rx = .tup [.agg [.v (.int .i64 (fs 3 a b (c, s) (l)).1.1), .v (.int .i64 (fs 3 a b (c, s) (l)).1.2)], .one (.ro true 1 ((fs 3 a b (c, s) (l)).2.map eI)), .one (.v (.int .i64 0))] ∧ rK = [] ∧ rt = 0)) := by
  refine Z.con_ofZ tabOk 32 Try.f89 _ Try.func89 (by kernel_rfl) rfl rfl rfl rfl ?_
  repeat' ((conv => whnf); first
    | ((with_reducible apply ixN_lit); (focus (exact rfl)); (focus (exact rfl)))
    | (with_reducible refine Z.callZ_in tabOk 11 Try.f114 _ Try.func114 (by kernel_rfl) rfl rfl rfl ?_)
    | (with_reducible refine Z.callZ_in tabOk 18 Try.f131 _ Try.func131 (by kernel_rfl) rfl rfl rfl ?_)
    | (with_reducible refine Z.callZ_in tabOk 32 Try.f132 _ Try.func132 (by kernel_rfl) rfl rfl rfl ?_)
    | ((with_reducible apply ex_and); exact rfl)
    | ((with_reducible refine Z.RangeZ.red ?_); (refine Z.range_rule [(2, _), (4, _), (6, _), (9, _), (10, _)] rfl ⟨rfl, rfl, rfl, rfl, rfl, trivial⟩ rfl rfl ?_); intro lb hlb))
  all_goals (try (conv => whnf))
  refine Z.loopZ_rule tabOk (fun q : Nat × Int × Int × List Int => (⟨[(12, .val (.int .i64 (q.1 : Int))), (11, .val (.int .i64 ((l.map eI).length : Nat))), (10, .c (.ro false 1 (l.map eI))), (5, .c (.own 13 0 0)), (3, .c (.own 11 0 0)), (0, .c (.yl 12))], [(0, some (.b ⟨[[.v (.int .i64 3), .v (.int .i64 w), .ro false 1 (ins.map eI), .v (.int .i64 a), .v (.int .i64 b)]], 5, 25, true⟩)), (1, some (.b ⟨[[.v (.int .i64 q.2.1), .v (.int .i64 q.2.2.1)]], 2, 41, true⟩)), (2, some (.b ⟨[[.v (.int .i64 0), .v (.int .i64 0)]], 2, 41, true⟩)), (3, some (.b ⟨[[.gsl 14 (q.2.2.2.map cI)]], 1, 77, true⟩)), (4, some (.b ⟨[[.v (.int .i64 (q.1 : Int))]], 1, 3, true⟩)), (5, some (.b ⟨[[.v (.int .i64 3), .v (.int .i64 w), .ro false 1 (ins.map eI), .v (.int .i64 a), .v (.int .i64 b)]], 5, 25, true⟩)), (6, some (.b ⟨[[.v (.int .i64 c), .v (.int .i64 s)]], 2, 41, true⟩)), (7, some (.b ⟨[[.ro false 1 (l.map eI)]], 1, 77, true⟩)), (8, some (.b ⟨[[.v (.int .i64 3), .v (.int .i64 w), .ro false 1 (ins.map eI), .v (.int .i64 a), .v (.int .i64 b)]], 5, 25, true⟩)), (9, some (.b ⟨[[.fn 140 []]], 1, 166, true⟩)), (10, none), (11, some (.b ⟨[[.fn 142 [.own 8 0 0]]], 1, 167, true⟩)), (12, some (.l lb)), (13, some (.b ⟨[[.v (.int .i64 q.2.1), .v (.int .i64 q.2.2.1)]], 2, 41, true⟩)), (14, (gB 1 2 (q.2.2.2.map cI)).map Z.Ob.b)], 15⟩ : Z.S)) (fun q => q.1 ≤ l.length ∧ ((q.2.1, q.2.2.1), q.2.2.2) = fs 3 a b (c, s) (l.take q.1) ∧ (0 ≤ q.2.1 ∧ q.2.1 ≤ 9223372036854775807) ∧ ∀ j, j < q.1 → (fs 3 a b (c, s) (l.take j)).1.1 ≠ 9223372036854775807) (fun q => l.length - q.1) (0, c, s, []) ⟨Nat.zero_le _, rfl, hc, fun j hj => absurd hj (Nat.not_lt_zero _)⟩ (Z.Stp.trans (Z.Stp.cells 3 _ [[.gsl 77 []]] rfl (Nat.le_of_ble_eq_true rfl) ⟨⟨Z.Imp.nilg 77, trivial⟩, trivial⟩) (Z.Wk.stp (l := [0, 1, 2, 3, 4, 5, 6, 7, 8, 9, 10, 11, 12, 13, 77]) ⟨rfl, by decide, rfl, (Nat.le_of_ble_eq_true rfl), ⟨rfl, rfl, rfl, rfl, rfl, rfl, trivial⟩, ⟨fun b hb => (by cases hb; rfl), fun b hb => (by cases hb; rfl), fun b hb => (by cases hb; rfl), fun b hb => (by cases hb; rfl), fun b hb => (by cases hb; rfl), fun b hb => (by cases hb; rfl), fun b hb => (by cases hb; rfl), fun b hb => (by cases hb; rfl), fun b hb => (by cases hb; rfl), fun b hb => (by cases hb; rfl), fun b hb => (by cases hb), fun b hb => (by cases hb; rfl), fun b hb => (by cases hb; (try subst hlb); rfl), fun b hb => (by cases hb; rfl), fun b hb => (by cases hb), trivial⟩⟩)) ?_
  rintro ⟨i, c1, s1, acc⟩ ⟨hi, hq, hb1, hno⟩
  dsimp only at hi hq hb1 hno ⊢
  have hal : acc.length ≤ 40 := by
    have := fs_len (t := 3) (a := a) (b := b) (l.take i) (c := (c, s))
    rw [← hq, List.length_take] at this; dsimp only at this; omega
  repeat' ((conv => whnf); first
    | ((with_reducible apply spB_cong); (focus (simp only [beq_self_eq_true, bne_self_eq_false, Bool.true_bne, Bool.false_bne, Bool.bne_true, Bool.bne_false, Bool.true_beq, Bool.false_beq, Bool.not_true, Bool.not_false, Bool.not_not, Int.reduceBEq, Int.reduceBNe, Int.reduceLE, Int.reduceLT, Int.reduceEq, decide_true, decide_false]; rfl)))
    | with_reducible first | refine spB_no (by decide) ?_
    | (with_reducible refine spB_dec ?_ ?_ <;> intro _ <;> (try (exfalso; first | contradiction | omega | (rename_i hz; with_reducible exact absurd rfl hz))))
    | (with_reducible refine spB_beq ?_ ?_ <;> intro _ <;> (try (exfalso; first | contradiction | omega | (rename_i hz; with_reducible exact absurd rfl hz))))
    | (with_reducible refine spB_bne ?_ ?_ <;> intro _ <;> (try (exfalso; first | contradiction | omega | (rename_i hz; with_reducible exact absurd rfl hz))))
    | ((with_reducible refine posE_pos ?_ ?_); (focus ((try simp only [LN] at *) <;> omega)))
    | ((with_reducible refine posE_nil ?_ ?_); (focus rfl))
    | ((with_reducible apply ixN_litp); (focus (exact rfl)); (focus ((try simp only [LN] at *) <;> omega)))
    | ((with_reducible refine apdN.mk ?_ ?_ ?_ ?_ ?_ ?_); (focus (first | rfl)); (focus (first | exact one_all (by rfl))); (focus ((try simp only [LN] at *) <;> omega)); (focus ((try simp only [LN] at *) <;> omega)); (focus ((try simp only [LN] at *) <;> omega)))
    | with_reducible refine wr_i64 (by first | omega | (simp only [LN] at *; omega)) ?_
    | ((with_reducible refine rowN_map ?_ ?_); (focus ((try simp only [LN] at *) <;> omega)); intro x hx)
    | ((with_reducible apply Z.conZ_mk ?_ (mod_con _ _) ?_);(first | (rotate_left 2; (focus exact ⟨rfl, rfl, trivial⟩))); skip)
    | (with_reducible refine Z.callZ_in tabOk 18 Try.f142 _ Try.func142 (by kernel_rfl) rfl rfl rfl ?_)
    | ((with_reducible refine eqN_mk2 ?_ ?_); (focus (exact Z.kb_some rfl)))
    | ((with_reducible apply ex_and); exact rfl)
    | ((with_reducible refine Z.rngN.mk ?_); (try subst hlb))
    | ((with_reducible refine Z.CallZ.yl ?_); subst hlb; refine Z.yield_rule tabOk _ _ rfl rfl rfl rfl ?_)
    | with_reducible first | refine Z.drawZ_rule tabOk mixOk ?_ | refine Z.apZ_mk (by kernel_rfl) ?_)
  all_goals (try (conv => whnf))
  all_goals first
    | ((refine Z.rndK ((i + 1, c1, s1, acc ++ [x])) (fun s => [0, 1, 2, 3, 4, 5, 6, 7, 8, 9, 10, 11, 12, 13, s.idIn 3 0]) rfl rfl rfl rfl ?_ ?_ ?_ ?_); (focus (repeat' (first | exact trivial | exact rfl | apply And.intro))); (focus (repeat' (first | exact trivial | (intro b hb; cases hb; rfl) | (intro b hb; cases hb; rw [List.map_append]; rfl) | (intro b hb; cases hb; done) | exact Z.gB_sub' rfl (by first | rfl | (rw [List.map_append]; rfl) | simp only [List.map_append, List.map_cons, List.map_nil]) (ren_map fun _ => rfl) | apply And.intro))); (focus (refine ⟨by (try simp only [LN] at *); (try dsimp only); omega, ?_, ?_, ?_⟩; (focus (dsimp only; rw [fs_step hx, ← hq]; rw [stp3y (by assumption)])); (focus (dsimp only; omega)); exact no_step hno hq (by omega))); (try simp only [LN] at *); (try dsimp only); omega)
    | ((refine Z.rndK ((i + 1, c1, s1, acc)) (fun s => [0, 1, 2, 3, 4, 5, 6, 7, 8, 9, 10, 11, 12, 13, s.idIn 3 0]) rfl rfl rfl rfl ?_ ?_ ?_ ?_); (focus (repeat' (first | exact trivial | exact rfl | apply And.intro))); (focus (repeat' (first | exact trivial | (intro b hb; cases hb; rfl) | (intro b hb; cases hb; done) | exact Z.gB_sub rfl rfl (ren_map fun _ => rfl) | apply And.intro))); (focus (refine ⟨by (try simp only [LN] at *); (try dsimp only); omega, ?_, ?_, ?_⟩; (focus (dsimp only; rw [fs_step hx, ← hq]; rw [stp3n (by assumption), List.append_nil])); (focus (dsimp only; omega)); exact no_step hno hq (by omega))); (try simp only [LN] at *); (try dsimp only); omega)
    | (refine ret0 _ rfl _ rfl (fun _ => rfl) rfl (.inl ⟨⟨i, by (try simp only [LN] at *) <;> omega, by rw [← hq]; (first | assumption)⟩, rfl, rfl, rfl⟩))
    | skip
  have hend : i = l.length := by (try simp only [LN] at *) <;> omega
  subst hend
  rw [List.take_length] at hq
  refine ret_stp (Stp.fzg 7 14 (acc.map cI) rfl 1 2 (by show Z.isB ((gB _ _ _).map Z.Ob.b) = _; exact Z.isB_map _) (acc.map eI) (by simp only [List.map_map]; rfl) (Nat.zero_le _)) ?_
  refine ret0 _ rfl _ rfl (fun _ => rfl) rfl (.inr ⟨hno, ?_, rfl, rfl⟩)
  rw [← hq]; rfl
end Ops
end Go.Proofs.Ytehhmkdghgabaaa
namespace Go.Proofs.Ytehhmkdghgabaaa
open Go Go.RowKit Wx
set_option linter.unusedVariables false
set_option linter.unusedSimpArgs false
set_option maxHeartbeats 4000000
namespace Ops
theorem run4_con (w : Int) (ins : List Int) (a b c s : Int) (l : List Int) (hc : 0 ≤ c ∧ c ≤ 9223372036854775807) (hl : l.length ≤ 40) : Con Try.prog 89 [.agg [.v (.int .i64 4), .v (.int .i64 w), .ro false 1 (ins.map eI), .v (.int .i64 a), .v (.int .i64 b)], .agg [.v (.int .i64 c), .v (.int .i64 s)], .one (.ro false 1 (l.map eI))] (fun rx rK rt => ((∃ j, j < l.length ∧ (fs 4 a b (c, s) (l.take j)).1.1 = 9223372036854775807) ∧ rx = .tup [.agg [.v (.int .i64 0), .v (.int .i64 0)], .one (.v (.slice none 0 0)), .one (.v (.int .i64 6))] ∧ rK = [] ∧ rt = 0) ∨ ((∀ j, j < l.length → (fs 4 a b (c, s) (l.take j)).1.1 ≠ 9223372036854775807) ∧ rx = .tup [.agg [.v (.int .i64 (fs 4 a b (c, s) (l)).1.1), .v (.int .i64 (fs 4 a b (c, s) (l)).1.2)], .one (.ro true 1 ((fs 4 a b (c, s) (l)).2.map eI)), .one (.v (.int .i64 0))] ∧ rK = [] ∧ rt = 0)) := by
  refine Z.con_ofZ tabOk 32 Try.f89 _ Try.func89 (by kernel_rfl) rfl rfl rfl rfl ?_
  repeat' ((conv => whnf); first
    | ((with_reducible apply ixN_lit); (focus (exact rfl)); (focus (exact rfl)))
    | (with_reducible refine Z.callZ_in tabOk 11 Try.f114 _ Try.func114 (by kernel_rfl) rfl rfl rfl ?_)
    | (with_reducible refine Z.callZ_in tabOk 18 Try.f131 _ Try.func131 (by kernel_rfl) rfl rfl rfl ?_)
    | (with_reducible refine Z.callZ_in tabOk 32 Try.f132 _ Try.func132 (by kernel_rfl) rfl rfl rfl ?_)
    | ((with_reducible apply ex_and); exact rfl)
    | ((with_reducible refine Z.RangeZ.red ?_); (refine Z.range_rule [(2, _), (4, _), (6, _), (9, _), (10, _)] rfl ⟨rfl, rfl, rfl, rfl, rfl, trivial⟩ rfl rfl ?_); intro lb hlb))
  all_goals (try (conv => whnf))
  refine Z.loopZ_rule tabOk (fun q : Nat × Int × Int × List Int => (⟨[(12, .val (.int .i64 (q.1 : Int))), (11, .val (.int .i64 ((l.map eI).length : Nat))), (10, .c (.ro false 1 (l.map eI))), (5, .c (.own 13 0 0)), (3, .c (.own 11 0 0)), (0, .c (.yl 12))], [(0, some (.b ⟨[[.v (.int .i64 4), .v (.int .i64 w), .ro false 1 (ins.map eI), .v (.int .i64 a), .v (.int .i64 b)]], 5, 25, true⟩)), (1, some (.b ⟨[[.v (.int .i64 q.2.1), .v (.int .i64 q.2.2.1)]], 2, 41, true⟩)), (2, some (.b ⟨[[.v (.int .i64 0), .v (.int .i64 0)]], 2, 41, true⟩)), (3, some (.b ⟨[[.gsl 14 (q.2.2.2.map cI)]], 1, 77, true⟩)), (4, some (.b ⟨[[.v (.int .i64 (q.1 : Int))]], 1, 3, true⟩)), (5, some (.b ⟨[[.v (.int .i64 4), .v (.int .i64 w), .ro false 1 (ins.map eI), .v (.int .i64 a), .v (.int .i64 b)]], 5, 25, true⟩)), (6, some (.b ⟨[[.v (.int .i64 c), .v (.int .i64 s)]], 2, 41, true⟩)), (7, some (.b ⟨[[.ro false 1 (l.map eI)]], 1, 77, true⟩)), (8, some (.b ⟨[[.v (.int .i64 4), .v (.int .i64 w), .ro false 1 (ins.map eI), .v (.int .i64 a), .v (.int .i64 b)]], 5, 25, true⟩)), (9, some (.b ⟨[[.fn 140 []]], 1, 166, true⟩)), (10, none), (11, some (.b ⟨[[.fn 140 []]], 1, 167, true⟩)), (12, some (.l lb)), (13, some (.b ⟨[[.v (.int .i64 q.2.1), .v (.int .i64 q.2.2.1)]], 2, 41, true⟩)), (14, (gB 1 2 (q.2.2.2.map cI)).map Z.Ob.b)], 15⟩ : Z.S)) (fun q => q.1 ≤ l.length ∧ ((q.2.1, q.2.2.1), q.2.2.2) = fs 4 a b (c, s) (l.take q.1) ∧ (0 ≤ q.2.1 ∧ q.2.1 ≤ 9223372036854775807) ∧ ∀ j, j < q.1 → (fs 4 a b (c, s) (l.take j)).1.1 ≠ 9223372036854775807) (fun q => l.length - q.1) (0, c, s, []) ⟨Nat.zero_le _, rfl, hc, fun j hj => absurd hj (Nat.not_lt_zero _)⟩ (Z.Stp.trans (Z.Stp.cells 3 _ [[.gsl 77 []]] rfl (Nat.le_of_ble_eq_true rfl) ⟨⟨Z.Imp.nilg 77, trivial⟩, trivial⟩) (Z.Wk.stp (l := [0, 1, 2, 3, 4, 5, 6, 7, 8, 9, 10, 11, 12, 13, 77]) ⟨rfl, by decide, rfl, (Nat.le_of_ble_eq_true rfl), ⟨rfl, rfl, rfl, rfl, rfl, rfl, trivial⟩, ⟨fun b hb => (by cases hb; rfl), fun b hb => (by cases hb; rfl), fun b hb => (by cases hb; rfl), fun b hb => (by cases hb; rfl), fun b hb => (by cases hb; rfl), fun b hb => (by cases hb; rfl), fun b hb => (by cases hb; rfl), fun b hb => (by cases hb; rfl), fun b hb => (by cases hb; rfl), fun b hb => (by cases hb; rfl), fun b hb => (by cases hb), fun b hb => (by cases hb; rfl), fun b hb => (by cases hb; (try subst hlb); rfl), fun b hb => (by cases hb; rfl), fun b hb => (by cases hb), trivial⟩⟩)) ?_
  rintro ⟨i, c1, s1, acc⟩ ⟨hi, hq, hb1, hno⟩
  dsimp only at hi hq hb1 hno ⊢
  have hal : acc.length ≤ 40 := by
    have := fs_len (t := 4) (a := a) (b := b) (l.take i) (c := (c, s))
    rw [← hq, List.length_take] at this; dsimp only at this; omega
  repeat' ((conv => whnf); first
    | ((with_reducible apply spB_cong); (focus (simp only [beq_self_eq_true, bne_self_eq_false, Bool.true_bne, Bool.false_bne, Bool.bne_true, Bool.bne_false, Bool.true_beq, Bool.false_beq, Bool.not_true, Bool.not_false, Bool.not_not, Int.reduceBEq, Int.reduceBNe, Int.reduceLE, Int.reduceLT, Int.reduceEq, decide_true, decide_false]; rfl)))
    | with_reducible first | refine spB_no (by decide) ?_
    | (with_reducible refine spB_dec ?_ ?_ <;> intro _ <;> (try (exfalso; first | contradiction | omega | (rename_i hz; with_reducible exact absurd rfl hz))))
    | (with_reducible refine spB_beq ?_ ?_ <;> intro _ <;> (try (exfalso; first | contradiction | omega | (rename_i hz; with_reducible exact absurd rfl hz))))
    | ((with_reducible refine posE_pos ?_ ?_); (focus ((try simp only [LN] at *) <;> omega)))
    | ((with_reducible apply ixN_litp); (focus (exact rfl)); (focus ((try simp only [LN] at *) <;> omega)))
    | ((with_reducible refine apdN.mk ?_ ?_ ?_ ?_ ?_ ?_); (focus (first | rfl)); (focus (first | exact one_all (by rfl))); (focus ((try simp only [LN] at *) <;> omega)); (focus ((try simp only [LN] at *) <;> omega)); (focus ((try simp only [LN] at *) <;> omega)))
    | with_reducible refine wr_i64 (by first | omega | (simp only [LN] at *; omega)) ?_
    | with_reducible first | refine wr_mk _ rfl ?_
    | ((with_reducible refine rowN_map ?_ ?_); (focus ((try simp only [LN] at *) <;> omega)); intro x hx)
    | (with_reducible refine Z.callZ_in tabOk 18 Try.f140 _ Try.func140 (by kernel_rfl) rfl rfl rfl ?_)
    | ((with_reducible refine eqN_mk2 ?_ ?_); (focus (exact Z.kb_some rfl)))
    | ((with_reducible apply ex_and); exact rfl)
    | ((with_reducible refine Z.rngN.mk ?_); (try subst hlb))
    | ((with_reducible refine Z.CallZ.yl ?_); subst hlb; refine Z.yield_rule tabOk _ _ rfl rfl rfl rfl ?_)
    | with_reducible first | refine Z.drawZ_rule tabOk mixOk ?_ | refine Z.apZ_mk (by kernel_rfl) ?_)
  all_goals (try (conv => whnf))
  all_goals first
    | ((refine Z.rndK ((i + 1, (c1 + 1), (IntKind.i64.wrap (s1 + x)), acc ++ [IntKind.i64.wrap (s1 + x)])) (fun s => [0, 1, 2, 3, 4, 5, 6, 7, 8, 9, 10, 11, 12, 13, s.idIn 3 0]) rfl rfl rfl rfl ?_ ?_ ?_ ?_); (focus (repeat' (first | exact trivial | exact rfl | apply And.intro))); (focus (repeat' (first | exact trivial | (intro b hb; cases hb; rfl) | (intro b hb; cases hb; rw [List.map_append]; rfl) | (intro b hb; cases hb; done) | exact Z.gB_sub' rfl (by first | rfl | (rw [List.map_append]; rfl) | simp only [List.map_append, List.map_cons, List.map_nil]) (ren_map fun _ => rfl) | apply And.intro))); (focus (refine ⟨by (try simp only [LN] at *); (try dsimp only); omega, ?_, ?_, ?_⟩; (focus (dsimp only; rw [fs_step hx, ← hq]; simp [stp])); (focus (dsimp only; omega)); exact no_step hno hq (by omega))); (try simp only [LN] at *); (try dsimp only); omega)
    | (refine ret0 _ rfl _ rfl (fun _ => rfl) rfl (.inl ⟨⟨i, by (try simp only [LN] at *) <;> omega, by rw [← hq]; (first | assumption)⟩, rfl, rfl, rfl⟩))
    | skip
  have hend : i = l.length := by (try simp only [LN] at *) <;> omega
  subst hend
  rw [List.take_length] at hq
  refine ret_stp (Stp.fzg 7 14 (acc.map cI) rfl 1 2 (by show Z.isB ((gB _ _ _).map Z.Ob.b) = _; exact Z.isB_map _) (acc.map eI) (by simp only [List.map_map]; rfl) (Nat.zero_le _)) ?_
  refine ret0 _ rfl _ rfl (fun _ => rfl) rfl (.inr ⟨hno, ?_, rfl, rfl⟩)
  rw [← hq]; rfl
theorem run5_con (w : Int) (ins : List Int) (a b c s : Int) (l : List Int) (hc : 0 ≤ c ∧ c ≤ 9223372036854775807) (hl : l.length ≤ 40) : Con Try.prog 89 [.agg [.v (.int .i64 5), .v (.int .i64 w), .ro false 1 (ins.map eI), .v (.int .i64 a), .v (.int .i64 b)], .agg [.v (.int .i64 c), .v (.int .i64 s)], .one (.ro false 1 (l.map eI))] (fun rx rK rt => ((∃ j, j < l.length ∧ (fs 5 a b (c, s) (l.take j)).1.1 = 9223372036854775807) ∧ rx = .tup [.agg [.v (.int .i64 0), .v (.int .i64 0)], .one (.v (.slice none 0 0)), .one (.v (.int .i64 6))] ∧ rK = [] ∧ rt = 0) ∨ ((∀ j, j < l.length → (fs 5 a b (c, s) (l.take j)).1.1 ≠ 9223372036854775807) ∧ rx = .tup [.agg [.v (.int .i64 (fs 5 a b (c, s) (l)).1.1), .v (.int .i64 (fs 5 a b (c, s) (l)).1.2)], .one (.ro true 1 ((fs 5 a b (c, s) (l)).2.map eI)), .one (.v (.int .i64 0))] ∧ rK = [] ∧ rt = 0)) := by
  refine Z.con_ofZ tabOk 32 Try.f89 _ Try.func89 (by kernel_rfl) rfl rfl rfl rfl ?_
  repeat' ((conv => whnf); first
    | ((with_reducible apply ixN_lit); (focus (exact rfl)); (focus (exact rfl)))
    | (with_reducible refine Z.callZ_in tabOk 11 Try.f114 _ Try.func114 (by kernel_rfl) rfl rfl rfl ?_)
    | (with_reducible refine Z.callZ_in tabOk 18 Try.f131 _ Try.func131 (by kernel_rfl) rfl rfl rfl ?_)
    | (with_reducible refine Z.callZ_in tabOk 32 Try.f132 _ Try.func132 (by kernel_rfl) rfl rfl rfl ?_)
    | ((with_reducible apply ex_and); exact rfl)
    | ((with_reducible refine Z.RangeZ.red ?_); (refine Z.range_rule [(2, _), (4, _), (6, _), (9, _), (10, _)] rfl ⟨rfl, rfl, rfl, rfl, rfl, trivial⟩ rfl rfl ?_); intro lb hlb))
  all_goals (try (conv => whnf))
  refine Z.loopZ_rule tabOk (fun q : Nat × Int × Int × List Int => (⟨[(12, .val (.int .i64 (q.1 : Int))), (11, .val (.int .i64 ((l.map eI).length : Nat))), (10, .c (.ro false 1 (l.map eI))), (5, .c (.own 13 0 0)), (3, .c (.own 11 0 0)), (0, .c (.yl 12))], [(0, some (.b ⟨[[.v (.int .i64 5), .v (.int .i64 w), .ro false 1 (ins.map eI), .v (.int .i64 a), .v (.int .i64 b)]], 5, 25, true⟩)), (1, some (.b ⟨[[.v (.int .i64 q.2.1), .v (.int .i64 q.2.2.1)]], 2, 41, true⟩)), (2, some (.b ⟨[[.v (.int .i64 0), .v (.int .i64 0)]], 2, 41, true⟩)), (3, some (.b ⟨[[.gsl 14 (q.2.2.2.map cI)]], 1, 77, true⟩)), (4, some (.b ⟨[[.v (.int .i64 (q.1 : Int))]], 1, 3, true⟩)), (5, some (.b ⟨[[.v (.int .i64 5), .v (.int .i64 w), .ro false 1 (ins.map eI), .v (.int .i64 a), .v (.int .i64 b)]], 5, 25, true⟩)), (6, some (.b ⟨[[.v (.int .i64 c), .v (.int .i64 s)]], 2, 41, true⟩)), (7, some (.b ⟨[[.ro false 1 (l.map eI)]], 1, 77, true⟩)), (8, some (.b ⟨[[.v (.int .i64 5), .v (.int .i64 w), .ro false 1 (ins.map eI), .v (.int .i64 a), .v (.int .i64 b)]], 5, 25, true⟩)), (9, some (.b ⟨[[.fn 140 []]], 1, 166, true⟩)), (10, none), (11, some (.b ⟨[[.fn 144 [.own 9 0 0, .own 8 0 0]]], 1, 167, true⟩)), (12, some (.l lb)), (13, some (.b ⟨[[.v (.int .i64 q.2.1), .v (.int .i64 q.2.2.1)]], 2, 41, true⟩)), (14, (gB 1 2 (q.2.2.2.map cI)).map Z.Ob.b)], 15⟩ : Z.S)) (fun q => q.1 ≤ l.length ∧ ((q.2.1, q.2.2.1), q.2.2.2) = fs 5 a b (c, s) (l.take q.1) ∧ (0 ≤ q.2.1 ∧ q.2.1 ≤ 9223372036854775807) ∧ ∀ j, j < q.1 → (fs 5 a b (c, s) (l.take j)).1.1 ≠ 9223372036854775807) (fun q => l.length - q.1) (0, c, s, []) ⟨Nat.zero_le _, rfl, hc, fun j hj => absurd hj (Nat.not_lt_zero _)⟩ (Z.Stp.trans (Z.Stp.cells 3 _ [[.gsl 77 []]] rfl (Nat.le_of_ble_eq_true rfl) ⟨⟨Z.Imp.nilg 77, trivial⟩, trivial⟩) (Z.Wk.stp (l := [0, 1, 2, 3, 4, 5, 6, 7, 8, 9, 10, 11, 12, 13, 77]) ⟨rfl, by decide, rfl, (Nat.le_of_ble_eq_true rfl), ⟨rfl, rfl, rfl, rfl, rfl, rfl, trivial⟩, ⟨fun b hb => (by cases hb; rfl), fun b hb => (by cases hb; rfl), fun b hb => (by cases hb; rfl), fun b hb => (by cases hb; rfl), fun b hb => (by cases hb; rfl), fun b hb => (by cases hb; rfl), fun b hb => (by cases hb; rfl), fun b hb => (by cases hb; rfl), fun b hb => (by cases hb; rfl), fun b hb => (by cases hb; rfl), fun b hb => (by cases hb), fun b hb => (by cases hb; rfl), fun b hb => (by cases hb; (try subst hlb); rfl), fun b hb => (by cases hb; rfl), fun b hb => (by cases hb), trivial⟩⟩)) ?_
  rintro ⟨i, c1, s1, acc⟩ ⟨hi, hq, hb1, hno⟩
  dsimp only at hi hq hb1 hno ⊢
  have hal : acc.length ≤ 40 := by
    have := fs_len (t := 5) (a := a) (b := b) (l.take i) (c := (c, s))
    rw [← hq, List.length_take] at this; dsimp only at this; omega
  repeat' ((conv => whnf); first
    | ((with_reducible apply spB_cong); (focus (simp only [beq_self_eq_true, bne_self_eq_false, Bool.true_bne, Bool.false_bne, Bool.bne_true, Bool.bne_false, Bool.true_beq, Bool.false_beq, Bool.not_true, Bool.not_false, Bool.not_not, Int.reduceBEq, Int.reduceBNe, Int.reduceLE, Int.reduceLT, Int.reduceEq, decide_true, decide_false]; rfl)))
    | with_reducible first | refine spB_no (by decide) ?_
    | (with_reducible refine spB_dec ?_ ?_ <;> intro _ <;> (try (exfalso; first | contradiction | omega | (rename_i hz; with_reducible exact absurd rfl hz))))
    | (with_reducible refine spB_beq ?_ ?_ <;> intro _ <;> (try (exfalso; first | contradiction | omega | (rename_i hz; with_reducible exact absurd rfl hz))))
    | ((with_reducible refine posE_pos ?_ ?_); (focus ((try simp only [LN] at *) <;> omega)))
    | ((with_reducible refine posE_nil ?_ ?_); (focus rfl))
    | ((with_reducible apply ixN_litp); (focus (exact rfl)); (focus ((try simp only [LN] at *) <;> omega)))
    | ((with_reducible refine apdN.mk ?_ ?_ ?_ ?_ ?_ ?_); (focus (first | rfl)); (focus (first | exact one_all (by rfl))); (focus ((try simp only [LN] at *) <;> omega)); (focus ((try simp only [LN] at *) <;> omega)); (focus ((try simp only [LN] at *) <;> omega)))
    | with_reducible refine wr_i64 (by first | omega | (simp only [LN] at *; omega)) ?_
    | with_reducible first | refine wr_mk _ rfl ?_
    | ((with_reducible refine rowN_map ?_ ?_); (focus ((try simp only [LN] at *) <;> omega)); intro x hx)
    | (with_reducible refine Z.callZ_in tabOk 18 Try.f140 _ Try.func140 (by kernel_rfl) rfl rfl rfl ?_)
    | (with_reducible refine Z.callZ_in tabOk 24 Try.f144 _ Try.func144 (by kernel_rfl) rfl rfl rfl ?_)
    | ((with_reducible refine eqN_mk2 ?_ ?_); (focus (exact Z.kb_some rfl)))
    | ((with_reducible apply ex_and); exact rfl)
    | ((with_reducible refine Z.rngN.mk ?_); (try subst hlb))
    | ((with_reducible refine Z.CallZ.yl ?_); subst hlb; refine Z.yield_rule tabOk _ _ rfl rfl rfl rfl ?_)
    | with_reducible first | refine Z.drawZ_rule tabOk mixOk ?_ | refine Z.apZ_mk (by kernel_rfl) ?_)
  all_goals (try (conv => whnf))
  all_goals first
    | ((refine Z.rndK ((i + 1, (c1 + 1), (IntKind.i64.wrap (s1 + x)), acc)) (fun s => [0, 1, 2, 3, 4, 5, 6, 7, 8, 9, 10, 11, 12, 13, s.idIn 3 0]) rfl rfl rfl rfl ?_ ?_ ?_ ?_); (focus (repeat' (first | exact trivial | exact rfl | apply And.intro))); (focus (repeat' (first | exact trivial | (intro b hb; cases hb; rfl) | (intro b hb; cases hb; done) | exact Z.gB_sub rfl rfl (ren_map fun _ => rfl) | exact Z.gB_sub' rfl (by first | rfl | (rw [List.map_append]; rfl) | simp only [List.map_append, List.map_cons, List.map_nil]) (ren_map fun _ => rfl) | apply And.intro))); (focus (refine ⟨by (try simp only [LN] at *); (try dsimp only); omega, ?_, ?_, ?_⟩; (focus (dsimp only; rw [fs_step hx, ← hq]; rw [stp5y (by assumption), List.append_nil])); (focus (dsimp only; omega)); exact no_step hno hq (by omega))); (try simp only [LN] at *); (try dsimp only); omega)
    | ((refine Z.rndK ((i + 1, 0, 0, acc ++ [IntKind.i64.wrap (s1 + x)])) (fun s => [0, 1, 2, 3, 4, 5, 6, 7, 8, 9, 10, 11, 12, 13, s.idIn 3 0]) rfl rfl rfl rfl ?_ ?_ ?_ ?_); (focus (repeat' (first | exact trivial | exact rfl | apply And.intro))); (focus (repeat' (first | exact trivial | (intro b hb; cases hb; rfl) | (intro b hb; cases hb; rw [List.map_append]; rfl) | (intro b hb; cases hb; done) | exact Z.gB_sub' rfl (by first | rfl | (rw [List.map_append]; rfl) | simp only [List.map_append, List.map_cons, List.map_nil]) (ren_map fun _ => rfl) | apply And.intro))); (focus (refine ⟨by (try simp only [LN] at *); (try dsimp only); omega, ?_, ?_, ?_⟩; (focus (dsimp only; rw [fs_step hx, ← hq]; rw [stp5n (by assumption)])); (focus (dsimp only; omega)); exact no_step hno hq (by omega))); (try simp only [LN] at *); (try dsimp only); omega)
    | (refine ret0 _ rfl _ rfl (fun _ => rfl) rfl (.inl ⟨⟨i, by (try simp only [LN] at *) <;> omega, by rw [← hq]; (first | assumption)⟩, rfl, rfl, rfl⟩))
    | skip
  have hend : i = l.length := by (try simp only [LN] at *) <;> omega
  subst hend
  rw [List.take_length] at hq
  refine ret_stp (Stp.fzg 7 14 (acc.map cI) rfl 1 2 (by show Z.isB ((gB _ _ _).map Z.Ob.b) = _; exact Z.isB_map _) (acc.map eI) (by simp only [List.map_map]; rfl) (Nat.zero_le _)) ?_
  refine ret0 _ rfl _ rfl (fun _ => rfl) rfl (.inr ⟨hno, ?_, rfl, rfl⟩)
  rw [← hq]; rfl
theorem run6_con (w : Int) (ins : List Int) (a b c s : Int) (l : List Int) (hc : 0 ≤ c ∧ c ≤ 9223372036854775807) (hl : l.length ≤ 40) : Con Try.prog 89 [.agg [.v (.int .i64 6), .v (.int .i64 w), .ro false 1 (ins.map eI), .v (.int .i64 a), .v (.int .i64 b)], .agg [.v (.int .i64 c), .v (.int .i64 s)], .one (.ro false 1 (l.map eI))] (fun rx rK rt => ((∃ j, j < l.length ∧ (fs 6 a b (c, s) (l.take j)).1.1 = 9223372036854775807) ∧ rx = .tup [.agg [.v (.int .i64 0), .v (.int .i64 0)], .one (.v (.slice none 0 0)), .one (.v (.int .i64 6))] ∧ rK = [] ∧ rt = 0) ∨ ((∀ j, j < l.length → (fs 6 a b (c, s) (l.take j)).1.1 ≠ 9223372036854775807) ∧ rx = .tup [.agg [.v (.int .i64 (fs 6 a b (c, s) (l)).1.1), .v (.int .i64 (fs 6 a b (c, s) (l)).1.2)], .one (.ro true 1 ((fs 6 a b (c, s) (l)).2.map eI)), .one (.v (.int .i64 0))] ∧ rK = [] ∧ rt = 0)) := by
  refine Z.con_ofZ tabOk 32 Try.f89 _ Try.func89 (by kernel_rfl) rfl rfl rfl rfl ?_
  repeat' ((conv => whnf); first
    | ((with_reducible apply ixN_lit); (focus (exact rfl)); (focus (exact rfl)))
    | (with_reducible refine Z.callZ_in tabOk 11 Try.f114 _ Try.func114 (by kernel_rfl) rfl rfl rfl ?_)
    | (with_reducible refine Z.callZ_in tabOk 18 Try.f131 _ Try.func131 (by kernel_rfl) rfl rfl rfl ?_)
    | (with_reducible refine Z.callZ_in tabOk 32 Try.f132 _ Try.func132 (by kernel_rfl) rfl rfl rfl ?_)
    | ((with_reducible apply ex_and); exact rfl)
    | ((with_reducible refine Z.RangeZ.red ?_); (refine Z.range_rule [(2, _), (4, _), (6, _), (9, _), (10, _)] rfl ⟨rfl, rfl, rfl, rfl, rfl, trivial⟩ rfl rfl ?_); intro lb hlb))
  all_goals (try (conv => whnf))
  refine Z.loopZ_rule tabOk (fun q : Nat × Int × Int × List Int => (⟨[(12, .val (.int .i64 (q.1 : Int))), (11, .val (.int .i64 ((l.map eI).length : Nat))), (10, .c (.ro false 1 (l.map eI))), (5, .c (.own 13 0 0)), (3, .c (.own 11 0 0)), (0, .c (.yl 12))], [(0, some (.b ⟨[[.v (.int .i64 6), .v (.int .i64 w), .ro false 1 (ins.map eI), .v (.int .i64 a), .v (.int .i64 b)]], 5, 25, true⟩)), (1, some (.b ⟨[[.v (.int .i64 q.2.1), .v (.int .i64 q.2.2.1)]], 2, 41, true⟩)), (2, some (.b ⟨[[.v (.int .i64 0), .v (.int .i64 0)]], 2, 41, true⟩)), (3, some (.b ⟨[[.gsl 14 (q.2.2.2.map cI)]], 1, 77, true⟩)), (4, some (.b ⟨[[.v (.int .i64 (q.1 : Int))]], 1, 3, true⟩)), (5, some (.b ⟨[[.v (.int .i64 6), .v (.int .i64 w), .ro false 1 (ins.map eI), .v (.int .i64 a), .v (.int .i64 b)]], 5, 25, true⟩)), (6, some (.b ⟨[[.v (.int .i64 c), .v (.int .i64 s)]], 2, 41, true⟩)), (7, some (.b ⟨[[.ro false 1 (l.map eI)]], 1, 77, true⟩)), (8, some (.b ⟨[[.v (.int .i64 6), .v (.int .i64 w), .ro false 1 (ins.map eI), .v (.int .i64 a), .v (.int .i64 b)]], 5, 25, true⟩)), (9, some (.b ⟨[[.fn 140 []]], 1, 166, true⟩)), (10, none), (11, some (.b ⟨[[.fn 139 []]], 1, 167, true⟩)), (12, some (.l lb)), (13, some (.b ⟨[[.v (.int .i64 q.2.1), .v (.int .i64 q.2.2.1)]], 2, 41, true⟩)), (14, (gB 1 2 (q.2.2.2.map cI)).map Z.Ob.b)], 15⟩ : Z.S)) (fun q => q.1 ≤ l.length ∧ ((q.2.1, q.2.2.1), q.2.2.2) = fs 6 a b (c, s) (l.take q.1) ∧ (0 ≤ q.2.1 ∧ q.2.1 ≤ 9223372036854775807) ∧ ∀ j, j < q.1 → (fs 6 a b (c, s) (l.take j)).1.1 ≠ 9223372036854775807) (fun q => l.length - q.1) (0, c, s, []) ⟨Nat.zero_le _, rfl, hc, fun j hj => absurd hj (Nat.not_lt_zero _)⟩ (Z.Stp.trans (Z.Stp.cells 3 _ [[.gsl 77 []]] rfl (Nat.le_of_ble_eq_true rfl) ⟨⟨Z.Imp.nilg 77, trivial⟩, trivial⟩) (Z.Wk.stp (l := [0, 1, 2, 3, 4, 5, 6, 7, 8, 9, 10, 11, 12, 13, 77]) ⟨rfl, by decide, rfl, (Nat.le_of_ble_eq_true rfl), ⟨rfl, rfl, rfl, rfl, rfl, rfl, trivial⟩, ⟨fun b hb => (by cases hb; rfl), fun b hb => (by cases hb; rfl), fun b hb => (by cases hb; rfl), fun b hb => (by cases hb; rfl), fun b hb => (by cases hb; rfl), fun b hb => (by cases hb; rfl), fun b hb => (by cases hb; rfl), fun b hb => (by cases hb; rfl), fun b hb => (by cases hb; rfl), fun b hb => (by cases hb; rfl), fun b hb => (by cases hb), fun b hb => (by cases hb; rfl), fun b hb => (by cases hb; (try subst hlb); rfl), fun b hb => (by cases hb; rfl), fun b hb => (by cases hb), trivial⟩⟩)) ?_
  rintro ⟨i, c1, s1, acc⟩ ⟨hi, hq, hb1, hno⟩
  dsimp only at hi hq hb1 hno ⊢
  have hal : acc.length ≤ 40 := by
    have := fs_len (t := 6) (a := a) (b := b) (l.take i) (c := (c, s))
    rw [← hq, List.length_take] at this; dsimp only at this; omega
  repeat' ((conv => whnf); first
    | ((with_reducible apply spB_cong); (focus (simp only [beq_self_eq_true, bne_self_eq_false, Bool.true_bne, Bool.false_bne, Bool.bne_true, Bool.bne_false, Bool.true_beq, Bool.false_beq, Bool.not_true, Bool.not_false, Bool.not_not, Int.reduceBEq, Int.reduceBNe, Int.reduceLE, Int.reduceLT, Int.reduceEq, decide_true, decide_false]; rfl)))
    | with_reducible first | refine spB_no (by decide) ?_
    | (with_reducible refine spB_dec ?_ ?_ <;> intro _ <;> (try (exfalso; first | contradiction | omega | (rename_i hz; with_reducible exact absurd rfl hz))))
    | (with_reducible refine spB_beq ?_ ?_ <;> intro _ <;> (try (exfalso; first | contradiction | omega | (rename_i hz; with_reducible exact absurd rfl hz))))
    | ((with_reducible refine posE_pos ?_ ?_); (focus ((try simp only [LN] at *) <;> omega)))
    | ((with_reducible apply ixN_litp); (focus (exact rfl)); (focus ((try simp only [LN] at *) <;> omega)))
    | ((with_reducible refine apdN.mk ?_ ?_ ?_ ?_ ?_ ?_); (focus (first | rfl)); (focus (first | exact one_all (by rfl))); (focus ((try simp only [LN] at *) <;> omega)); (focus ((try simp only [LN] at *) <;> omega)); (focus ((try simp only [LN] at *) <;> omega)))
    | with_reducible refine wr_i64 (by first | omega | (simp only [LN] at *; omega)) ?_
    | ((with_reducible refine rowN_map ?_ ?_); (focus ((try simp only [LN] at *) <;> omega)); intro x hx)
    | (with_reducible refine Z.callZ_in tabOk 9 Try.f139 _ Try.func139 (by kernel_rfl) rfl rfl rfl ?_)
    | ((with_reducible refine eqN_mk2 ?_ ?_); (focus (exact Z.kb_some rfl)))
    | ((with_reducible apply ex_and); exact rfl)
    | ((with_reducible refine Z.rngN.mk ?_); (try subst hlb))
    | ((with_reducible refine Z.CallZ.yl ?_); subst hlb; refine Z.yield_rule tabOk _ _ rfl rfl rfl rfl ?_)
    | with_reducible first | refine Z.drawZ_rule tabOk mixOk ?_ | refine Z.apZ_mk (by kernel_rfl) ?_)
  all_goals (try (conv => whnf))
  all_goals first
    | ((refine Z.rndK ((i + 1, c1, s1, acc ++ [x])) (fun s => [0, 1, 2, 3, 4, 5, 6, 7, 8, 9, 10, 11, 12, 13, s.idIn 3 0]) rfl rfl rfl rfl ?_ ?_ ?_ ?_); (focus (repeat' (first | exact trivial | exact rfl | apply And.intro))); (focus (repeat' (first | exact trivial | (intro b hb; cases hb; rfl) | (intro b hb; cases hb; rw [List.map_append]; rfl) | (intro b hb; cases hb; done) | exact Z.gB_sub' rfl (by first | rfl | (rw [List.map_append]; rfl) | simp only [List.map_append, List.map_cons, List.map_nil]) (ren_map fun _ => rfl) | apply And.intro))); (focus (refine ⟨by (try simp only [LN] at *); (try dsimp only); omega, ?_, ?_, ?_⟩; (focus (dsimp only; rw [fs_step hx, ← hq]; simp [stp])); (focus (dsimp only; omega)); exact no_step hno hq (by omega))); (try simp only [LN] at *); (try dsimp only); omega)
    | (refine ret0 _ rfl _ rfl (fun _ => rfl) rfl (.inl ⟨⟨i, by (try simp only [LN] at *) <;> omega, by rw [← hq]; (first | assumption)⟩, rfl, rfl, rfl⟩))
    | skip
  have hend : i = l.length := by (try simp only [LN] at *) <;> omega
  subst hend
  rw [List.take_length] at hq
  refine ret_stp (Stp.fzg 7 14 (acc.map cI) rfl 1 2 (by show Z.isB ((gB _ _ _).map Z.Ob.b) = _; exact Z.isB_map _) (acc.map eI) (by simp only [List.map_map]; rfl) (Nat.zero_le _)) ?_
  refine ret0 _ rfl _ rfl (fun _ => rfl) rfl (.inr ⟨hno, ?_, rfl, rfl⟩)
  rw [← hq]; rfl
theorem run7_con (w : Int) (ins : List Int) (a b c s : Int) (l : List Int) (hc : 0 ≤ c ∧ c ≤ 9223372036854775807) (hl : l.length ≤ 40) : Con Try.prog 89 [.agg [.v (.int .i64 7), .v (.int .i64 w), .ro false 1 (ins.map eI), .v (.int .i64 a), .v (.int .i64 b)], .agg [.v (.int .i64 c), .v (.int .i64 s)], .one (.ro false 1 (l.map eI))] (fun rx rK rt => ((∃ j, j < l.length ∧ (fs 7 a b (c, s) (l.take j)).1.1 = 9223372036854775807) ∧ rx = .tup [.agg [.v (.int .i64 0), .v (.int .i64 0)], .one (.v (.slice none 0 0)), .one (.v (.int .i64 6))] ∧ rK = [] ∧ rt = 0) ∨ ((∀ j, j < l.length → (fs 7 a b (c, s) (l.take j)).1.1 ≠ 9223372036854775807) ∧ rx = .tup [.agg [.v (.int .i64 (fs 7 a b (c, s) (l)).1.1), .v (.int .i64 (fs 7 a b (c, s) (l)).1.2)], .one (.ro true 1 ((fs 7 a b (c, s) (l)).2.map eI)), .one (.v (.int .i64 0))] ∧ rK = [] ∧ rt = 0)) := by
  refine Z.con_ofZ tabOk 32 Try.f89 _ Try.func89 (by kernel_rfl) rfl rfl rfl rfl ?_
  repeat' ((conv => whnf); first
    | ((with_reducible apply ixN_lit); (focus (exact rfl)); (focus (exact rfl)))
    | (with_reducible refine Z.callZ_in tabOk 11 Try.f114 _ Try.func114 (by kernel_rfl) rfl rfl rfl ?_)
    | (with_reducible refine Z.callZ_in tabOk 18 Try.f131 _ Try.func131 (by kernel_rfl) rfl rfl rfl ?_)
    | (with_reducible refine Z.callZ_in tabOk 32 Try.f132 _ Try.func132 (by kernel_rfl) rfl rfl rfl ?_)
    | ((with_reducible apply ex_and); exact rfl)
    | ((with_reducible refine Z.RangeZ.red ?_); (refine Z.range_rule [(2, _), (4, _), (6, _), (9, _), (10, _)] rfl ⟨rfl, rfl, rfl, rfl, rfl, trivial⟩ rfl rfl ?_); intro lb hlb))
  all_goals (try (conv => whnf))
  refine Z.loopZ_rule tabOk (fun q : Nat × Int × Int × List Int => (⟨[(12, .val (.int .i64 (q.1 : Int))), (11, .val (.int .i64 ((l.map eI).length : Nat))), (10, .c (.ro false 1 (l.map eI))), (5, .c (.own 13 0 0)), (3, .c (.own 11 0 0)), (0, .c (.yl 12))], [(0, some (.b ⟨[[.v (.int .i64 7), .v (.int .i64 w), .ro false 1 (ins.map eI), .v (.int .i64 a), .v (.int .i64 b)]], 5, 25, true⟩)), (1, some (.b ⟨[[.v (.int .i64 q.2.1), .v (.int .i64 q.2.2.1)]], 2, 41, true⟩)), (2, some (.b ⟨[[.v (.int .i64 0), .v (.int .i64 0)]], 2, 41, true⟩)), (3, some (.b ⟨[[.gsl 14 (q.2.2.2.map cI)]], 1, 77, true⟩)), (4, some (.b ⟨[[.v (.int .i64 (q.1 : Int))]], 1, 3, true⟩)), (5, some (.b ⟨[[.v (.int .i64 7), .v (.int .i64 w), .ro false 1 (ins.map eI), .v (.int .i64 a), .v (.int .i64 b)]], 5, 25, true⟩)), (6, some (.b ⟨[[.v (.int .i64 c), .v (.int .i64 s)]], 2, 41, true⟩)), (7, some (.b ⟨[[.ro false 1 (l.map eI)]], 1, 77, true⟩)), (8, some (.b ⟨[[.v (.int .i64 7), .v (.int .i64 w), .ro false 1 (ins.map eI), .v (.int .i64 a), .v (.int .i64 b)]], 5, 25, true⟩)), (9, some (.b ⟨[[.fn 140 []]], 1, 166, true⟩)), (10, none), (11, some (.b ⟨[[.fn 139 []]], 1, 167, true⟩)), (12, some (.l lb)), (13, some (.b ⟨[[.v (.int .i64 q.2.1), .v (.int .i64 q.2.2.1)]], 2, 41, true⟩)), (14, (gB 1 2 (q.2.2.2.map cI)).map Z.Ob.b)], 15⟩ : Z.S)) (fun q => q.1 ≤ l.length ∧ ((q.2.1, q.2.2.1), q.2.2.2) = fs 7 a b (c, s) (l.take q.1) ∧ (0 ≤ q.2.1 ∧ q.2.1 ≤ 9223372036854775807) ∧ ∀ j, j < q.1 → (fs 7 a b (c, s) (l.take j)).1.1 ≠ 9223372036854775807) (fun q => l.length - q.1) (0, c, s, []) ⟨Nat.zero_le _, rfl, hc, fun j hj => absurd hj (Nat.not_lt_zero _)⟩ (Z.Stp.trans (Z.Stp.cells 3 _ [[.gsl 77 []]] rfl (Nat.le_of_ble_eq_true rfl) ⟨⟨Z.Imp.nilg 77, trivial⟩, trivial⟩) (Z.Wk.stp (l := [0, 1, 2, 3, 4, 5, 6, 7, 8, 9, 10, 11, 12, 13, 77]) ⟨rfl, by decide, rfl, (Nat.le_of_ble_eq_true rfl), ⟨rfl, rfl, rfl, rfl, rfl, rfl, trivial⟩, ⟨fun b hb => (by cases hb; rfl), fun b hb => (by cases hb; rfl), fun b hb => (by cases hb; rfl), fun b hb => (by cases hb; rfl), fun b hb => (by cases hb; rfl), fun b hb => (by cases hb; rfl), fun b hb => (by cases hb; rfl), fun b hb => (by cases hb; rfl), fun b hb => (by cases hb; rfl), fun b hb => (by cases hb; rfl), fun b hb => (by cases hb), fun b hb => (by cases hb; rfl), fun b hb => (by cases hb; (try subst hlb); rfl), fun b hb => (by cases hb; rfl), fun b hb => (by cases hb), trivial⟩⟩)) ?_
  rintro ⟨i, c1, s1, acc⟩ ⟨hi, hq, hb1, hno⟩
  dsimp only at hi hq hb1 hno ⊢
  have hal : acc.length ≤ 40 := by
    have := fs_len (t := 7) (a := a) (b := b) (l.take i) (c := (c, s))
    rw [← hq, List.length_take] at this; dsimp only at this; omega
  repeat' ((conv => whnf); first
    | ((with_reducible apply spB_cong); (focus (simp only [beq_self_eq_true, bne_self_eq_false, Bool.true_bne, Bool.false_bne, Bool.bne_true, Bool.bne_false, Bool.true_beq, Bool.false_beq, Bool.not_true, Bool.not_false, Bool.not_not, Int.reduceBEq, Int.reduceBNe, Int.reduceLE, Int.reduceLT, Int.reduceEq, decide_true, decide_false]; rfl)))
    | with_reducible first | refine spB_no (by decide) ?_
    | (with_reducible refine spB_dec ?_ ?_ <;> intro _ <;> (try (exfalso; first | contradiction | omega | (rename_i hz; with_reducible exact absurd rfl hz))))
    | (with_reducible refine spB_beq ?_ ?_ <;> intro _ <;> (try (exfalso; first | contradiction | omega | (rename_i hz; with_reducible exact absurd rfl hz))))
    | ((with_reducible refine posE_pos ?_ ?_); (focus ((try simp only [LN] at *) <;> omega)))
    | ((with_reducible apply ixN_litp); (focus (exact rfl)); (focus ((try simp only [LN] at *) <;> omega)))
    | ((with_reducible refine apdN.mk ?_ ?_ ?_ ?_ ?_ ?_); (focus (first | rfl)); (focus (first | exact one_all (by rfl))); (focus ((try simp only [LN] at *) <;> omega)); (focus ((try simp only [LN] at *) <;> omega)); (focus ((try simp only [LN] at *) <;> omega)))
    | with_reducible refine wr_i64 (by first | omega | (simp only [LN] at *; omega)) ?_
    | ((with_reducible refine rowN_map ?_ ?_); (focus ((try simp only [LN] at *) <;> omega)); intro x hx)
    | (with_reducible refine Z.callZ_in tabOk 9 Try.f139 _ Try.func139 (by kernel_rfl) rfl rfl rfl ?_)
    | ((with_reducible refine eqN_mk2 ?_ ?_); (focus (exact Z.kb_some rfl)))
    | ((with_reducible apply ex_and); exact rfl)
    | ((with_reducible refine Z.rngN.mk ?_); (try subst hlb))
    | ((with_reducible refine Z.CallZ.yl ?_); subst hlb; refine Z.yield_rule tabOk _ _ rfl rfl rfl rfl ?_)
    | with_reducible first | refine Z.drawZ_rule tabOk mixOk ?_ | refine Z.apZ_mk (by kernel_rfl) ?_)
  all_goals (try (conv => whnf))
  all_goals first
    | ((refine Z.rndK ((i + 1, c1, s1, acc ++ [x])) (fun s => [0, 1, 2, 3, 4, 5, 6, 7, 8, 9, 10, 11, 12, 13, s.idIn 3 0]) rfl rfl rfl rfl ?_ ?_ ?_ ?_); (focus (repeat' (first | exact trivial | exact rfl | apply And.intro))); (focus (repeat' (first | exact trivial | (intro b hb; cases hb; rfl) | (intro b hb; cases hb; rw [List.map_append]; rfl) | (intro b hb; cases hb; done) | exact Z.gB_sub' rfl (by first | rfl | (rw [List.map_append]; rfl) | simp only [List.map_append, List.map_cons, List.map_nil]) (ren_map fun _ => rfl) | apply And.intro))); (focus (refine ⟨by (try simp only [LN] at *); (try dsimp only); omega, ?_, ?_, ?_⟩; (focus (dsimp only; rw [fs_step hx, ← hq]; simp [stp])); (focus (dsimp only; omega)); exact no_step hno hq (by omega))); (try simp only [LN] at *); (try dsimp only); omega)
    | (refine ret0 _ rfl _ rfl (fun _ => rfl) rfl (.inl ⟨⟨i, by (try simp only [LN] at *) <;> omega, by rw [← hq]; (first | assumption)⟩, rfl, rfl, rfl⟩))
    | skip
  have hend : i = l.length := by (try simp only [LN] at *) <;> omega
  subst hend
  rw [List.take_length] at hq
  refine ret_stp (Stp.fzg 7 14 (acc.map cI) rfl 1 2 (by show Z.isB ((gB _ _ _).map Z.Ob.b) = _; exact Z.isB_map _) (acc.map eI) (by simp only [List.map_map]; rfl) (Nat.zero_le _)) ?_
  refine ret0 _ rfl _ rfl (fun _ => rfl) rfl (.inr ⟨hno, ?_, rfl, rfl⟩)
  rw [← hq]; rfl
end Ops
end Go.Proofs.Ytehhmkdghgabaaa
namespace Go.Proofs.Ytehhmkdghgabaaa
open Go Go.RowKit Wx
set_option linter.unusedVariables false
set_option linter.unusedSimpArgs false
set_option maxHeartbeats 4000000
namespace Ops
theorem keeps_con (t w a b : Int) (ins : List Int)  : Con Try.prog 116 [.agg [.v (.int .i64 t), .v (.int .i64 w), .ro false 1 (ins.map eI), .v (.int .i64 a), .v (.int .i64 b)]] (fun rx rK rt => rx = .val (.bool (decide (t = 4 ∨ t = 5))) ∧ rK = [] ∧ rt = 0) := by
  refine con_of tabOk 11 Try.f116 _ Try.func116 (by kernel_rfl) rfl rfl rfl rfl (fun W => ?_)
  repeat' ((conv => whnf); first
    | with_reducible first | refine spB_t ?_
    | with_reducible first | refine spB_no (by decide) ?_
    | (with_reducible refine spB_beq ?_ ?_ <;> intro _ <;> (try (exfalso; first | contradiction | omega | (rename_i hz; with_reducible exact absurd rfl hz)))))
  all_goals (try (conv => whnf))
  all_goals refine ret0 _ rfl _ rfl (fun _ => rfl) rfl ⟨?_, rfl, rfl⟩
  all_goals (refine rv_bool ?_; first | (exact bool_t (by omega)) | (exact bool_f (by omega)) | (exact bool_p (by omega)))
theorem drop_cons8 {α : Type} {l : List α} {i : Nat} {x : α} (h : l[i]? = some x) : l.drop i = x :: l.drop (i + 1) := by
  have hlt := (List.getElem?_eq_some_iff.1 h).1
  rw [List.drop_eq_getElem_cons hlt, (List.getElem?_eq_some_iff.1 h).2]
theorem rising_con (l : List Int) (lim : Int) (hl : l.length ≤ 9223372036854775807) : Con Try.prog 92 [.one (.ro false 1 (l.map eI)), .one (.v (.int .i64 lim))] (fun rx rK rt => rx = .val (.bool (ris lim (-1) l)) ∧ rK = [] ∧ rt = 0) := by
  refine con_of tabOk 24 Try.f92 _ Try.func92 (by kernel_rfl) rfl rfl rfl rfl (fun W => ?_)
  repeat' ((conv => whnf); first
    | with_reducible first | refine spB_t ?_)
  all_goals (try (conv => whnf))
  refine loop_rule tabOk (fun q : Nat × Int => ⟨[(10, .val (.int .i64 (q.1 : Int))), (9, .val (.int .i64 ((l.map eI).length : Nat))), (8, .c (.ro false 1 (l.map eI))), (5, .val (.int .i64 q.2)), (1, .val (.int .i64 lim))], [], 0⟩) (fun q => q.1 ≤ l.length ∧ ris lim (-1) l = ris lim q.2 (l.drop q.1)) (fun q => l.length - q.1) (0, -1) ⟨Nat.zero_le _, rfl⟩ (Wk.stp (l := []) ⟨rfl, by decide, rfl, Nat.zero_le _, ⟨rfl, rfl, rfl, rfl, rfl, trivial⟩, trivial⟩) ?_
  rintro ⟨i, last⟩ ⟨hi, hr⟩
  dsimp only at hi hr ⊢
  repeat' ((conv => whnf); first
    | with_reducible first | refine spB_t ?_
    | with_reducible first | refine spB_no (by decide) ?_
    | (with_reducible refine spB_dec ?_ ?_ <;> intro _ <;> (try (exfalso; first | contradiction | omega | (rename_i hz; with_reducible exact absurd rfl hz))))
    | ((with_reducible apply ixN_litp); (focus (exact rfl)); (focus ((try simp only [LN] at *) <;> omega)))
    | with_reducible refine wr_i64 (by first | omega | (simp only [LN] at *; omega)) ?_
    | ((with_reducible refine rowN_map ?_ ?_); (focus ((try simp only [LN] at *) <;> omega)); intro x hx))
  all_goals (try (conv => whnf))
  all_goals first
    | (refine ⟨⟨(i + 1, x), ⟨by (try simp only [LN] at *) <;> omega, ?_⟩, by (try simp only [List.length_map] at *); (try dsimp only); omega, (Wk.stp (l := []) ⟨rfl, by decide, rfl, Nat.zero_le _, ⟨rfl, rfl, rfl, rfl, rfl, trivial⟩, trivial⟩)⟩⟩
       dsimp only; rw [hr, drop_cons8 hx, ris, decide_eq_true (by omega), Bool.true_and])
    | (refine ret0 _ rfl _ rfl (fun _ => rfl) rfl ⟨?_, rfl, rfl⟩; refine rv_bool ?_; rw [hr, drop_cons8 hx, ris, decide_eq_false (by omega), Bool.false_and])
    | (refine ret0 _ rfl _ rfl (fun _ => rfl) rfl ⟨?_, rfl, rfl⟩; refine rv_bool ?_; rw [hr, List.drop_eq_nil_of_le (by (try simp only [LN] at *) <;> omega)]; rfl)
    | (fail)
theorem okO_e {x : Bool} {p q : Prop} [Decidable p] [Decidable q] (h : x = true ↔ p ∧ q) : x = (decide p && decide q) := by
  rw [Bool.eq_iff_iff, h, Bool.and_eq_true, decide_eq_true_eq, decide_eq_true_eq]
theorem okO_f {p q : Prop} [Decidable p] [Decidable q] (h : ¬ (p ∧ q)) : false = (decide p && decide q) := by
  cases hh : (decide p && decide q) with
  | false => rfl
  | true => simp only [Bool.and_eq_true, decide_eq_true_eq] at hh; exact absurd hh h
theorem alone_t (t w a b : Int) (ins : List Int) (hl : ins.length ≤ 9223372036854775807) (hr : ris 8 (-1) ins = true) : Con Try.prog 52 [.agg [.v (.int .i64 t), .v (.int .i64 w), .ro false 1 (ins.map eI), .v (.int .i64 a), .v (.int .i64 b)], .one (.v (.int .i64 8))] (fun rx rK rt => rx = .val (.bool (okO t w ins a b)) ∧ rK = [] ∧ rt = 0) := by
  refine con_of tabOk 118 Try.f52 _ Try.func52 (by kernel_rfl) rfl rfl rfl rfl (fun W => ?_)
  have c1 := rising_con ins 8 hl; rw [hr] at c1
  repeat' ((conv => whnf); first
    | with_reducible first | refine spB_t ?_
    | ((with_reducible apply spB_cong); (focus (simp only [beq_self_eq_true, bne_self_eq_false, Bool.true_bne, Bool.false_bne, Bool.bne_true, Bool.bne_false, Bool.true_beq, Bool.false_beq, Bool.not_true, Bool.not_false, Bool.not_not, Int.reduceBEq, Int.reduceBNe, Int.reduceLE, Int.reduceLT, Int.reduceEq, decide_true, decide_false]; rfl)))
    | with_reducible first | refine spB_no (by decide) ?_
    | (with_reducible refine spB_dec ?_ ?_ <;> intro _ <;> (try (exfalso; first | contradiction | omega | (rename_i hz; with_reducible exact absurd rfl hz))))
    | (with_reducible refine spB_beq ?_ ?_ <;> intro _ <;> (try (exfalso; first | contradiction | omega | (rename_i hz; with_reducible exact absurd rfl hz))))
    | ((with_reducible apply call_con2 ?_ (c1) ?_);(first | (focus exact ⟨rfl, rfl, trivial⟩)); rintro _ _ _ ⟨rfl, rfl, rfl⟩))
  all_goals (try (conv => whnf))
  all_goals refine ret0 _ rfl _ rfl (fun _ => rfl) rfl ⟨?_, rfl, rfl⟩
  all_goals (refine rv_bool ?_; unfold okO; rw [hr]; simp only [Bool.and_true, Bool.and_false, Bool.false_and] <;> first | exact okO_t (by omega) (by unfold tagP; (try simp only [LN] at *) <;> omega) | exact okO_f (by unfold tagP; (try simp only [LN] at *) <;> omega) | rfl | (refine okO_e ?_; simp only [beq_iff_eq, decide_eq_true_eq, List.length_map]; unfold tagP; (try simp only [LN] at *) <;> omega) | (fail))
theorem alone_f (t w a b : Int) (ins : List Int) (hl : ins.length ≤ 9223372036854775807) (hr : ris 8 (-1) ins = false) : Con Try.prog 52 [.agg [.v (.int .i64 t), .v (.int .i64 w), .ro false 1 (ins.map eI), .v (.int .i64 a), .v (.int .i64 b)], .one (.v (.int .i64 8))] (fun rx rK rt => rx = .val (.bool (okO t w ins a b)) ∧ rK = [] ∧ rt = 0) := by
  refine con_of tabOk 118 Try.f52 _ Try.func52 (by kernel_rfl) rfl rfl rfl rfl (fun W => ?_)
  have c1 := rising_con ins 8 hl; rw [hr] at c1
  repeat' ((conv => whnf); first
    | with_reducible first | refine spB_t ?_
    | ((with_reducible apply spB_cong); (focus (simp only [beq_self_eq_true, bne_self_eq_false, Bool.true_bne, Bool.false_bne, Bool.bne_true, Bool.bne_false, Bool.true_beq, Bool.false_beq, Bool.not_true, Bool.not_false, Bool.not_not, Int.reduceBEq, Int.reduceBNe, Int.reduceLE, Int.reduceLT, Int.reduceEq, decide_true, decide_false]; rfl)))
    | with_reducible first | refine spB_no (by decide) ?_
    | (with_reducible refine spB_dec ?_ ?_ <;> intro _ <;> (try (exfalso; first | contradiction | omega | (rename_i hz; with_reducible exact absurd rfl hz))))
    | ((with_reducible apply call_con2 ?_ (c1) ?_);(first | (focus exact ⟨rfl, rfl, trivial⟩)); rintro _ _ _ ⟨rfl, rfl, rfl⟩))
  all_goals (try (conv => whnf))
  all_goals refine ret0 _ rfl _ rfl (fun _ => rfl) rfl ⟨?_, rfl, rfl⟩
  all_goals (refine rv_bool ?_; unfold okO; rw [hr]; simp only [Bool.and_true, Bool.and_false, Bool.false_and] <;> first | exact okO_t (by omega) (by unfold tagP; (try simp only [LN] at *) <;> omega) | exact okO_f (by unfold tagP; (try simp only [LN] at *) <;> omega) | rfl | (refine okO_e ?_; simp only [beq_iff_eq, decide_eq_true_eq, List.length_map]; unfold tagP; (try simp only [LN] at *) <;> omega) | (fail))
theorem alone_con (t w a b : Int) (ins : List Int) (hl : ins.length ≤ 9223372036854775807) : Con Try.prog 52 [.agg [.v (.int .i64 t), .v (.int .i64 w), .ro false 1 (ins.map eI), .v (.int .i64 a), .v (.int .i64 b)], .one (.v (.int .i64 8))] (fun rx rK rt => rx = .val (.bool (okO t w ins a b)) ∧ rK = [] ∧ rt = 0) := by
  cases hr : ris 8 (-1) ins with
  | true => exact alone_t t w a b ins hl hr
  | false => exact alone_f t w a b ins hl hr
end Ops
end Go.Proofs.Ytehhmkdghgabaaa
namespace Go.Proofs.Ytehhmkdghgabaaa
open Go Go.RowKit Wx
set_option linter.unusedVariables false
set_option linter.unusedSimpArgs false
set_option maxHeartbeats 4000000
namespace Ops
end Ops
end Go.Proofs.Ytehhmkdghgabaaa
namespace Go.Proofs.Ytehhmkdghgabaaa
open Go Go.RowKit Wx
set_option linter.unusedVariables false
set_option linter.unusedSimpArgs false
set_option maxHeartbeats 4000000
namespace Ops
theorem may_con (t w a b : Int) (ins : List Int) (hl : ins.length ≤ 9223372036854775807) : Con Try.prog 94 [.agg [.v (.int .i64 t), .v (.int .i64 w), .ro false 1 (ins.map eI), .v (.int .i64 a), .v (.int .i64 b)]] (fun rx rK rt => rx = .val (.bool (okO t w ins a b)) ∧ rK = [] ∧ rt = 0) := by
  refine con_of tabOk 5 Try.f94 _ Try.func94 (by kernel_rfl) rfl rfl rfl rfl (fun W => ?_)
  repeat' ((conv => whnf); first
    | ((with_reducible apply call_con2 ?_ (alone_con _ _ _ _ _ hl) ?_);(first | (rotate_left 4; (focus exact ⟨⟨rfl, rfl, rfl, rfl, rfl, trivial⟩, rfl, trivial⟩))); rintro _ _ _ ⟨rfl, rfl, rfl⟩))
  all_goals (try (conv => whnf))
  all_goals refine ret0 _ rfl _ rfl (fun _ => rfl) rfl ⟨?_, rfl, rfl⟩
  all_goals rfl
theorem bool_e {x : Bool} {p : Prop} [Decidable p] (h : x = true ↔ p) : x = decide p := by rw [Bool.eq_iff_iff, h, decide_eq_true_eq]
theorem fits_con (t w a b c s : Int) (ins : List Int)  : Con Try.prog 95 [.agg [.v (.int .i64 t), .v (.int .i64 w), .ro false 1 (ins.map eI), .v (.int .i64 a), .v (.int .i64 b)], .agg [.v (.int .i64 c), .v (.int .i64 s)]] (fun rx rK rt => rx = .val (.bool (decide (fitP t a (c, s)))) ∧ rK = [] ∧ rt = 0) := by
  refine con_of tabOk 31 Try.f95 _ Try.func95 (by kernel_rfl) rfl rfl rfl rfl (fun W => ?_)
  repeat' ((conv => whnf); first
    | with_reducible first | refine spB_t ?_
    | with_reducible first | refine spB_no (by decide) ?_ | refine spB_not ?_
    | (with_reducible refine spB_dec ?_ ?_ <;> intro _ <;> (try (exfalso; first | contradiction | omega | (rename_i hz; with_reducible exact absurd rfl hz))))
    | (with_reducible refine spB_beq ?_ ?_ <;> intro _ <;> (try (exfalso; first | contradiction | omega | (rename_i hz; with_reducible exact absurd rfl hz))))
    | ((with_reducible apply call_con2 ?_ (keeps_con _ _ _ _ _) ?_);(first | (rotate_left 5; (focus exact ⟨⟨rfl, rfl, rfl, rfl, rfl, trivial⟩, trivial⟩))); rintro _ _ _ ⟨rfl, rfl, rfl⟩))
  all_goals (try (conv => whnf))
  all_goals refine ret0 _ rfl _ rfl (fun _ => rfl) rfl ⟨?_, rfl, rfl⟩
  all_goals (refine rv_bool ?_; first | exact bool_t (by unfold fitP; split <;> omega) | exact bool_f (by unfold fitP; split <;> omega) | (refine bool_e ?_; simp only [Bool.and_true, beq_iff_eq, bne_iff_ne, Bool.and_eq_true, decide_eq_true_eq]; unfold fitP; split <;> omega) | (fail))
end Ops
end Go.Proofs.Ytehhmkdghgabaaa
namespace Go.Proofs.Ytehhmkdghgabaaa
open Go Go.RowKit Wx
set_option linter.unusedVariables false
set_option linter.unusedSimpArgs false
set_option maxHeartbeats 4000000
namespace Ops
theorem con_mono {P : Program} {g : FuncId} {args : List A0} {p q : AV → Kr → Nat → Prop} (h : Con P g args p) (hh : ∀ x K t, p x K t → q x K t) : Con P g args q := ⟨h.fn, fun w vs hv => (h.run w vs hv).mono fun e w2 ⟨v, x, Kc, tc, I, Rf, h1, h2, h3, h4, h5, h6⟩ => ⟨v, x, Kc, tc, I, Rf, h1, h2, h3, h4, h5, hh _ _ _ h6⟩⟩
theorem con_to {P : Program} {g : FuncId} {args : List A0} {X X' : AV} {K : Kr} {t : Nat} (h : Con P g args (fun rx rK rt => rx = X ∧ rK = K ∧ rt = t)) (hx : ∀ I R v, X.rel I R v → X'.rel I R v) : Con P g args (fun rx rK rt => rx = X' ∧ rK = K ∧ rt = t) :=
  ⟨h.fn, fun w vs hv => (h.run w vs hv).mono fun e w2 ⟨v, x, Kc, tc, I, Rf, h1, h2, h3, h4, h5, h6, h7, h8⟩ => ⟨v, X', Kc, tc, I, Rf, h1, h2, h3, h4, hx _ _ _ (h6 ▸ h5), rfl, h7, h8⟩⟩
theorem nil_ro {a e : A0} {I : IM} {R : RM} {v : Value} (h : (AV.tup [a, .one (.v (.slice none 0 0)), e]).rel I R v) : (AV.tup [a, .one (.ro true 1 []), e]).rel I R v := by
  obtain ⟨vs, h1, h2⟩ := h
  cases vs with
  | nil => exact h2.elim
  | cons x vs => cases vs with
    | nil => exact h2.2.elim
    | cons y vs =>
      refine ⟨_, h1, h2.1, ?_, h2.2.2⟩
      have : y = .slice none 0 0 := h2.2.1
      subst this
      exact Rd.nil 1
def fullB (t a b : Int) : Int × Int → List Int → Bool
  | _, [] => false
  | c, v :: r => decide (c.1 = 9223372036854775807) || fullB t a b (stp t a b c v).1 r
theorem full_t {t a b : Int} : ∀ {l : List Int} {c : Int × Int}, (∃ j, j < l.length ∧ (fs t a b c (l.take j)).1.1 = 9223372036854775807) → fullB t a b c l = true
  | [], _, ⟨j, h, _⟩ => absurd h (Nat.not_lt_zero _)
  | v :: r, c, ⟨0, _, h2⟩ => by unfold fullB; rw [decide_eq_true (by simpa [fs] using h2)]; rfl
  | v :: r, c, ⟨j + 1, h1, h2⟩ => by
    unfold fullB
    rw [full_t (l := r) ⟨j, by simpa using h1, by rw [List.take_succ_cons, fs_cons] at h2; exact h2⟩, Bool.or_true]
theorem full_f {t a b : Int} : ∀ {l : List Int} {c : Int × Int}, (∀ j, j < l.length → (fs t a b c (l.take j)).1.1 ≠ 9223372036854775807) → fullB t a b c l = false
  | [], _, _ => rfl
  | v :: r, c, h => by
    unfold fullB
    rw [decide_eq_false (by have := h 0 (by simp); simpa [fs] using this), full_f (l := r) (fun j hj => by have := h (j + 1) (by simpa using hj); rw [List.take_succ_cons, fs_cons] at this; exact this)]; rfl
def runG (t a b c s : Int) (l : List Int) : (Int × Int) × List Int × Int := if fullB t a b (c, s) l = true then ((0, 0), [], 6) else ((fs t a b (c, s) l).1, (fs t a b (c, s) l).2, 0)
def runF (t w : Int) (ins : List Int) (a b c s : Int) (l : List Int) : (Int × Int) × List Int × Int :=
  if 40 < l.length then ((0, 0), [], 3) else if okO t w ins a b = false then ((0, 0), [], 180) else if ¬ fitP t a (c, s) then ((0, 0), [], 181) else runG t a b c s l
theorem okO_tag {t w a b : Int} {ins : List Int} (h : okO t w ins a b = true) : tagP t ins.length a b := by
  unfold okO at h; simp only [Bool.and_eq_true, decide_eq_true_eq] at h; exact h.2
theorem rung_con (t w a b c s : Int) (ins : List Int) (l : List Int) (hok : okO t w ins a b = true) (hf : fitP t a (c, s)) (hc : c ≤ 9223372036854775807) (hl : l.length ≤ 40) : Con Try.prog 89 [.agg [.v (.int .i64 t), .v (.int .i64 w), .ro false 1 (ins.map eI), .v (.int .i64 a), .v (.int .i64 b)], .agg [.v (.int .i64 c), .v (.int .i64 s)], .one (.ro false 1 (l.map eI))] (fun rx rK rt => rx = .tup [.agg [.v (.int .i64 (runG t a b c s l).1.1), .v (.int .i64 (runG t a b c s l).1.2)], .one (.ro true 1 ((runG t a b c s l).2.1.map eI)), .one (.v (.int .i64 (runG t a b c s l).2.2))] ∧ rK = [] ∧ rt = 0) := by
  have ht := okO_tag hok
  have h0 := (fit_low ht hf).1
  cases hfu : fullB t a b (c, s) l with
  | true =>
    have hr : runG t a b c s l = ((0, 0), [], 6) := by unfold runG; rw [if_pos hfu]
    rw [hr]
    refine con_to (X := .tup [.agg [.v (.int .i64 0), .v (.int .i64 0)], .one (.v (.slice none 0 0)), .one (.v (.int .i64 6))]) ?_ (fun I R v h => nil_ro h)
    rcases ht with ⟨rfl, _⟩ | ⟨rfl, _⟩ | ⟨rfl, _⟩ | ⟨rfl | rfl, _⟩ | ⟨rfl, _⟩ | ⟨rfl, _⟩
    · exact con_mono (run1_con w ins a b c s l ⟨h0, hc⟩ hl) (fun rx rK rt h => h.elim (fun h => h.2) (fun h => by have := full_f h.1; rw [hfu] at this; cases this))
    · exact con_mono (run2_con w ins a b c s l ⟨h0, hc⟩ hl) (fun rx rK rt h => h.elim (fun h => h.2) (fun h => by have := full_f h.1; rw [hfu] at this; cases this))
    · exact con_mono (run3_con w ins a b c s l ⟨h0, hc⟩ hl) (fun rx rK rt h => h.elim (fun h => h.2) (fun h => by have := full_f h.1; rw [hfu] at this; cases this))
    · exact con_mono (run4_con w ins a b c s l ⟨h0, hc⟩ hl) (fun rx rK rt h => h.elim (fun h => h.2) (fun h => by have := full_f h.1; rw [hfu] at this; cases this))
    · exact con_mono (run7_con w ins a b c s l ⟨h0, hc⟩ hl) (fun rx rK rt h => h.elim (fun h => h.2) (fun h => by have := full_f h.1; rw [hfu] at this; cases this))
    · exact con_mono (run5_con w ins a b c s l ⟨h0, hc⟩ hl) (fun rx rK rt h => h.elim (fun h => h.2) (fun h => by have := full_f h.1; rw [hfu] at this; cases this))
    · exact con_mono (run6_con w ins a b c s l ⟨h0, hc⟩ hl) (fun rx rK rt h => h.elim (fun h => h.2) (fun h => by have := full_f h.1; rw [hfu] at this; cases this))
  | false =>
    have hr : runG t a b c s l = ((fs t a b (c, s) l).1, (fs t a b (c, s) l).2, 0) := by unfold runG; rw [if_neg (by rw [hfu]; simp)]
    rw [hr]
    rcases ht with ⟨rfl, _⟩ | ⟨rfl, _⟩ | ⟨rfl, _⟩ | ⟨rfl | rfl, _⟩ | ⟨rfl, _⟩ | ⟨rfl, _⟩
    · exact con_mono (run1_con w ins a b c s l ⟨h0, hc⟩ hl) (fun rx rK rt h => h.elim (fun h => by have := full_t h.1; rw [hfu] at this; cases this) (fun h => h.2))
    · exact con_mono (run2_con w ins a b c s l ⟨h0, hc⟩ hl) (fun rx rK rt h => h.elim (fun h => by have := full_t h.1; rw [hfu] at this; cases this) (fun h => h.2))
    · exact con_mono (run3_con w ins a b c s l ⟨h0, hc⟩ hl) (fun rx rK rt h => h.elim (fun h => by have := full_t h.1; rw [hfu] at this; cases this) (fun h => h.2))
    · exact con_mono (run4_con w ins a b c s l ⟨h0, hc⟩ hl) (fun rx rK rt h => h.elim (fun h => by have := full_t h.1; rw [hfu] at this; cases this) (fun h => h.2))
    · exact con_mono (run7_con w ins a b c s l ⟨h0, hc⟩ hl) (fun rx rK rt h => h.elim (fun h => by have := full_t h.1; rw [hfu] at this; cases this) (fun h => h.2))
    · exact con_mono (run5_con w ins a b c s l ⟨h0, hc⟩ hl) (fun rx rK rt h => h.elim (fun h => by have := full_t h.1; rw [hfu] at this; cases this) (fun h => h.2))
    · exact con_mono (run6_con w ins a b c s l ⟨h0, hc⟩ hl) (fun rx rK rt h => h.elim (fun h => by have := full_t h.1; rw [hfu] at this; cases this) (fun h => h.2))
theorem check_con (t w a b c s : Int) (ins : List Int) (hi : ins.length ≤ 9223372036854775807) : Con Try.prog 88 [.agg [.v (.int .i64 t), .v (.int .i64 w), .ro false 1 (ins.map eI), .v (.int .i64 a), .v (.int .i64 b)], .agg [.v (.int .i64 c), .v (.int .i64 s)]] (fun rx rK rt => rx = .val (.int .i64 (if okO t w ins a b = false then 180 else if ¬ fitP t a (c, s) then 181 else 0)) ∧ rK = [] ∧ rt = 0) := by
  have c1 := may_con t w a b ins hi
  have c2 := fits_con t w a b c s ins
  cases hok : okO t w ins a b <;> by_cases hf : fitP t a (c, s)
  · rw [hok] at c1; simp only [decide_eq_true hf] at c2
    refine con_of tabOk 14 Try.f88 _ Try.func88 (by kernel_rfl) rfl rfl rfl rfl (fun W => ?_)
    repeat' ((conv => whnf); first
      | with_reducible first | refine spB_t ?_
      | ((with_reducible apply spB_cong); (focus (simp only [beq_self_eq_true, bne_self_eq_false, Bool.true_bne, Bool.false_bne, Bool.bne_true, Bool.bne_false, Bool.true_beq, Bool.false_beq, Bool.not_true, Bool.not_false, Bool.not_not, Int.reduceBEq, Int.reduceBNe, Int.reduceLE, Int.reduceLT, Int.reduceEq, decide_true, decide_false]; rfl)))
      | ((with_reducible apply call_con2 ?_ (c1) ?_);(first | (focus exact ⟨⟨rfl, rfl, rfl, rfl, rfl, trivial⟩, trivial⟩)); rintro _ _ _ ⟨rfl, rfl, rfl⟩))
    all_goals (try (conv => whnf))
    all_goals refine ret0 _ rfl _ rfl (fun _ => rfl) rfl ⟨?_, rfl, rfl⟩
    all_goals (refine rv_int ?_; simp [hf])
  · rw [hok] at c1; simp only [decide_eq_false hf] at c2
    refine con_of tabOk 14 Try.f88 _ Try.func88 (by kernel_rfl) rfl rfl rfl rfl (fun W => ?_)
    repeat' ((conv => whnf); first
      | with_reducible first | refine spB_t ?_
      | ((with_reducible apply spB_cong); (focus (simp only [beq_self_eq_true, bne_self_eq_false, Bool.true_bne, Bool.false_bne, Bool.bne_true, Bool.bne_false, Bool.true_beq, Bool.false_beq, Bool.not_true, Bool.not_false, Bool.not_not, Int.reduceBEq, Int.reduceBNe, Int.reduceLE, Int.reduceLT, Int.reduceEq, decide_true, decide_false]; rfl)))
      | ((with_reducible apply call_con2 ?_ (c1) ?_);(first | (focus exact ⟨⟨rfl, rfl, rfl, rfl, rfl, trivial⟩, trivial⟩)); rintro _ _ _ ⟨rfl, rfl, rfl⟩))
    all_goals (try (conv => whnf))
    all_goals refine ret0 _ rfl _ rfl (fun _ => rfl) rfl ⟨?_, rfl, rfl⟩
    all_goals (refine rv_int ?_; simp [hf])
  · rw [hok] at c1; simp only [decide_eq_true hf] at c2
    refine con_of tabOk 14 Try.f88 _ Try.func88 (by kernel_rfl) rfl rfl rfl rfl (fun W => ?_)
    repeat' ((conv => whnf); first
      | ((with_reducible apply spB_cong); (focus (simp only [beq_self_eq_true, bne_self_eq_false, Bool.true_bne, Bool.false_bne, Bool.bne_true, Bool.bne_false, Bool.true_beq, Bool.false_beq, Bool.not_true, Bool.not_false, Bool.not_not, Int.reduceBEq, Int.reduceBNe, Int.reduceLE, Int.reduceLT, Int.reduceEq, decide_true, decide_false]; rfl)))
      | with_reducible first | refine spB_no (by decide) ?_
      | ((with_reducible apply call_con2 ?_ (c1) ?_);(first | (focus exact ⟨⟨rfl, rfl, rfl, rfl, rfl, trivial⟩, trivial⟩)); rintro _ _ _ ⟨rfl, rfl, rfl⟩)
      | ((with_reducible apply call_con2 ?_ (c2) ?_);(first | (focus exact ⟨⟨rfl, rfl, rfl, rfl, rfl, trivial⟩, ⟨rfl, rfl, trivial⟩, trivial⟩)); rintro _ _ _ ⟨rfl, rfl, rfl⟩))
    all_goals (try (conv => whnf))
    all_goals refine ret0 _ rfl _ rfl (fun _ => rfl) rfl ⟨?_, rfl, rfl⟩
    all_goals (refine rv_int ?_; simp [hf])
  · rw [hok] at c1; simp only [decide_eq_false hf] at c2
    refine con_of tabOk 14 Try.f88 _ Try.func88 (by kernel_rfl) rfl rfl rfl rfl (fun W => ?_)
    repeat' ((conv => whnf); first
      | with_reducible first | refine spB_t ?_
      | ((with_reducible apply spB_cong); (focus (simp only [beq_self_eq_true, bne_self_eq_false, Bool.true_bne, Bool.false_bne, Bool.bne_true, Bool.bne_false, Bool.true_beq, Bool.false_beq, Bool.not_true, Bool.not_false, Bool.not_not, Int.reduceBEq, Int.reduceBNe, Int.reduceLE, Int.reduceLT, Int.reduceEq, decide_true, decide_false]; rfl)))
      | with_reducible first | refine spB_no (by decide) ?_
      | ((with_reducible apply call_con2 ?_ (c1) ?_);(first | (focus exact ⟨⟨rfl, rfl, rfl, rfl, rfl, trivial⟩, trivial⟩)); rintro _ _ _ ⟨rfl, rfl, rfl⟩)
      | ((with_reducible apply call_con2 ?_ (c2) ?_);(first | (focus exact ⟨⟨rfl, rfl, rfl, rfl, rfl, trivial⟩, ⟨rfl, rfl, trivial⟩, trivial⟩)); rintro _ _ _ ⟨rfl, rfl, rfl⟩))
    all_goals (try (conv => whnf))
    all_goals refine ret0 _ rfl _ rfl (fun _ => rfl) rfl ⟨?_, rfl, rfl⟩
    all_goals (refine rv_int ?_; simp [hf])
end Ops
end Go.Proofs.Ytehhmkdghgabaaa
namespace Go.Proofs.Ytehhmkdghgabaaa
open Go Go.RowKit Wx
set_option linter.unusedVariables false
set_option linter.unusedSimpArgs false
set_option maxHeartbeats 4000000
namespace Ops
theorem Run_con (t w a b c s : Int) (ins : List Int) (l : List Int) (hi : ins.length ≤ 9223372036854775807) (hc : c ≤ 9223372036854775807) (hl : l.length ≤ 9223372036854775807) : Con Try.prog 44 [.agg [.v (.int .i64 t), .v (.int .i64 w), .ro false 1 (ins.map eI), .v (.int .i64 a), .v (.int .i64 b)], .agg [.v (.int .i64 c), .v (.int .i64 s)], .one (.ro false 1 (l.map eI))] (fun rx rK rt => rx = .tup [.agg [.v (.int .i64 (runF t w ins a b c s l).1.1), .v (.int .i64 (runF t w ins a b c s l).1.2)], .one (.ro true 1 ((runF t w ins a b c s l).2.1.map eI)), .one (.v (.int .i64 (runF t w ins a b c s l).2.2))] ∧ rK = [] ∧ rt = 0) := by
  have c1 := check_con t w a b c s ins hi
  by_cases h40 : 40 < l.length
  · rw [show runF t w ins a b c s l = ((0, 0), [], 3) by unfold runF; rw [if_pos h40]]
    refine con_to (X := .tup [.agg [.v (.int .i64 0), .v (.int .i64 0)], .one (.v (.slice none 0 0)), .one (.v (.int .i64 3))]) ?_ (fun I R v h => nil_ro h)
    refine con_of tabOk 28 Try.f44 _ Try.func44 (by kernel_rfl) rfl rfl rfl rfl (fun W => ?_)
    repeat' ((conv => whnf); first
      | (with_reducible refine spB_dec ?_ ?_ <;> intro _ <;> (try (exfalso; first | contradiction | omega | (rename_i hz; with_reducible exact absurd rfl hz))))
      | (with_reducible refine spB_bne ?_ ?_ <;> intro _ <;> (try (exfalso; first | contradiction | omega | (rename_i hz; with_reducible exact absurd rfl hz))))
      | ((with_reducible apply call_con2 ?_ (c1) ?_);(first | (focus exact ⟨⟨rfl, rfl, rfl, rfl, rfl, trivial⟩, ⟨rfl, rfl, trivial⟩, trivial⟩)); rintro _ _ _ ⟨rfl, rfl, rfl⟩))
    all_goals (try (conv => whnf))
    all_goals first | (refine ret0 _ rfl _ rfl (fun _ => rfl) rfl ⟨?_, rfl, rfl⟩; rfl) | (exfalso; (try simp only [LN] at *) <;> omega) | (fail)
  by_cases hok : okO t w ins a b = false
  · rw [show runF t w ins a b c s l = ((0, 0), [], 180) by unfold runF; rw [if_neg h40, if_pos hok]]
    rw [if_pos hok] at c1
    refine con_to (X := .tup [.agg [.v (.int .i64 0), .v (.int .i64 0)], .one (.v (.slice none 0 0)), .one (.v (.int .i64 180))]) ?_ (fun I R v h => nil_ro h)
    refine con_of tabOk 28 Try.f44 _ Try.func44 (by kernel_rfl) rfl rfl rfl rfl (fun W => ?_)
    repeat' ((conv => whnf); first
      | with_reducible first | refine spB_t ?_
      | ((with_reducible apply spB_cong); (focus (simp only [beq_self_eq_true, bne_self_eq_false, Bool.true_bne, Bool.false_bne, Bool.bne_true, Bool.bne_false, Bool.true_beq, Bool.false_beq, Bool.not_true, Bool.not_false, Bool.not_not, Int.reduceBEq, Int.reduceBNe, Int.reduceLE, Int.reduceLT, Int.reduceEq, decide_true, decide_false]; rfl)))
      | (with_reducible refine spB_dec ?_ ?_ <;> intro _ <;> (try (exfalso; first | contradiction | omega | (rename_i hz; with_reducible exact absurd rfl hz))))
      | ((with_reducible apply call_con2 ?_ (c1) ?_);(first | (focus exact ⟨⟨rfl, rfl, rfl, rfl, rfl, trivial⟩, ⟨rfl, rfl, trivial⟩, trivial⟩)); rintro _ _ _ ⟨rfl, rfl, rfl⟩))
    all_goals (try (conv => whnf))
    all_goals first | (refine ret0 _ rfl _ rfl (fun _ => rfl) rfl ⟨?_, rfl, rfl⟩; rfl) | (exfalso; (try simp only [LN] at *) <;> omega) | (fail)
  by_cases hf : fitP t a (c, s)
  · have c2 := rung_con t w a b c s ins l (by simpa using hok) hf hc (by omega)
    rw [show runF t w ins a b c s l = runG t a b c s l by unfold runF; rw [if_neg h40, if_neg hok, if_neg (not_not_intro hf)]]
    rw [if_neg hok, if_neg (not_not_intro hf)] at c1
    refine con_of tabOk 28 Try.f44 _ Try.func44 (by kernel_rfl) rfl rfl rfl rfl (fun W => ?_)
    repeat' ((conv => whnf); first
      | ((with_reducible apply spB_cong); (focus (simp only [beq_self_eq_true, bne_self_eq_false, Bool.true_bne, Bool.false_bne, Bool.bne_true, Bool.bne_false, Bool.true_beq, Bool.false_beq, Bool.not_true, Bool.not_false, Bool.not_not, Int.reduceBEq, Int.reduceBNe, Int.reduceLE, Int.reduceLT, Int.reduceEq, decide_true, decide_false]; rfl)))
      | with_reducible first | refine spB_no (by decide) ?_
      | (with_reducible refine spB_dec ?_ ?_ <;> intro _ <;> (try (exfalso; first | contradiction | omega | (rename_i hz; with_reducible exact absurd rfl hz))))
      | ((with_reducible apply call_con2 ?_ (c1) ?_);(first | (focus exact ⟨⟨rfl, rfl, rfl, rfl, rfl, trivial⟩, ⟨rfl, rfl, trivial⟩, trivial⟩)); rintro _ _ _ ⟨rfl, rfl, rfl⟩)
      | ((with_reducible apply call_con2 ?_ (c2) ?_);(first | (focus exact ⟨⟨rfl, rfl, rfl, rfl, rfl, trivial⟩, ⟨rfl, rfl, trivial⟩, rfl, trivial⟩)); rintro _ _ _ ⟨rfl, rfl, rfl⟩))
    all_goals (try (conv => whnf))
    all_goals first | (refine ret0 _ rfl _ rfl (fun _ => rfl) rfl ⟨?_, rfl, rfl⟩; rfl) | (exfalso; (try simp only [LN] at *) <;> omega) | (fail)
  · rw [show runF t w ins a b c s l = ((0, 0), [], 181) by unfold runF; rw [if_neg h40, if_neg hok, if_pos hf]]
    rw [if_neg hok, if_pos hf] at c1
    refine con_to (X := .tup [.agg [.v (.int .i64 0), .v (.int .i64 0)], .one (.v (.slice none 0 0)), .one (.v (.int .i64 181))]) ?_ (fun I R v h => nil_ro h)
    refine con_of tabOk 28 Try.f44 _ Try.func44 (by kernel_rfl) rfl rfl rfl rfl (fun W => ?_)
    repeat' ((conv => whnf); first
      | with_reducible first | refine spB_t ?_
      | ((with_reducible apply spB_cong); (focus (simp only [beq_self_eq_true, bne_self_eq_false, Bool.true_bne, Bool.false_bne, Bool.bne_true, Bool.bne_false, Bool.true_beq, Bool.false_beq, Bool.not_true, Bool.not_false, Bool.not_not, Int.reduceBEq, Int.reduceBNe, Int.reduceLE, Int.reduceLT, Int.reduceEq, decide_true, decide_false]; rfl)))
      | (with_reducible refine spB_dec ?_ ?_ <;> intro _ <;> (try (exfalso; first | contradiction | omega | (rename_i hz; with_reducible exact absurd rfl hz))))
      | ((with_reducible apply call_con2 ?_ (c1) ?_);(first | (focus exact ⟨⟨rfl, rfl, rfl, rfl, rfl, trivial⟩, ⟨rfl, rfl, trivial⟩, trivial⟩)); rintro _ _ _ ⟨rfl, rfl, rfl⟩))
    all_goals (try (conv => whnf))
    all_goals first | (refine ret0 _ rfl _ rfl (fun _ => rfl) rfl ⟨?_, rfl, rfl⟩; rfl) | (exfalso; (try simp only [LN] at *) <;> omega) | (fail)
end Ops
end Go.Proofs.Ytehhmkdghgabaaa
namespace Go.Proofs.Ytehhmkdghgabaaa
open Go Go.RowKit Wx
set_option linter.unusedVariables false
set_option linter.unusedSimpArgs false
set_option maxHeartbeats 4000000
namespace Ops
def doF (t w : Int) (ins : List Int) (a b c s v : Int) : (Int × Int) × List Int × Int :=
  if okO t w ins a b = false then ((0, 0), [], 180) else if ¬ fitP t a (c, s) then ((0, 0), [], 181) else if c = 9223372036854775807 then ((0, 0), [], 6) else ((stp t a b (c, s) v).1, (stp t a b (c, s) v).2, 0)
end Ops
end Go.Proofs.Ytehhmkdghgabaaa
namespace Go.Proofs.Ytehhmkdghgabaaa
open Go Go.RowKit Wx
set_option linter.unusedVariables false
set_option linter.unusedSimpArgs false
set_option maxHeartbeats 4000000
namespace Ops
theorem run_one (t w a b c s v : Int) (ins : List Int) : runF t w ins a b c s [v] = doF t w ins a b c s v := by
  unfold runF doF runG fullB fullB
  rw [if_neg (by simp)]
  split
  · rfl
  · split
    · rfl
    · simp [fs]
theorem doF_len {t w a b c s v : Int} {ins : List Int} : (doF t w ins a b c s v).2.1.length ≤ 1 := by
  unfold doF
  repeat' split
  all_goals first | exact Nat.zero_le _ | exact out_len
theorem do_con (t w a b c s v : Int) (ins : List Int) (hi : ins.length ≤ 9223372036854775807) (hc : c ≤ 9223372036854775807) : Con Try.prog 102 [.agg [.v (.int .i64 t), .v (.int .i64 w), .ro false 1 (ins.map eI), .v (.int .i64 a), .v (.int .i64 b)], .agg [.v (.int .i64 c), .v (.int .i64 s)], .one (.v (.int .i64 v))] (fun rx rK rt => rx = .tup [.agg [.v (.int .i64 (doF t w ins a b c s v).1.1), .v (.int .i64 (doF t w ins a b c s v).1.2)], .one (.ro true 1 ((doF t w ins a b c s v).2.1.map eI)), .one (.v (.int .i64 (doF t w ins a b c s v).2.2))] ∧ rK = [] ∧ rt = 0) := by
  have c1 := Run_con t w a b c s ins [v] hi hc (by simp)
  rw [run_one] at c1
  refine con_of tabOk 17 Try.f102 _ Try.func102 (by kernel_rfl) rfl rfl rfl rfl (fun W => ?_)
  repeat' ((conv => whnf); first
    | ((with_reducible apply call_con2 ?_ (c1) ?_);(first | (focus exact ⟨⟨rfl, rfl, rfl, rfl, rfl, trivial⟩, ⟨rfl, rfl, trivial⟩, ⟨[eI v], rfl, rfl, rfl⟩, trivial⟩)); rintro _ _ _ ⟨rfl, rfl, rfl⟩))
  all_goals (try (conv => whnf))
  all_goals first | (refine ret0 _ rfl _ rfl (fun _ => rfl) rfl ⟨?_, rfl, rfl⟩; rfl) | (fail)
end Ops
end Go.Proofs.Ytehhmkdghgabaaa
namespace Go.Proofs.Ytehhmkdghgabaaa
open Go Go.RowKit Wx
set_option linter.unusedVariables false
set_option linter.unusedSimpArgs false
set_option maxHeartbeats 4000000
structure Rcd where
  src : Int
  key : Int
  val : Int
deriving DecidableEq
abbrev eR (x : Rcd) : List RT := [RT.v (.int .i64 x.src), RT.v (.int .i64 x.key), RT.v (.int .i64 x.val)]
abbrev cR (x : Rcd) : List Ce := [Ce.v (.int .i64 x.src), Ce.v (.int .i64 x.key), Ce.v (.int .i64 x.val)]
structure Opr where
  t : Int
  w : Int
  ins : List Int
  a : Int
  b : Int
def dT (o : Opr) (l : List Kc) (r : Rcd) : List Kc × List Rcd × Int :=
  if keyOk r.src r.key = false then ([], [], 150) else
  if (Ops.doF o.t o.w o.ins o.a o.b (getR l r.src r.key).1 (getR l r.src r.key).2 r.val).2.2 = 0 then
    (putR l r.src r.key (Ops.doF o.t o.w o.ins o.a o.b (getR l r.src r.key).1 (getR l r.src r.key).2 r.val).1, (Ops.doF o.t o.w o.ins o.a o.b (getR l r.src r.key).1 (getR l r.src r.key).2 r.val).2.1.map fun x => ⟨r.src, r.key, x⟩, 0)
  else ([], [], (Ops.doF o.t o.w o.ins o.a o.b (getR l r.src r.key).1 (getR l r.src r.key).2 r.val).2.2)
theorem doF_err {t w : Int} {ins : List Int} {a b c s v : Int} (h : (Ops.doF t w ins a b c s v).2.2 ≠ 0) : Ops.doF t w ins a b c s v = ((0, 0), [], (Ops.doF t w ins a b c s v).2.2) := by
  unfold Ops.doF at *
  split
  · rfl
  · split
    · rfl
    · split
      · rfl
      · rename_i h1 h2 h3; simp [h1, h2, h3] at h
theorem doF_cell {t w : Int} {ins : List Int} {a b c s v : Int} (h : (Ops.doF t w ins a b c s v).2.2 = 0) : (0 < (Ops.doF t w ins a b c s v).1.1 ∨ (Ops.doF t w ins a b c s v).1 = (0, 0)) := by
  unfold Ops.doF at *
  split at h
  · cases h
  · split at h
    · cases h
    · split at h
      · cases h
      · rename_i h1 h2 h3
        have ht := Ops.okO_tag (by simpa using h1)
        have hf := Ops.fit_stp (v := v) ht (Decidable.not_not.1 h2)
        rw [if_neg h1, if_neg h2, if_neg h3]
        simp only
        generalize (Ops.stp t a b (c, s) v).1 = q at *
        unfold Ops.fitP at hf
        split at hf
        · rcases hf with ⟨h5, h6⟩ | ⟨h5, _⟩
          · right; exact Prod.ext h5 h6
          · left; exact h5
        · right; exact Prod.ext hf.1 hf.2
end Go.Proofs.Ytehhmkdghgabaaa
namespace Go.Proofs.Ytehhmkdghgabaaa
open Go Go.RowKit Wx
set_option linter.unusedVariables false
set_option linter.unusedSimpArgs false
set_option maxHeartbeats 4000000
theorem do_z0 (t w a b : Int) (ins : List Int) (l : List Kc) (s k v : Int) (c : Int × Int) (O : List Int) (p : Nat) (hi : ins.length ≤ 9223372036854775807) (hO : O.length ≤ 1) (hl : l.length ≤ 1000) (ht : tabR l = true) (hk : keyOk s k = true) (hr : Ops.doF t w ins a b 0 0 v = (c, O, 0)) (hc : c = (0, 0)) (hth : thereR l s k = false) (hp : posR l s k = p) (hne : l ≠ []) : Con Try.prog 64 [.agg [.v (.int .i64 t), .v (.int .i64 w), .ro false 1 (ins.map Ops.eI), .v (.int .i64 a), .v (.int .i64 b)], .agg [.ro false 4 (l.map eK)], .agg [.v (.int .i64 s), .v (.int .i64 k), .v (.int .i64 v)]] (fun rx rK rt => rx = .tup [.agg [.ro true 4 (l.map eK)], .one (.ro true 3 ((O.map fun x => (⟨s, k, x⟩ : Rcd)).map eR)), .one (.v (.int .i64 0))] ∧ rK = [] ∧ rt = 0) := by
  refine Z.con_ofF tabOk 22 Try.f64 _ Try.func64 (by kernel_rfl) rfl rfl rfl rfl ?_
  have ck := rec_con s k v
  rw [hk] at ck
  simp only [cond_true, cond_false] at ck
  have cf := find_con l s k v hl ht
  rw [hth, hp] at cf
  have cd := Ops.do_con t w a b 0 0 v ins hi (by decide)
  rw [hr] at cd
  dsimp only at cd
  have cw := clonek_con l hl hne
  subst hc
  rcases O with _ | ⟨y, _ | ⟨z, O⟩⟩
  rotate_right 1
  · exact absurd hO (by simp)
  all_goals (
    repeat' ((conv => whnf); first
      | ((with_reducible apply spB_cong); (focus (simp only [beq_self_eq_true, bne_self_eq_false, Bool.true_bne, Bool.false_bne, Bool.bne_true, Bool.bne_false, Bool.true_beq, Bool.false_beq, Bool.not_true, Bool.not_false, Bool.not_not, Int.reduceBEq, Int.reduceBNe, Int.reduceLE, Int.reduceLT, Int.reduceEq, decide_true, decide_false]; rfl)))
      | with_reducible first | refine spB_no (by decide) ?_
      | (with_reducible refine spB_dec ?_ ?_ <;> intro _ <;> (try (exfalso; first | contradiction | omega | (rename_i hz; refine hz ?_; simp; done) | (rename_i hz; simp at hz; done) | (simp only [LN] at *; omega))))
      | with_reducible first | refine Z.loopZ_unroll tabOk 3 ?_
      | ((with_reducible refine posE_pos ?_ ?_); (focus ((try simp only [LN] at *) <;> omega)))
      | ((with_reducible apply rowN_mk); (focus rfl))
      | ((with_reducible apply ixN_lit); (focus (exact rfl)); (focus (exact rfl)))
      | ((with_reducible refine apdN.mk ?_ ?_ ?_ ?_ ?_ ?_); (focus (first | rfl)); (focus (first | exact one_all (by rfl))); (focus ((try simp only [LN] at *) <;> omega)); (focus ((try simp only [LN] at *) <;> omega)); (focus ((try simp only [LN] at *) <;> omega)))
      | with_reducible refine wr_i64 (by first | omega | (simp only [LN] at *; omega)) ?_
      | with_reducible first | refine Z.callZ_in tabOk 38 Try.f101 _ Try.func101 (by kernel_rfl) rfl rfl rfl ?_ | refine Z.callZ_in tabOk 67 Try.f60 _ Try.func60 (by kernel_rfl) rfl rfl rfl ?_
      | ((first | (with_reducible refine Z.callZ_mk ?_ (cd) ?_) | (with_reducible refine Z.callZ_mk ?_ (ck) ?_) | (with_reducible refine Z.callZ_mk ?_ (cf) ?_) | (with_reducible refine Z.callZ_mk ?_ (cw) ?_)); (focus ((repeat' (first | exact trivial | exact rfl | apply And.intro)); done)))
      | ((with_reducible apply ex_and); exact rfl)
      | with_reducible first | refine Z.drawZ_rule tabOk mixOk ?_ | refine Z.apZ_mk (by kernel_rfl) ?_)
    all_goals (try (conv => whnf)))
  all_goals try (show Nat.ble _ _ = true; rfl)
  all_goals try (exfalso; rename_i hz; cases hz; done)
  all_goals try (exfalso; (try simp only [LN] at *) <;> omega)
  all_goals first
    | ((first | (with_reducible apply Z.retF2)); (focus (exact rfl)); (repeat' (first | exact trivial | (refine Z.frz_osl (l := l) (f := cK) (ty := 74) (bx := false) (by first | rfl | exact congrArg (fun r => some (⟨r, 4, 74, false⟩ : Blk)) (ren_map fun _ => rfl)) rfl (fun _ => rfl)) | (refine Z.fq_gsl (l := [(⟨s, k, y⟩ : Rcd)]) (f := cR) (g := eR) (sz := 3) (ty := 39) rfl (fun _ => rfl) ?_) | (with_reducible apply Z.frz_one) | (with_reducible apply Z.frz_agg) | (with_reducible apply Z.fq_int) | (exact Z.frz_nil) | exact rfl | apply And.intro)); (all_goals (try exact (fun _ => none))); all_goals (first | (simp; done)))
end Go.Proofs.Ytehhmkdghgabaaa
namespace Go.Proofs.Ytehhmkdghgabaaa
open Go Go.RowKit Wx
set_option linter.unusedVariables false
set_option linter.unusedSimpArgs false
set_option maxHeartbeats 4000000
theorem do_na (t w a b : Int) (ins : List Int) (l : List Kc) (s k v : Int) (c : Int × Int) (O : List Int) (p : Nat) (hi : ins.length ≤ 9223372036854775807) (hO : O.length ≤ 1) (hl : l.length ≤ 1000) (ht : tabR l = true) (hk : keyOk s k = true) (hr : Ops.doF t w ins a b 0 0 v = (c, O, 0)) (hc : 0 < c.1) (hth : thereR l s k = false) (hp : posR l s k = p) (hne : l ≠ []) (hpl : p = l.length) : Con Try.prog 64 [.agg [.v (.int .i64 t), .v (.int .i64 w), .ro false 1 (ins.map Ops.eI), .v (.int .i64 a), .v (.int .i64 b)], .agg [.ro false 4 (l.map eK)], .agg [.v (.int .i64 s), .v (.int .i64 k), .v (.int .i64 v)]] (fun rx rK rt => rx = .tup [.agg [.ro true 4 ((l ++ [(⟨s, k, c.1, c.2⟩ : Kc)]).map eK)], .one (.ro true 3 ((O.map fun x => (⟨s, k, x⟩ : Rcd)).map eR)), .one (.v (.int .i64 0))] ∧ rK = [] ∧ rt = 0) := by
  refine Z.con_ofF tabOk 22 Try.f64 _ Try.func64 (by kernel_rfl) rfl rfl rfl rfl ?_
  have ck := rec_con s k v
  rw [hk] at ck
  simp only [cond_true, cond_false] at ck
  have cf := find_con l s k v hl ht
  rw [hth, hp] at cf
  have cd := Ops.do_con t w a b 0 0 v ins hi (by decide)
  rw [hr] at cd
  dsimp only at cd
  have hcz : (c.1 == 0 && (c.2 == 0 && true)) = false := by rw [show (c.1 == 0) = false by simp; omega]; rfl
  have cw := clonek_con l hl hne
  subst hpl
  rcases O with _ | ⟨y, _ | ⟨z, O⟩⟩
  rotate_right 1
  · exact absurd hO (by simp)
  all_goals (
    repeat' ((conv => whnf); first
      | with_reducible first | refine spB_t ?_
      | ((with_reducible apply spB_cong); (focus (simp only [beq_self_eq_true, bne_self_eq_false, Bool.true_bne, Bool.false_bne, Bool.bne_true, Bool.bne_false, Bool.true_beq, Bool.false_beq, Bool.not_true, Bool.not_false, Bool.not_not, Int.reduceBEq, Int.reduceBNe, Int.reduceLE, Int.reduceLT, Int.reduceEq, decide_true, decide_false]; rfl)))
      | with_reducible first | refine spB_no (by decide) ?_ | refine spB_not ?_ | refine spB_no (by assumption) ?_
      | (with_reducible refine spB_dec ?_ ?_ <;> intro _ <;> (try (exfalso; first | contradiction | omega | (rename_i hz; refine hz ?_; simp; done) | (rename_i hz; simp at hz; done) | (simp only [LN] at *; omega) | (rename_i hz; exact absurd (hcz.symm.trans hz) Bool.false_ne_true))))
      | with_reducible first | refine Z.loopZ_unroll tabOk 3 ?_
      | ((apply Z.callZ_rwcap (l.map cK)); (focus (exact rfl)); (focus (first | exact ren_map fun _ => rfl)); (focus (simp; done)); (intro capv hcapv; refine ⟨fun hcap => ?_, fun hcap gv hgv => ?_⟩))
      | ((with_reducible refine Z.slN_lo (l.length) ?_ ?_ ?_); (focus rfl); (focus ((try simp only [LN] at *) <;> omega)))
      | ((with_reducible refine apdE_r ?_); (with_reducible refine aprN.mk ⟨_, rfl, ?_⟩ ?_ ?_ ?_ ?_); (focus omega); (focus rfl); (focus (exact one_all (by rfl))); (focus (simp; done)))
      | ((with_reducible refine apdE_k ?_); (with_reducible refine apkN.mk ⟨_, rfl, ?_⟩ ?_); (focus omega); (with_reducible refine apdN.mk ?_ ?_ ?_ ?_ ?_ ?_); (focus rfl); (focus (exact one_all (by rfl))); (focus (simp; done)); (focus ((try simp only [LN] at *) <;> omega)); (focus ((try simp only [LN] at *) <;> omega)))
      | ((with_reducible refine posE_pos ?_ ?_); (focus ((try simp only [LN] at *) <;> omega)))
      | ((with_reducible apply rowN_mk); (focus rfl))
      | ((with_reducible apply ixN_lit); (focus (exact rfl)); (focus (exact rfl)))
      | ((with_reducible refine slE_b ?_ ?_); (focus ((try simp only [LN] at *) <;> omega)))
      | ((with_reducible refine apdN.mk ?_ ?_ ?_ ?_ ?_ ?_); (focus (first | rfl)); (focus (first | exact one_all (by rfl))); (focus ((try simp only [LN] at *) <;> omega)); (focus ((try simp only [LN] at *) <;> omega)); (focus ((try simp only [LN] at *) <;> omega)))
      | with_reducible refine wr_i64 (by first | omega | (simp only [LN] at *; omega)) ?_
      | with_reducible first | refine Z.callZ_in tabOk 38 Try.f101 _ Try.func101 (by kernel_rfl) rfl rfl rfl ?_ | refine Z.callZ_in tabOk 67 Try.f60 _ Try.func60 (by kernel_rfl) rfl rfl rfl ?_ | refine Z.callZ_in tabOk 95 Try.f100 _ Try.func100 (by kernel_rfl) rfl rfl rfl ?_
      | ((first | (with_reducible refine Z.callZ_mk ?_ (cd) ?_) | (with_reducible refine Z.callZ_mk ?_ (ck) ?_) | (with_reducible refine Z.callZ_mk ?_ (cf) ?_) | (with_reducible refine Z.callZ_mk ?_ (cw) ?_)); (focus ((repeat' (first | exact trivial | exact rfl | apply And.intro)); done)))
      | ((with_reducible apply ex_and); exact rfl)
      | with_reducible first | refine Z.drawZ_rule tabOk mixOk ?_ | refine Z.apZ_mk (by kernel_rfl) ?_)
    all_goals (try (conv => whnf)))
  all_goals try (show Nat.ble _ _ = true; rfl)
  all_goals try (exfalso; rename_i hz; cases hz; done)
  all_goals try (exfalso; (try simp only [LN] at *) <;> omega)
  all_goals first
    | ((first | (with_reducible apply Z.retF2)); (focus (exact rfl)); (repeat' (first | exact trivial | (refine Z.frz_oslw (l := (l ++ [(⟨s, k, c.1, c.2⟩ : Kc)])) (f := cK) (ty := 74) (bx := false) rfl ?_ ?_ (fun _ => rfl); (focus (first | (simp; done))); (focus (first | exact (congrArg (List.take _) (Z.g_app (f := cK) (v := (⟨s, k, c.1, c.2⟩ : Kc)) rfl rfl)).trans (List.take_of_length_le (by simp)) | exact (congrArg (List.take _) (Z.g_appr (f := cK) (v := (⟨s, k, c.1, c.2⟩ : Kc)) rfl rfl)).trans (List.take_of_length_le (by simp))))) | (refine Z.fq_gsl (l := [(⟨s, k, y⟩ : Rcd)]) (f := cR) (g := eR) (sz := 3) (ty := 39) rfl (fun _ => rfl) ?_) | (with_reducible apply Z.frz_one) | (with_reducible apply Z.frz_agg) | (with_reducible apply Z.fq_int) | (exact Z.frz_nil) | exact rfl | apply And.intro)); (all_goals (try exact (fun _ => none))); all_goals (first | (simp; done)))
end Go.Proofs.Ytehhmkdghgabaaa
namespace Go.Proofs.Ytehhmkdghgabaaa
open Go Go.RowKit Wx
set_option linter.unusedVariables false
set_option linter.unusedSimpArgs false
set_option maxHeartbeats 4000000
theorem do_ni (t w a b : Int) (ins : List Int) (l : List Kc) (s k v : Int) (c : Int × Int) (O : List Int) (p : Nat) (hi : ins.length ≤ 9223372036854775807) (hO : O.length ≤ 1) (hl : l.length ≤ 1000) (ht : tabR l = true) (hk : keyOk s k = true) (hr : Ops.doF t w ins a b 0 0 v = (c, O, 0)) (hc : 0 < c.1) (hth : thereR l s k = false) (hp : posR l s k = p) (hne : l ≠ []) (hpl : p < l.length) : Con Try.prog 64 [.agg [.v (.int .i64 t), .v (.int .i64 w), .ro false 1 (ins.map Ops.eI), .v (.int .i64 a), .v (.int .i64 b)], .agg [.ro false 4 (l.map eK)], .agg [.v (.int .i64 s), .v (.int .i64 k), .v (.int .i64 v)]] (fun rx rK rt => rx = .tup [.agg [.ro true 4 ((l.take p ++ (⟨s, k, c.1, c.2⟩ : Kc) :: l.drop p).map eK)], .one (.ro true 3 ((O.map fun x => (⟨s, k, x⟩ : Rcd)).map eR)), .one (.v (.int .i64 0))] ∧ rK = [] ∧ rt = 0) := by
  refine Z.con_ofF tabOk 22 Try.f64 _ Try.func64 (by kernel_rfl) rfl rfl rfl rfl ?_
  have ck := rec_con s k v
  rw [hk] at ck
  simp only [cond_true, cond_false] at ck
  have cf := find_con l s k v hl ht
  rw [hth, hp] at cf
  have cd := Ops.do_con t w a b 0 0 v ins hi (by decide)
  rw [hr] at cd
  dsimp only at cd
  have hcz : (c.1 == 0 && (c.2 == 0 && true)) = false := by rw [show (c.1 == 0) = false by simp; omega]; rfl
  have cw := clonek_con l hl hne
  obtain ⟨x0, hx0⟩ := getElem?_some' (xs := l) (i := p) hpl
  rcases O with _ | ⟨y, _ | ⟨z, O⟩⟩
  rotate_right 1
  · exact absurd hO (by simp)
  all_goals (
    repeat' ((conv => whnf); first
      | with_reducible first | refine spB_t ?_
      | ((with_reducible apply spB_cong); (focus (simp only [beq_self_eq_true, bne_self_eq_false, Bool.true_bne, Bool.false_bne, Bool.bne_true, Bool.bne_false, Bool.true_beq, Bool.false_beq, Bool.not_true, Bool.not_false, Bool.not_not, Int.reduceBEq, Int.reduceBNe, Int.reduceLE, Int.reduceLT, Int.reduceEq, decide_true, decide_false]; rfl)))
      | with_reducible first | refine spB_no (by decide) ?_ | refine spB_not ?_ | refine spB_no (by assumption) ?_
      | (with_reducible refine spB_dec ?_ ?_ <;> intro _ <;> (try (exfalso; first | contradiction | omega | (rename_i hz; refine hz ?_; simp; done) | (rename_i hz; simp at hz; done) | (simp only [LN] at *; omega) | (rename_i hz; exact absurd (hcz.symm.trans hz) Bool.false_ne_true))))
      | (with_reducible refine spB_beq ?_ ?_ <;> intro _ <;> (try (exfalso; first | contradiction | omega | (rename_i hz; refine hz ?_; simp; done) | (rename_i hz; simp at hz; done) | (simp only [LN] at *; omega) | (rename_i hz; exact absurd (hcz.symm.trans hz) Bool.false_ne_true))))
      | with_reducible first | refine Z.loopZ_unroll tabOk 3 ?_
      | ((apply Z.callZ_rwcap (l.map cK)); (focus (exact rfl)); (focus (first | exact ren_map fun _ => rfl)); (focus (simp; done)); (intro capv hcapv; refine ⟨fun hcap => ?_, fun hcap gv hgv => ?_⟩))
      | ((with_reducible refine Z.slN_lo (p) ?_ ?_ ?_); (focus rfl); (focus ((try simp only [LN] at *) <;> omega)))
      | ((with_reducible refine Z.slN_lo (p + 1) ?_ ?_ ?_); (focus rfl); (focus ((try simp only [LN] at *) <;> omega)))
      | ((with_reducible refine slN_hi (p) ?_ ?_ ?_); (focus rfl); (focus ((try simp only [LN] at *) <;> omega)))
      | ((with_reducible refine Z.slN_hc (l.length + 1) ?_ ?_ ?_); (focus rfl); (focus (exact ⟨_, rfl, by first | omega | (dsimp only; omega) | (simp; omega)⟩)))
      | ((with_reducible refine apzE_k ?_); (with_reducible refine apzK_mk (l.length + 1 - p) ⟨_, rfl, ?_⟩ ?_ ?_ ?_ ?_ ?_ ?_); (focus ((try simp only [LN] at *) <;> omega)); (focus ((try simp only [LN] at *) <;> omega)); (focus (exact Z.g_le (f := cK) rfl (by omega))); (iterate 2 (focus ((try simp only [LN] at *) <;> omega))); (focus rfl))
      | ((with_reducible refine cpyN.mk ?_ ?_ ?_ ?_); (focus rfl); (focus (exact one_all (by rfl))); (focus (exact Z.g_fit (f := cK) rfl (by omega) (by (try simp only [LN] at *) <;> omega))))
      | ((with_reducible refine cpyN.mk ?_ ?_ ?_ ?_); (focus (exact Z.g_len (f := cK) rfl (by (try simp only [LN] at *) <;> omega))); (focus (exact Z.g_one cK_one rfl)); (focus (exact Z.g_fit2 (f := cK) rfl (by omega) (by (try simp only [LN] at *) <;> omega) Z.gS_len)))
      | ((with_reducible refine cpyN.mk2 ?_ ?_ ?_ ?_); (focus (exact Z.g_lenp (f := cK) (by (try simp only [LN] at *) <;> omega))); (focus (exact Z.g_onep cK_one (Z.g_min (by (try simp only [LN] at *) <;> omega)))); (focus (exact Z.g_fitp (f := cK) (by (try simp only [LN] at *) <;> omega))))
      | ((with_reducible refine cpyN.mk ?_ ?_ ?_ ?_); (focus rfl); (focus (exact one_all (by rfl))); (focus (exact Z.g_fitp2 (f := cK) (by (try simp only [LN] at *) <;> omega) (Z.g_fitk (by (try simp only [LN] at *) <;> omega)))))
      | ((with_reducible apply Z.callZ_ovl (tS := 28) (tR := 4) tabOk Try.f117 Try.func117 (by kernel_rfl) (by kernel_rfl) (by kernel_rfl) (by kernel_rfl)); (iterate 4 (focus (exact rfl))); (focus (exact Nat.ne_of_beq_eq_false rfl)); (focus (simp; done)); (focus (exact Nat.zero_lt_succ _)))
      | ((with_reducible refine posE_pos ?_ ?_); (focus ((try simp only [LN] at *) <;> omega)))
      | ((with_reducible apply rowN_mk); (focus rfl))
      | ((with_reducible apply ixN_lit); (focus (exact rfl)); (focus (exact rfl)))
      | ((with_reducible refine slE_a ?_ ?_); (focus ((try simp only [LN] at *) <;> omega)))
      | ((with_reducible refine apdN.mk ?_ ?_ ?_ ?_ ?_ ?_); (focus (first | rfl)); (focus (first | exact one_all (by rfl))); (focus ((try simp only [LN] at *) <;> omega)); (focus ((try simp only [LN] at *) <;> omega)); (focus ((try simp only [LN] at *) <;> omega)))
      | with_reducible refine wr_i64 (by first | omega | (simp only [LN] at *; omega)) ?_
      | with_reducible first | refine Z.callZ_in tabOk 38 Try.f101 _ Try.func101 (by kernel_rfl) rfl rfl rfl ?_ | refine Z.callZ_in tabOk 67 Try.f60 _ Try.func60 (by kernel_rfl) rfl rfl rfl ?_ | refine Z.callZ_in tabOk 95 Try.f100 _ Try.func100 (by kernel_rfl) rfl rfl rfl ?_
      | ((first | (with_reducible refine Z.callZ_mk ?_ (cd) ?_) | (with_reducible refine Z.callZ_mk ?_ (ck) ?_) | (with_reducible refine Z.callZ_mk ?_ (cf) ?_) | (with_reducible refine Z.callZ_mk ?_ (cw) ?_)); (focus ((repeat' (first | exact trivial | exact rfl | apply And.intro)); done)))
      | ((with_reducible apply ex_and); exact rfl)
      | with_reducible first | refine Z.drawZ_rule tabOk mixOk ?_ | refine Z.apZ_mk (by kernel_rfl) ?_)
    all_goals (try (conv => whnf)))
  all_goals try (show Nat.ble _ _ = true; rfl)
  all_goals try (exfalso; rename_i hz; cases hz; done)
  all_goals try (exfalso; (try simp only [LN] at *) <;> omega)
  all_goals first
    | ((first | (with_reducible apply Z.retF2)); (focus (exact rfl)); (repeat' (first | exact trivial | (refine Z.frz_oslw (l := (l.take p ++ (⟨s, k, c.1, c.2⟩ : Kc) :: l.drop p)) (f := cK) (ty := 74) (bx := false) rfl ?_ ?_ (fun _ => rfl); (focus (first | (simp; omega))); (focus (first | exact (congrArg (List.take _) (Z.g_ins (f := cK) (v := (⟨s, k, c.1, c.2⟩ : Kc)) rfl (by omega) rfl (Z.gS_eq (by omega) rfl) (Z.gT_eq (f := cK) rfl (Nat.le_min.2 ⟨by omega, by omega⟩) (by omega)))).trans (List.take_of_length_le (by simp; omega)) | exact (congrArg (List.take _) (Z.g_insp (f := cK) (v := (⟨s, k, c.1, c.2⟩ : Kc)) (by omega) (Z.gS_eq (by omega) rfl) (Z.gT_eqp (f := cK) (by omega) (.inl ⟨(Nat.min_eq_right (by omega)).trans (by omega), by omega⟩)))).trans (List.take_of_length_le (by simp; omega))))) | (refine Z.fq_gsl (l := [(⟨s, k, y⟩ : Rcd)]) (f := cR) (g := eR) (sz := 3) (ty := 39) rfl (fun _ => rfl) ?_) | (with_reducible apply Z.frz_one) | (with_reducible apply Z.frz_agg) | (with_reducible apply Z.fq_int) | (exact Z.frz_nil) | exact rfl | apply And.intro)); (all_goals (try exact (fun _ => none))); all_goals (first | (simp; done)))
end Go.Proofs.Ytehhmkdghgabaaa
namespace Go.Proofs.Ytehhmkdghgabaaa
open Go Go.RowKit Wx
set_option linter.unusedVariables false
set_option linter.unusedSimpArgs false
set_option maxHeartbeats 4000000
theorem do_za (t w a b : Int) (ins : List Int) (l : List Kc) (s k v : Int) (c : Int × Int) (O : List Int) (p : Nat) (hi : ins.length ≤ 9223372036854775807) (hO : O.length ≤ 1) (hl : l.length ≤ 1000) (ht : tabR l = true) (hk : keyOk s k = true) (hth : thereR l s k = true) (hp : posR l s k = p) (hne : l ≠ []) (x : Kc) (hx : l[p]? = some x) (hc0 : x.cnt ≤ 9223372036854775807) (hr : Ops.doF t w ins a b x.cnt x.sum v = (c, O, 0)) (hc : c = (0, 0)) (hpl : p < l.length) (hpe : p + 1 = l.length) : Con Try.prog 64 [.agg [.v (.int .i64 t), .v (.int .i64 w), .ro false 1 (ins.map Ops.eI), .v (.int .i64 a), .v (.int .i64 b)], .agg [.ro false 4 (l.map eK)], .agg [.v (.int .i64 s), .v (.int .i64 k), .v (.int .i64 v)]] (fun rx rK rt => rx = .tup [.agg [.ro true 4 ((l.eraseIdx p).map eK)], .one (.ro true 3 ((O.map fun x => (⟨s, k, x⟩ : Rcd)).map eR)), .one (.v (.int .i64 0))] ∧ rK = [] ∧ rt = 0) := by
  refine Z.con_ofF tabOk 22 Try.f64 _ Try.func64 (by kernel_rfl) rfl rfl rfl rfl ?_
  have ck := rec_con s k v
  rw [hk] at ck
  simp only [cond_true, cond_false] at ck
  have cf := find_con l s k v hl ht
  rw [hth, hp] at cf
  have cd := Ops.do_con t w a b x.cnt x.sum v ins hi hc0
  rw [hr] at cd
  dsimp only at cd
  subst hc
  have cw := clonek_con l hl hne
  rcases O with _ | ⟨y, _ | ⟨z, O⟩⟩
  rotate_right 1
  · exact absurd hO (by simp)
  all_goals (
    repeat' ((conv => whnf); first
      | with_reducible first | refine spB_t ?_
      | ((with_reducible apply spB_cong); (focus (simp only [beq_self_eq_true, bne_self_eq_false, Bool.true_bne, Bool.false_bne, Bool.bne_true, Bool.bne_false, Bool.true_beq, Bool.false_beq, Bool.not_true, Bool.not_false, Bool.not_not, Int.reduceBEq, Int.reduceBNe, Int.reduceLE, Int.reduceLT, Int.reduceEq, decide_true, decide_false]; rfl)))
      | with_reducible first | refine spB_no (by decide) ?_
      | (with_reducible refine spB_dec ?_ ?_ <;> intro _ <;> (try (exfalso; first | contradiction | omega | (rename_i hz; refine hz ?_; simp; done) | (rename_i hz; simp at hz; done) | (simp only [LN] at *; omega))))
      | (with_reducible refine spB_beq ?_ ?_ <;> intro _ <;> (try (exfalso; first | contradiction | omega | (rename_i hz; refine hz ?_; simp; done) | (rename_i hz; simp at hz; done) | (simp only [LN] at *; omega))))
      | with_reducible first | refine Z.loopZ_unroll tabOk 3 ?_
      | ((apply Z.callZ_rwcapn (l.map cK)); (focus (exact rfl)); (focus (first | exact ren_map fun _ => rfl)); (intro capv hcapv))
      | ((with_reducible refine slN_hi (p) ?_ ?_ ?_); (focus rfl); (focus ((try simp only [LN] at *) <;> omega)))
      | ((with_reducible refine Z.slN_lo (p + 1) ?_ ?_ ?_); (focus rfl); (focus ((try simp only [LN] at *) <;> omega)))
      | ((with_reducible refine Z.slN_lhc (l.length - 1) l.length ?_ ?_ ?_ ?_ ?_); (iterate 3 (focus ((try simp only [LN] at *) <;> omega))); (focus (exact ⟨_, rfl, (by (try simp only [LN] at *) <;> omega)⟩)))
      | ((with_reducible refine apdE_r ?_); (with_reducible refine aprN.mk ⟨_, rfl, ?_⟩ ?_ ?_ ?_ ?_); (focus ((try simp only [LN] at *) <;> omega)); (focus rfl); (focus (exact one_all (by rfl))); (focus (exact Z.g_le (f := cK) rfl (by (try simp only [LN] at *) <;> omega))))
      | ((with_reducible refine clrN_mk ?_ ?_ ?_); (focus (exact Z.g_clr (f := cK) rfl (by first | (rw [Z.g_len (f := cK) (l := l) rfl (by (try simp only [LN] at *) <;> omega)]; omega) | (simp; omega)) (by (try simp only [LN] at *) <;> omega))); (focus rfl))
      | with_reducible first | refine Z.rowN_known hx ?_
      | ((with_reducible refine ixN_mk (p) ?_ ?_ ?_); (focus (first | rfl)); (focus ((try simp only [LN] at *) <;> omega)))
      | ((with_reducible refine posE_pos ?_ ?_); (focus ((try simp only [LN] at *) <;> omega)))
      | ((with_reducible apply rowN_mk); (focus rfl))
      | ((with_reducible apply ixN_lit); (focus (exact rfl)); (focus (exact rfl)))
      | ((with_reducible refine slE_a ?_ ?_); (focus ((try simp only [LN] at *) <;> omega)))
      | ((with_reducible refine slE_b ?_ ?_); (focus ((try simp only [LN] at *) <;> omega)))
      | ((with_reducible apply sl3N_mk); (focus (exact rfl)); (focus (exact rfl)); (focus (exact rfl)); (focus ((try simp only [LN] at *) <;> omega)); (focus ((try simp only [LN] at *) <;> omega)); (focus ((try simp only [LN] at *) <;> omega)); (focus ((try simp only [LN] at *) <;> omega)))
      | ((with_reducible refine apdN.mk ?_ ?_ ?_ ?_ ?_ ?_); (focus (first | rfl)); (focus (first | exact one_all (by rfl))); (focus ((try simp only [LN] at *) <;> omega)); (focus ((try simp only [LN] at *) <;> omega)); (focus ((try simp only [LN] at *) <;> omega)))
      | with_reducible refine wr_i64 (by first | omega | (simp only [LN] at *; omega)) ?_
      | with_reducible first | refine Z.callZ_in tabOk 38 Try.f101 _ Try.func101 (by kernel_rfl) rfl rfl rfl ?_ | refine Z.callZ_in tabOk 67 Try.f60 _ Try.func60 (by kernel_rfl) rfl rfl rfl ?_ | refine Z.callZ_in tabOk 33 Try.f99 _ Try.func99 (by kernel_rfl) rfl rfl rfl ?_
      | ((first | (with_reducible refine Z.callZ_mk ?_ (cd) ?_) | (with_reducible refine Z.callZ_mk ?_ (ck) ?_) | (with_reducible refine Z.callZ_mk ?_ (cf) ?_) | (with_reducible refine Z.callZ_mk ?_ (cw) ?_)); (focus ((repeat' (first | exact trivial | exact rfl | apply And.intro)); done)))
      | ((with_reducible apply ex_and); exact rfl)
      | with_reducible first | refine Z.drawZ_rule tabOk mixOk ?_ | refine Z.apZ_mk (by kernel_rfl) ?_)
    all_goals (try (conv => whnf)))
  all_goals try (show Nat.ble _ _ = true; rfl)
  all_goals try (exfalso; rename_i hz; cases hz; done)
  all_goals try (exfalso; (try simp only [LN] at *) <;> omega)
  all_goals first
    | ((first | (with_reducible apply Z.retF2)); (focus (exact rfl)); (repeat' (first | exact trivial | (refine Z.frz_oslw (l := l.eraseIdx p) (f := cK) (ty := 74) (bx := false) rfl ?_ ?_ (fun _ => rfl); (focus (rw [List.length_eraseIdx, if_pos hpl]; (try simp only [LN] at *) <;> omega)); (focus (first | exact Z.del_end (by omega)))) | (refine Z.fq_gsl (l := [(⟨s, k, y⟩ : Rcd)]) (f := cR) (g := eR) (sz := 3) (ty := 39) rfl (fun _ => rfl) ?_) | (with_reducible apply Z.frz_one) | (with_reducible apply Z.frz_agg) | (with_reducible apply Z.fq_int) | (exact Z.frz_nil) | exact rfl | apply And.intro)); (all_goals (try exact (fun _ => none))); all_goals (first | (simp; done)))
end Go.Proofs.Ytehhmkdghgabaaa
