import Derived.Test.YtopieffkpdlpbaaLib3
import Derived.Test.YtopieffkpdlpbaaLib4
import Derived.Shelf.SlGeneric
import Derived.Shelf.SlSortCmp.WholeK
import Derived.Ground.SlsfProg
import Derived.Test.YtopieffkpdlpbaaProg
import Derived.Test.YtopieffkpdlpbaaLib5
set_option linter.unusedVariables false
set_option linter.unusedSimpArgs false
namespace Go.Proofs.Ytopieffkpdlpbaa
open Go Go.RowKit Wx
set_option maxHeartbeats 4000000
def okZ (o i w : Int) : Prop := (0 ≤ o ∧ o < 8) ∧ (1 ≤ w ∧ w ≤ 3) ∧ 0 ≤ i ∧ i < w
instance (o i w : Int) : Decidable (okZ o i w) := by unfold okZ; infer_instance
end Go.Proofs.Ytopieffkpdlpbaa
namespace Go.Proofs.Ytopieffkpdlpbaa
open Go Go.RowKit Wx
set_option maxHeartbeats 4000000
namespace Tab
abbrev eB (z : Int) : List RT := [RT.v (.int .u8 z)]
abbrev cB (z : Int) : List Ce := [Ce.v (.int .u8 z)]
def be : Nat → Int → List Int
 | 0, _ => []
 | n + 1, x => be n (x / 256) ++ [x % 256]
theorem be_len : ∀ {n : Nat} {x : Int}, (be n x).length = n
 | 0, _ => rfl
 | n + 1, x => by rw [be, List.length_append, be_len]; rfl
def numR (l : List Int) : Int := l.foldl (fun x b => x * 256 + b) 0
theorem numR_snoc {l : List Int} {b : Int} : numR (l ++ [b]) = numR l * 256 + b := by unfold numR; rw [List.foldl_append]; rfl
def isB (l : List Int) : Prop := ∀ b ∈ l, 0 ≤ b ∧ b ≤ 255
theorem numR_lt : ∀ {n : Nat} {l : List Int}, l.length = n → isB l → 0 ≤ numR l ∧ numR l < 256 ^ n
 | 0, l, h, _ => by rw [List.length_eq_zero_iff.1 h]; decide
 | n + 1, l, h, hb => by
  rcases List.eq_nil_or_concat l with e | ⟨l', b, e⟩
  ·subst e; simp at h
  ·rw [List.concat_eq_append] at e
   subst e
   have h1 := numR_lt (n := n) (l := l') (by simpa using h) (fun x hx => hb x (List.mem_append_left _ hx))
   have h2 := hb b (by simp)
   rw [numR_snoc, Int.pow_succ]
   omega
theorem numR_be : ∀ {n : Nat} {x : Int}, 0 ≤ x → x < 256 ^ n → numR (be n x) = x
 | 0, x, h, h2 => by simp at h2; show (0 : Int) = x; omega
 | n + 1, x, h, h2 => by
  rw [Int.pow_succ] at h2
  rw [be, numR_snoc, numR_be (Int.ediv_nonneg h (by decide)) (by omega)]; omega
theorem be_isB : ∀ {n : Nat} {x : Int}, isB (be n x)
 | 0, _ => by intro b hb; cases hb
 | n + 1, x => by
  intro b hb
  rw [be] at hb
  rcases List.mem_append.1 hb with h | h
  ·exact be_isB b h
  ·rw [List.mem_singleton.1 h]; omega
theorem be_numR : ∀ {n : Nat} {l : List Int}, l.length = n → isB l → be n (numR l) = l
 | 0, l, h, _ => by rw [List.length_eq_zero_iff.1 h]; rfl
 | n + 1, l, h, hb => by
  rcases List.eq_nil_or_concat l with e | ⟨l', b, e⟩
  ·subst e; simp at h
  ·rw [List.concat_eq_append] at e
   subst e
   have h2 := hb b (by simp)
   rw [be, numR_snoc, show (numR l' * 256 + b) / 256 = numR l' by omega, show (numR l' * 256 + b) % 256 = b by omega, be_numR (by simpa using h) (fun x hx => hb x (List.mem_append_left _ hx))]
theorem u8_mod (z : Int) : IntKind.u8.wrap z = z % 256 := by
 simp [IntKind.wrap, IntKind.bits, IntKind.signed]
theorem wr_mod8 {z : Int} {A : Int → Prop} (h : A (z % 256)) : wr .u8 z A := ⟨_, u8_mod z, h⟩
theorem u64_mod (z : Int) : IntKind.u64.wrap z = z % 18446744073709551616 := by
 simp [IntKind.wrap, IntKind.bits, IntKind.signed]
theorem u64_rng (z : Int) : 0 ≤ IntKind.u64.wrap z ∧ IntKind.u64.wrap z < 18446744073709551616 := by rw [u64_mod]; omega
theorem i64_u64 {z : Int} (h : -9223372036854775808 ≤ z ∧ z ≤ 9223372036854775807) : IntKind.i64.wrap (IntKind.u64.wrap z) = z := by
 rw [u64_mod]
 simp [IntKind.wrap, IntKind.bits, IntKind.signed]
 omega
theorem u64_i64 {z : Int} (h : 0 ≤ z ∧ z < 18446744073709551616) : IntKind.u64.wrap (IntKind.i64.wrap z) = z := by
 rw [u64_mod]
 simp [IntKind.wrap, IntKind.bits, IntKind.signed]
 omega
theorem or256 {x b : Int} (h : 0 ≤ x ∧ x < 72057594037927936) (hb : 0 ≤ b ∧ b ≤ 255) : IntKind.u64.wrap ((BitVec.ofInt IntKind.u64.bits (IntKind.u64.wrap (x * 2 ^ 8)) ||| BitVec.ofInt IntKind.u64.bits (IntKind.u64.wrap b)).toNat : Int) = x * 256 + b := by
 obtain ⟨n, rfl⟩ := Int.eq_ofNat_of_zero_le h.1
 obtain ⟨c, rfl⟩ := Int.eq_ofNat_of_zero_le hb.1
 rw [u64_mod, u64_mod, u64_mod]
 have a1 : ((n : Int) * 2 ^ 8) % 18446744073709551616 = ((n * 256 : Nat) : Int) := by omega
 have a2 : (c : Int) % 18446744073709551616 = ((c : Nat) : Int) := by omega
 rw [a1, a2]
 show ((BitVec.ofInt 64 ((n * 256 : Nat) : Int) ||| BitVec.ofInt 64 (c : Int)).toNat : Int) % 18446744073709551616 = _
 rw [BitVec.toNat_or]
 have e1 : (BitVec.ofInt 64 ((n * 256 : Nat) : Int)).toNat = n * 256 := by simp [BitVec.toNat_ofInt]; omega
 have e2 : (BitVec.ofInt 64 (c : Int)).toNat = c := by simp [BitVec.toNat_ofInt]; omega
 have e3 : n * 256 ||| c = n * 256 + c := by
  rw [show n * 256 = n <<< 8 by rw [Nat.shiftLeft_eq]]
  exact (Nat.shiftLeft_add_eq_or_of_lt (by omega) n).symm
 rw [e1, e2, e3]
 omega
theorem put_set {b T : List Int} {m : Nat} {z : Int} : ((b ++ List.replicate (m + 1) 0 ++ T).map cB).set (0 + (b.length + m)) (cB z) = (b ++ List.replicate m 0 ++ (z :: T)).map cB := by
 rw [Nat.zero_add, List.replicate_succ', show b ++ (List.replicate m (0 : Int) ++ [0]) ++ T = (b ++ List.replicate m 0) ++ 0 :: T by simp, List.map_append, List.map_cons, Z.set_mid (by simp)]
 simp
theorem put_lay {b : List Int} {n k : Nat} {fl : Bool} (hk : b.length ≤ k) : lay (List.replicate (b.length + n) (cB 0)) 0 (List.take k ((b.map eB).map (List.map (RT.ce fl)))) = (b ++ List.replicate n 0 ++ []).map cB := by
 rw [List.take_of_length_le (by simpa using hk)]
 have h1 : ((b.map eB).map (List.map (RT.ce fl))) = b.map cB := map_ce fun _ => rfl
 rw [h1, List.append_nil, List.map_append, List.map_replicate]
 unfold lay
 simp
theorem mkN_any {lz cz : Int} (l : Nat) {bt : Nat} {A : Nat → Nat → Prop} (e1 : lz = (l : Int)) (e2 : cz = (l : Int)) (h2 : l ≤ maxLen) (h3 : bt * l ≤ 140737488355328) (k : A l l) : mkN lz cz bt A := ⟨l, l, e1, e2, Nat.le_refl _, h2, h3, k⟩
theorem put_row {b T : List Int} {m : Nat} : ((b ++ List.replicate (m + 1) 0 ++ T).map cB)[0 + (b.length + m)]? = some (cB 0) := by
 rw [Nat.zero_add, List.replicate_succ', show b ++ (List.replicate m (0 : Int) ++ [0]) ++ T = (b ++ List.replicate m 0) ++ 0 :: T by simp, List.map_append, List.map_cons, Z.get_mid (by simp)]
theorem vN_shr8 {p : Int} {A : Int → Prop} (hp : 0 ≤ p) (h : A (p / 256)) : vN (p.fdiv (2 ^ (min (Int.toNat 8) IntKind.u64.bits))) A := ⟨_, Int.fdiv_eq_ediv_of_nonneg _ (by decide), h⟩
theorem ce_cB {fl : Bool} {l : List Int} : (l.map eB).map (List.map (RT.ce fl)) = l.map cB := map_ce fun _ => rfl
theorem ren_cB {l : List Int} {r : Nat → Nat} : (l.map cB).map (List.map (Ce.ren r)) = l.map cB := ren_map fun _ => rfl
theorem isB_take {l : List Int} {n : Nat} (h : isB l) : isB (l.take n) := fun b hb => h b (List.mem_of_mem_take hb)
theorem isB_drop {l : List Int} {n : Nat} (h : isB l) : isB (l.drop n) := fun b hb => h b (List.mem_of_mem_drop hb)
theorem rest_at {R : List (List RT)} {l : List Int} {j : Nat} {z : Int} (hR : R = l.map eB) (h : l[j]? = some z) : R[j]? = some (eB z) := by
 rw [hR, List.getElem?_map, h]; rfl
theorem pow_le7 {j : Nat} (h : j ≤ 7) : (256 : Int) ^ j ≤ 256 ^ 7 := by
 have : ∀ j : Fin 8, (256 : Int) ^ j.1 ≤ 256 ^ 7 := by decide
 exact this ⟨j, by omega⟩
theorem num_lt {l : List Int} {i : Nat} (hi : i < 8) (hl : i ≤ l.length) (hB : isB l) : 0 ≤ numR (l.take i) ∧ numR (l.take i) < 72057594037927936 := by
 have h1 := numR_lt (n := i) (l := l.take i) (by simp; omega) (isB_take hB)
 have h2 := pow_le7 (j := i) (by omega)
 have h3 : (256 : Int) ^ 7 = 72057594037927936 := by decide
 rw [h3] at h2
 exact ⟨h1.1, Int.lt_of_lt_of_le h1.2 h2⟩
theorem ap3 {r : List Int} : r = r.take 8 ++ ((r.drop 8).take 8 ++ r.drop 16) := by
 conv => lhs; rw [← List.take_append_drop 8 r, ← List.take_append_drop 8 (r.drop 8), List.drop_drop]
theorem num8 {l : List Int} (hl : l.length = 8) (hB : isB l) : be 8 (IntKind.u64.wrap (IntKind.i64.wrap (numR l))) = l := by
 have h := numR_lt hl hB
 rw [u64_i64 ⟨h.1, by have := h.2; simpa using this⟩, be_numR hl hB]
theorem i64_rng (z : Int) : -9223372036854775808 ≤ IntKind.i64.wrap z ∧ IntKind.i64.wrap z ≤ 9223372036854775807 := by
 simp [IntKind.wrap, IntKind.bits, IntKind.signed]
 omega
def cmpI (a b : Int) : Int := if a < b then -1 else if b < a then 1 else 0
def cmpR (s k s2 k2 : Int) : Int := if cmpI s s2 ≠ 0 then cmpI s s2 else cmpI k k2
structure Kc where
 src : Int
 key : Int
 cnt : Int
 sum : Int
deriving DecidableEq
def keyOk (s k : Int) : Bool := decide ((0 ≤ s ∧ s < 8) ∧ 0 ≤ k ∧ k < 32)
def kLt (s k s2 k2 : Int) : Prop := s < s2 ∨ (s = s2 ∧ k < k2)
instance (s k s2 k2 : Int) : Decidable (kLt s k s2 k2) := by unfold kLt; infer_instance
def okT : Option Kc → List Kc → Bool
 | _, [] => true
 | none, x :: r => keyOk x.src x.key && decide (0 < x.cnt) && okT (some x) r
 | some p, x :: r => keyOk x.src x.key && decide (0 < x.cnt) && decide (kLt p.src p.key x.src x.key) && okT (some x) r
def tabR (l : List Kc) : Bool := okT none l
theorem okT_all : ∀ {l : List Kc} {p : Option Kc}, okT p l = true → ∀ x ∈ l, keyOk x.src x.key = true ∧ 0 < x.cnt
 | [], _, _, x, hx => nomatch hx
 | y :: l, p, h, x, hx => by
  have h' : (keyOk y.src y.key = true ∧ 0 < y.cnt) ∧ okT (some y) l = true := by
   cases p with
   | none => simp only [okT, Bool.and_eq_true, decide_eq_true_eq] at h; exact ⟨h.1, h.2⟩
   | some p => simp only [okT, Bool.and_eq_true, decide_eq_true_eq] at h; exact ⟨h.1.1, h.2⟩
  rcases List.mem_cons.1 hx with rfl | hx
  ·exact h'.1
  ·exact okT_all h'.2 x hx
theorem keyOk_iff {s k : Int} : keyOk s k = true ↔ (0 ≤ s ∧ s < 8) ∧ 0 ≤ k ∧ k < 32 := by unfold keyOk; exact decide_eq_true_iff
theorem okT_len : ∀ {l : List Kc} {p : Kc}, keyOk p.src p.key = true → okT (some p) l = true → (l.length : Int) ≤ 255 - (p.src * 32 + p.key)
 | [], p, hp, _ => by rw [keyOk_iff] at hp; simp; omega
 | x :: l, p, hp, h => by
  simp only [okT, Bool.and_eq_true, decide_eq_true_eq] at h
  have ih := okT_len h.1.1.1 h.2
  have hx := keyOk_iff.1 h.1.1.1
  have hp' := keyOk_iff.1 hp
  have hk := h.1.2
  unfold kLt at hk
  simp only [List.length_cons]
  omega
theorem tab_len {l : List Kc} (h : tabR l = true) : l.length ≤ 256 := by
 cases l with
 | nil => simp
 | cons x l =>
  unfold tabR at h
  simp only [okT, Bool.and_eq_true, decide_eq_true_eq] at h
  have ih := okT_len h.1.1 h.2
  have hx := keyOk_iff.1 h.1.1
  simp only [List.length_cons]
  omega
def encK (x : Kc) : List Int := [x.src % 256, x.key % 256] ++ (be 8 (IntKind.u64.wrap x.cnt) ++ be 8 (IntKind.u64.wrap x.sum))
def encT (l : List Kc) : List Int := be 2 (IntKind.u16.wrap (l.length : Int)) ++ l.flatMap encK
theorem encK_len (x : Kc) : (encK x).length = 18 := by unfold encK; simp [be_len]
theorem encKs_len : ∀ l : List Kc, (l.flatMap encK).length = 18 * l.length
 | [] => rfl
 | x :: l => by rw [List.flatMap_cons, List.length_append, encK_len, encKs_len l, List.length_cons]; omega
theorem encKs_snoc {l : List Kc} {k : Nat} {x : Kc} (h : l[k]? = some x) : (l.take (k + 1)).flatMap encK = (l.take k).flatMap encK ++ encK x := by rw [take_snoc h, List.flatMap_append]; simp
def rowD (b : List Int) : Kc := ⟨(b.take 1).headD 0, ((b.drop 1).take 1).headD 0, IntKind.i64.wrap (numR ((b.drop 2).take 8)), IntKind.i64.wrap (numR ((b.drop 10).take 8))⟩
def decK : Nat → List Int → List Kc × Int × List Int
 | 0, b => ([], 0, b)
 | n + 1, b => if b.length < 18 then ([], 7, []) else if (decK n (b.drop 18)).2.1 = 0 then (rowD b :: (decK n (b.drop 18)).1, 0, (decK n (b.drop 18)).2.2) else ([], 7, [])
def decT (b : List Int) : List Kc × Int :=
 if b.length < 2 then ([], 7) else
 if (decK (numR (b.take 2)).toNat (b.drop 2)).2.1 = 0 then (if tabR (decK (numR (b.take 2)).toNat (b.drop 2)).1 = true ∧ (decK (numR (b.take 2)).toNat (b.drop 2)).2.2 = [] then ((decK (numR (b.take 2)).toNat (b.drop 2)).1, 0) else ([], 220)) else ([], 7)
def okK (x : Kc) : Prop := (0 ≤ x.src ∧ x.src ≤ 255) ∧ (0 ≤ x.key ∧ x.key ≤ 255) ∧ (-9223372036854775808 ≤ x.cnt ∧ x.cnt ≤ 9223372036854775807) ∧ (-9223372036854775808 ≤ x.sum ∧ x.sum ≤ 9223372036854775807)
theorem rowD_enc {x : Kc} (h : okK x) (T : List Int) : rowD (encK x ++ T) = x := by
 obtain ⟨h1, h2, h3, h4⟩ := h
 unfold encK
 rw [show x.src % 256 = x.src by omega, show x.key % 256 = x.key by omega]
 have l1 : (be 8 (IntKind.u64.wrap x.cnt)).length = 8 := be_len
 have l2 : (be 8 (IntKind.u64.wrap x.sum)).length = 8 := be_len
 have n1 : numR (be 8 (IntKind.u64.wrap x.cnt)) = IntKind.u64.wrap x.cnt := numR_be (u64_rng _).1 (u64_rng _).2
 have n2 : numR (be 8 (IntKind.u64.wrap x.sum)) = IntKind.u64.wrap x.sum := numR_be (u64_rng _).1 (u64_rng _).2
 generalize be 8 (IntKind.u64.wrap x.cnt) = A at *
 generalize be 8 (IntKind.u64.wrap x.sum) = B at *
 have e : ([x.src, x.key] ++ (A ++ B)) ++ T = x.src :: x.key :: (A ++ (B ++ T)) := by simp
 rw [e]
 unfold rowD
 have e1 : ((x.src :: x.key :: (A ++ (B ++ T))).drop 2).take 8 = A := by
  show (A ++ (B ++ T)).take 8 = A
  exact List.take_left' l1
 have e2 : ((x.src :: x.key :: (A ++ (B ++ T))).drop 10).take 8 = B := by
  show ((A ++ (B ++ T)).drop 8).take 8 = B
  rw [List.drop_left' l1, List.take_left' l2]
 rw [e1, e2, n1, n2, i64_u64 h3, i64_u64 h4]
 rfl
theorem decK_enc : ∀ {L : List Kc}, (∀ x ∈ L, okK x) → ∀ T : List Int, decK L.length (L.flatMap encK ++ T) = (L, 0, T)
 | [], _, T => rfl
 | x :: L, h, T => by
  have hd : (encK x ++ (L.flatMap encK ++ T)).drop 18 = L.flatMap encK ++ T := List.drop_left' (encK_len x)
  rw [List.flatMap_cons, List.append_assoc, List.length_cons, decK, if_neg (by rw [List.length_append, encK_len]; omega), hd, decK_enc (fun p hp => h p (by simp [hp])) T, rowD_enc (h x (by simp))]
  rfl
theorem rowD_inv {b : List Int} (hB : isB b) (hl : 18 ≤ b.length) : b = encK (rowD b) ++ b.drop 18 ∧ okK (rowD b) := by
 match b, hl with
 | t :: w :: r, hl =>
  have ht := hB t (by simp)
  have hw := hB w (by simp)
  have hBr : isB r := fun x hx => hB x (by simp [hx])
  simp only [List.length_cons] at hl
  have e : rowD (t :: w :: r) = ⟨t, w, IntKind.i64.wrap (numR (r.take 8)), IntKind.i64.wrap (numR ((r.drop 8).take 8))⟩ := rfl
  have hok : okK (rowD (t :: w :: r)) := by rw [e]; exact ⟨ht, hw, i64_rng _, i64_rng _⟩
  refine ⟨?_, hok⟩
  rw [e]
  unfold encK
  simp only
  rw [num8 (by rw [List.length_take]; omega) (isB_take hBr), num8 (by rw [List.length_take, List.length_drop]; omega) (isB_take (isB_drop hBr)), show t % 256 = t by omega, show w % 256 = w by omega]
  show t :: w :: r = ([t, w] ++ (r.take 8 ++ (r.drop 8).take 8)) ++ r.drop 16
  conv => lhs; rw [@ap3 r]
  simp
theorem decK_inv : ∀ {n : Nat} {b : List Int} {L : List Kc} {r : List Int}, isB b → decK n b = (L, 0, r) → b = L.flatMap encK ++ r ∧ L.length = n ∧ ∀ x ∈ L, okK x
 | 0, b, L, r, _, h => by
  simp only [decK, Prod.mk.injEq, true_and] at h
  obtain ⟨rfl, rfl⟩ := h
  exact ⟨rfl, rfl, fun x hx => nomatch hx⟩
 | n + 1, b, L, r, hB, h => by
  rw [decK] at h
  split at h
  ·simp at h
  ·rename_i hl
   split at h
   ·rename_i h2
    simp only [Prod.mk.injEq, true_and] at h
    obtain ⟨rfl, rfl⟩ := h
    obtain ⟨e1, e2⟩ := rowD_inv hB (by omega)
    obtain ⟨i1, i2, i3⟩ := decK_inv (isB_drop (n := 18) hB) (L := (decK n (b.drop 18)).1) (r := (decK n (b.drop 18)).2.2) (by rw [← h2])
    refine ⟨?_, by rw [List.length_cons, i2], fun x hx => ?_⟩
    ·rw [List.flatMap_cons, List.append_assoc, ← i1]
     exact e1
    ·rcases List.mem_cons.1 hx with rfl | hx
     ·exact e2
     ·exact i3 x hx
   ·simp at h
theorem u16_in {n : Nat} (h : n ≤ 65535) : IntKind.u16.wrap (n : Int) = (n : Int) := by
 simp [IntKind.wrap, IntKind.bits, IntKind.signed]; omega
theorem num2 {n : Nat} (h : n ≤ 65535) : numR (be 2 (IntKind.u16.wrap (n : Int))) = (n : Int) := by
 rw [u16_in h]; exact numR_be (by omega) (by omega)
def encTR (l : List Kc) : List Int × Int := if tabR l = true then (encT l, 0) else ([], 220)
theorem tab_okK {l : List Kc} (h : tabR l = true) (hab : ∀ x ∈ l, (-9223372036854775808 ≤ x.cnt ∧ x.cnt ≤ 9223372036854775807) ∧ (-9223372036854775808 ≤ x.sum ∧ x.sum ≤ 9223372036854775807)) : ∀ x ∈ l, okK x := fun x hx => by
 have h1 := keyOk_iff.1 (okT_all h x hx).1
 exact ⟨by omega, by omega, (hab x hx).1, (hab x hx).2⟩
theorem encT_len (l : List Kc) : (encT l).length = 2 + 18 * l.length := by unfold encT; rw [List.length_append, be_len, encKs_len]
theorem encT_two (l : List Kc) : (encT l).take 2 = be 2 (IntKind.u16.wrap (l.length : Int)) ∧ (encT l).drop 2 = l.flatMap encK := by
 unfold encT
 exact ⟨List.take_left' be_len, List.drop_left' be_len⟩
theorem decT_back {l : List Kc} (h : tabR l = true) (ho : ∀ x ∈ l, okK x) : decT (encT l) = (l, 0) := by
 have hl := tab_len h
 have hd := decK_enc ho []
 rw [List.append_nil] at hd
 unfold decT
 rw [if_neg (by rw [encT_len]; omega), (encT_two l).1, (encT_two l).2, num2 (by omega), Int.toNat_natCast, hd, if_pos rfl, if_pos ⟨h, rfl⟩]
theorem decT_any {b : List Int} (hB : isB b) : ((decT b).2 = 0 ∧ encTR (decT b).1 = (b, 0) ∧ (decT b).1.length ≤ 256 ∧ ∀ x ∈ (decT b).1, okK x) ∨ ((decT b).1 = [] ∧ ((decT b).2 = 7 ∨ (decT b).2 = 220)) := by
 unfold decT
 by_cases h2 : b.length < 2
 ·rw [if_pos h2]; exact .inr ⟨rfl, .inl rfl⟩
 ·rw [if_neg h2]
  have hn := numR_lt (n := 2) (l := b.take 2) (by rw [List.length_take]; omega) (isB_take hB)
  by_cases h3 : (decK (numR (b.take 2)).toNat (b.drop 2)).2.1 = 0
  ·rw [if_pos h3]
   by_cases h4 : tabR (decK (numR (b.take 2)).toNat (b.drop 2)).1 = true ∧ (decK (numR (b.take 2)).toNat (b.drop 2)).2.2 = []
   ·rw [if_pos h4]
    obtain ⟨e1, e2, e3⟩ := decK_inv (isB_drop (n := 2) hB) (L := (decK (numR (b.take 2)).toNat (b.drop 2)).1) (r := (decK (numR (b.take 2)).toNat (b.drop 2)).2.2) (by rw [← h3])
    rw [h4.2, List.append_nil] at e1
    refine .inl ⟨rfl, ?_, tab_len h4.1, e3⟩
    unfold encTR encT
    simp only
    rw [if_pos h4.1, e2, ← e1, Int.toNat_of_nonneg hn.1, show IntKind.u16.wrap (numR (b.take 2)) = numR (b.take 2) by (have := hn.2; simp [IntKind.wrap, IntKind.bits, IntKind.signed]; omega), be_numR (by rw [List.length_take]; omega) (isB_take hB), List.take_append_drop]
   ·rw [if_neg h4]; exact .inr ⟨rfl, .inr rfl⟩
  ·rw [if_neg h3]; exact .inr ⟨rfl, .inl rfl⟩
theorem kLt_trans {a b c d e f : Int} (h1 : kLt a b c d) (h2 : kLt c d e f) : kLt a b e f := by unfold kLt at *; omega
theorem kLt_irr {a b : Int} : ¬ kLt a b a b := by unfold kLt; omega
theorem kLt_asym {a b c d : Int} (h : kLt a b c d) : ¬ kLt c d a b := by unfold kLt at *; omega
theorem kLt_tri {a b c d : Int} : kLt a b c d ∨ (a = c ∧ b = d) ∨ kLt c d a b := by unfold kLt; omega
abbrev kLtK (x y : Kc) : Prop := kLt x.src x.key y.src y.key
theorem okT_pw : ∀ {l : List Kc} {p : Kc}, okT (some p) l = true → (∀ x ∈ l, kLtK p x) ∧ l.Pairwise kLtK
 | [], _, _ => ⟨(fun x hx => nomatch hx), List.Pairwise.nil⟩
 | y :: l, p, h => by
  simp only [okT, Bool.and_eq_true, decide_eq_true_eq] at h
  obtain ⟨h1, h2⟩ := okT_pw h.2
  refine ⟨fun x hx => ?_, List.Pairwise.cons h1 h2⟩
  rcases List.mem_cons.1 hx with rfl | hx
  ·exact h.1.2
  ·exact kLt_trans h.1.2 (h1 x hx)
theorem okT_of : ∀ {l : List Kc} {p : Kc}, (∀ x ∈ l, keyOk x.src x.key = true ∧ 0 < x.cnt) → (∀ x ∈ l, kLtK p x) → l.Pairwise kLtK → okT (some p) l = true
 | [], _, _, _, _ => rfl
 | y :: l, p, h, hp, hw => by
  rw [List.pairwise_cons] at hw
  simp only [okT, Bool.and_eq_true, decide_eq_true_eq]
  exact ⟨⟨h y (by simp), hp y (by simp)⟩, okT_of (fun x hx => h x (by simp [hx])) hw.1 hw.2⟩
theorem tab_iff {l : List Kc} : tabR l = true ↔ (∀ x ∈ l, keyOk x.src x.key = true ∧ 0 < x.cnt) ∧ l.Pairwise kLtK := by
 constructor
 ·intro h
  refine ⟨okT_all h, ?_⟩
  cases l with
  | nil => exact List.Pairwise.nil
  | cons y l =>
   unfold tabR at h
   simp only [okT, Bool.and_eq_true] at h
   exact List.Pairwise.cons (okT_pw h.2).1 (okT_pw h.2).2
 ·rintro ⟨h1, h2⟩
  cases l with
  | nil => rfl
  | cons y l =>
   rw [List.pairwise_cons] at h2
   unfold tabR
   simp only [okT, Bool.and_eq_true, decide_eq_true_eq]
   exact ⟨h1 y (by simp), okT_of (fun x hx => h1 x (by simp [hx])) h2.1 h2.2⟩
def ltK (s k : Int) (x : Kc) : Bool := decide (kLt x.src x.key s k)
def gtK (s k : Int) (x : Kc) : Bool := decide (kLt s k x.src x.key)
def eqK (s k : Int) (x : Kc) : Bool := decide (x.src = s ∧ x.key = k)
def ownK (s k : Int) (c : Int × Int) : List Kc := if c = (0, 0) then [] else [⟨s, k, c.1, c.2⟩]
def putR (l : List Kc) (s k : Int) (c : Int × Int) : List Kc := l.filter (ltK s k) ++ ownK s k c ++ l.filter (gtK s k)
def getR (l : List Kc) (s k : Int) : Int × Int := match l.find? (eqK s k) with
 | none => (0, 0)
 | some x => (x.cnt, x.sum)
theorem put_tab {l : List Kc} {s k : Int} {c : Int × Int} (h : tabR l = true) (hk : keyOk s k = true) (hc : c = (0, 0) ∨ 0 < c.1) : tabR (putR l s k c) = true := by
 rw [tab_iff] at h ⊢
 obtain ⟨h1, h2⟩ := h
 have hown : ∀ x ∈ ownK s k c, x.src = s ∧ x.key = k ∧ 0 < x.cnt := fun x hx => by
  unfold ownK at hx
  split at hx
  ·cases hx
  ·rename_i h0
   rw [List.mem_singleton.1 hx]
   exact ⟨rfl, rfl, hc.resolve_left h0⟩
 refine ⟨fun x hx => ?_, ?_⟩
 ·unfold putR at hx
  simp only [List.mem_append, List.mem_filter] at hx
  rcases hx with (hx | hx) | hx
  ·exact h1 x hx.1
  ·obtain ⟨e1, e2, e3⟩ := hown x hx
   rw [e1, e2]; exact ⟨hk, e3⟩
  ·exact h1 x hx.1
 ·unfold putR
  rw [List.pairwise_append, List.pairwise_append]
  refine ⟨⟨h2.filter _, ?_, fun x hx y hy => ?_⟩, h2.filter _, fun x hx y hy => ?_⟩
  ·unfold ownK; split
   ·exact List.Pairwise.nil
   ·exact List.pairwise_singleton _ _
  ·obtain ⟨e1, e2, _⟩ := hown y hy
   have := of_decide_eq_true (List.mem_filter.1 hx).2
   unfold kLtK; rw [e1, e2]; exact this
  ·have hy' := of_decide_eq_true (List.mem_filter.1 hy).2
   rcases List.mem_append.1 hx with hx | hx
   ·exact kLt_trans (of_decide_eq_true (List.mem_filter.1 hx).2) hy'
   ·obtain ⟨e1, e2, _⟩ := hown x hx
    unfold kLtK; rw [e1, e2]; exact hy'
def posR (l : List Kc) (s k : Int) : Nat := (l.filter (ltK s k)).length
theorem filter_none {α : Type} {p : α → Bool} {l : List α} (h : ∀ x ∈ l, p x = false) : l.filter p = [] := List.filter_eq_nil_iff.2 fun x hx => by simp [h x hx]
theorem filter_all {α : Type} {p : α → Bool} {l : List α} (h : ∀ x ∈ l, p x = true) : l.filter p = l := List.filter_eq_self.2 h
theorem cut_lt : ∀ {l : List Kc} {s k : Int}, l.Pairwise kLtK → l.filter (ltK s k) = l.take (posR l s k) ∧ l.filter (gtK s k) = l.drop (posR l s k + (l.filter (eqK s k)).length)
 | [], _, _, _ => ⟨rfl, rfl⟩
 | x :: l, s, k, h => by
  rw [List.pairwise_cons] at h
  obtain ⟨i1, i2⟩ := cut_lt (s := s) (k := k) h.2
  rcases @kLt_tri x.src x.key s k with h1 | ⟨h1, h2⟩ | h1
  ·have e1 : ltK s k x = true := decide_eq_true h1
   have e2 : gtK s k x = false := decide_eq_false (kLt_asym h1)
   have e3 : eqK s k x = false := decide_eq_false fun e => by rw [e.1, e.2] at h1; exact kLt_irr h1
   have hp : posR (x :: l) s k = posR l s k + 1 := by unfold posR; rw [List.filter_cons_of_pos e1]; rfl
   rw [hp, List.filter_cons_of_pos e1, List.filter_cons_of_neg (by simp [e2]), List.filter_cons_of_neg (by simp [e3]), List.take_succ_cons, i1, show posR l s k + 1 + (l.filter (eqK s k)).length = (posR l s k + (l.filter (eqK s k)).length) + 1 by omega, List.drop_succ_cons, i2]
   exact ⟨rfl, rfl⟩
  ·have hg : ∀ y ∈ l, kLt s k y.src y.key := fun y hy => by have := h.1 y hy; unfold kLtK at this; rw [h1, h2] at this; exact this
   have e1 : ltK s k x = false := decide_eq_false (by rw [h1, h2]; exact kLt_irr)
   have e2 : gtK s k x = false := decide_eq_false (by rw [h1, h2]; exact kLt_irr)
   have e3 : eqK s k x = true := decide_eq_true ⟨h1, h2⟩
   have f1 : l.filter (ltK s k) = [] := filter_none fun y hy => decide_eq_false (kLt_asym (hg y hy))
   have f2 : l.filter (gtK s k) = l := filter_all fun y hy => decide_eq_true (hg y hy)
   have f3 : l.filter (eqK s k) = [] := filter_none fun y hy => decide_eq_false fun e => by have := hg y hy; rw [e.1, e.2] at this; exact kLt_irr this
   have hp : posR (x :: l) s k = 0 := by unfold posR; rw [List.filter_cons_of_neg (by simp [e1]), f1]; rfl
   rw [hp, List.filter_cons_of_neg (by simp [e1]), List.filter_cons_of_neg (by simp [e2]), List.filter_cons_of_pos e3, f1, f2, f3]
   exact ⟨rfl, rfl⟩
  ·have hg : ∀ y ∈ l, kLt s k y.src y.key := fun y hy => kLt_trans h1 (h.1 y hy)
   have e1 : ltK s k x = false := decide_eq_false (kLt_asym h1)
   have e2 : gtK s k x = true := decide_eq_true h1
   have e3 : eqK s k x = false := decide_eq_false fun e => by rw [e.1, e.2] at h1; exact kLt_irr h1
   have f1 : l.filter (ltK s k) = [] := filter_none fun y hy => decide_eq_false (kLt_asym (hg y hy))
   have f2 : l.filter (gtK s k) = l := filter_all fun y hy => decide_eq_true (hg y hy)
   have f3 : l.filter (eqK s k) = [] := filter_none fun y hy => decide_eq_false fun e => by have := hg y hy; rw [e.1, e.2] at this; exact kLt_irr this
   have hp : posR (x :: l) s k = 0 := by unfold posR; rw [List.filter_cons_of_neg (by simp [e1]), f1]; rfl
   rw [hp, List.filter_cons_of_neg (by simp [e1]), List.filter_cons_of_pos e2, List.filter_cons_of_neg (by simp [e3]), f1, f2, f3]
   exact ⟨rfl, rfl⟩
theorem eq_at : ∀ {l : List Kc} {s k : Int}, l.Pairwise kLtK → (l.filter (eqK s k)).length ≤ 1 ∧ ((l.filter (eqK s k)).length = 1 ↔ ∃ x, l[posR l s k]? = some x ∧ x.src = s ∧ x.key = k)
 | [], _, _, _ => by simp
 | x :: l, s, k, h => by
  rw [List.pairwise_cons] at h
  obtain ⟨i1, i2⟩ := eq_at (s := s) (k := k) h.2
  rcases @kLt_tri x.src x.key s k with h1 | ⟨h1, h2⟩ | h1
  ·have e1 : ltK s k x = true := decide_eq_true h1
   have e3 : eqK s k x = false := decide_eq_false fun e => by rw [e.1, e.2] at h1; exact kLt_irr h1
   have hp : posR (x :: l) s k = posR l s k + 1 := by unfold posR; rw [List.filter_cons_of_pos e1]; rfl
   rw [hp, List.filter_cons_of_neg (by simp [e3]), List.getElem?_cons_succ]
   exact ⟨i1, i2⟩
  ·have hg : ∀ y ∈ l, kLt s k y.src y.key := fun y hy => by have := h.1 y hy; unfold kLtK at this; rw [h1, h2] at this; exact this
   have e1 : ltK s k x = false := decide_eq_false (by rw [h1, h2]; exact kLt_irr)
   have e3 : eqK s k x = true := decide_eq_true ⟨h1, h2⟩
   have f1 : l.filter (ltK s k) = [] := filter_none fun y hy => decide_eq_false (kLt_asym (hg y hy))
   have f3 : l.filter (eqK s k) = [] := filter_none fun y hy => decide_eq_false fun e => by have := hg y hy; rw [e.1, e.2] at this; exact kLt_irr this
   have hp : posR (x :: l) s k = 0 := by unfold posR; rw [List.filter_cons_of_neg (by simp [e1]), f1]; rfl
   rw [hp, List.filter_cons_of_pos e3, f3]
   exact ⟨Nat.le_refl _, fun _ => ⟨x, rfl, h1, h2⟩, fun _ => rfl⟩
  ·have hg : ∀ y ∈ l, kLt s k y.src y.key := fun y hy => kLt_trans h1 (h.1 y hy)
   have e1 : ltK s k x = false := decide_eq_false (kLt_asym h1)
   have e3 : eqK s k x = false := decide_eq_false fun e => by rw [e.1, e.2] at h1; exact kLt_irr h1
   have f1 : l.filter (ltK s k) = [] := filter_none fun y hy => decide_eq_false (kLt_asym (hg y hy))
   have f3 : l.filter (eqK s k) = [] := filter_none fun y hy => decide_eq_false fun e => by have := hg y hy; rw [e.1, e.2] at this; exact kLt_irr this
   have hp : posR (x :: l) s k = 0 := by unfold posR; rw [List.filter_cons_of_neg (by simp [e1]), f1]; rfl
   rw [hp, List.filter_cons_of_neg (by simp [e3]), f3]
   refine ⟨Nat.zero_le _, fun h => by simp at h, ?_⟩
   rintro ⟨y, hy, h2, h3⟩
   cases hy
   rw [h2, h3] at h1
   exact absurd h1 kLt_irr
theorem put_no {l : List Kc} {s k : Int} {c : Int × Int} (h : tabR l = true) (hn : ∀ x, l[posR l s k]? = some x → ¬ (x.src = s ∧ x.key = k)) : putR l s k c = l.take (posR l s k) ++ ownK s k c ++ l.drop (posR l s k) := by
 have hw := (tab_iff.1 h).2
 have h1 : (l.filter (eqK s k)).length = 0 := by
  have := (eq_at (s := s) (k := k) hw).1
  have h2 : ¬ (l.filter (eqK s k)).length = 1 := fun e => by
   obtain ⟨x, hx, he⟩ := ((eq_at hw).2).1 e
   exact hn x hx he
  omega
 unfold putR
 rw [(cut_lt hw).1, (cut_lt hw).2, h1, Nat.add_zero]
theorem cmp_lt {s k s2 k2 : Int} : decide (0 ≤ cmpR s k s2 k2) = !decide (kLt s k s2 k2) := by
 unfold cmpR cmpI kLt
 by_cases h1 : s < s2
 ·simp [h1]
 ·by_cases h2 : s2 < s
  ·have h3 : ¬ s = s2 := by omega
   simp [h1, h2, h3]
  ·have h3 : s = s2 := by omega
   by_cases h4 : k < k2
   ·simp [h3, h4]
   ·by_cases h5 : k2 < k
    ·simp [h3, h4, h5]
    ·simp [h3, h4, h5]
abbrev eK (x : Kc) : List RT := [RT.v (.int .i64 x.src), RT.v (.int .i64 x.key), RT.v (.int .i64 x.cnt), RT.v (.int .i64 x.sum)]
abbrev cK (x : Kc) : List Ce := [Ce.v (.int .i64 x.src), Ce.v (.int .i64 x.key), Ce.v (.int .i64 x.cnt), Ce.v (.int .i64 x.sum)]
def prevR (l : List Kc) : Nat → Option Kc
 | 0 => none
 | i + 1 => l[i]?
theorem okT_at {l : List Kc} {i : Nat} {x : Kc} (h : l[i]? = some x) : okT (prevR l i) (l.drop i) = (keyOk x.src x.key && decide (0 < x.cnt) && (match prevR l i with | none => true | some q => decide (kLt q.src q.key x.src x.key)) && okT (prevR l (i + 1)) (l.drop (i + 1))) := by
 rw [drop_cons h]
 have e : prevR l (i + 1) = some x := h
 rw [e]
 cases hp : prevR l i with
 | none => simp [okT]
 | some q => simp [okT]
end Tab
end Go.Proofs.Ytopieffkpdlpbaa
namespace Go.Proofs.Ytopieffkpdlpbaa
open Go Go.RowKit Wx
set_option maxHeartbeats 4000000
namespace Tab
theorem nan_con (a : Int)  : Con Try.prog 117 [.one (.v (.int .i64 a))] (fun rx rK rt => rx = .val (.bool false) ∧ rK = [] ∧ rt = 0) := by
 refine Z.con_ofF tabOk 6 Try.f117 _ Try.func117 (by kernel_rfl) rfl rfl rfl rfl ?_
 repeat' ((conv => whnf); first
  | with_reducible first | refine spB_t ?_
  | fail)
 all_goals (try (conv => whnf))
 all_goals first
  | ((first | (with_reducible apply Z.retF1)); (focus rfl); (repeat' (first | exact trivial | (with_reducible apply Z.frz_one) | (with_reducible apply Z.fq_bool) | apply And.intro)); (all_goals (try exact (fun _ => none))); all_goals (simp))
  | fail
theorem cmp_con (a b : Int)  : Con Try.prog 108 [.one (.v (.int .i64 a)), .one (.v (.int .i64 b))] (fun rx rK rt => rx = .val (.int .i64 (cmpI a b)) ∧ rK = [] ∧ rt = 0) := by
 refine Z.con_ofF tabOk 20 Try.f108 _ Try.func108 (by kernel_rfl) rfl rfl rfl rfl ?_
 repeat' ((conv => whnf); first
  | with_reducible first | refine spB_no (by decide) ?_
  | (with_reducible refine spB_dec ?_ ?_ <;> intro _ <;> (try (exfalso; (first | (rename_i hz; with_reducible exact absurd rfl hz)))))
  | ((first | (with_reducible apply Z.callZ_mk ?_ (nan_con _) ?_)); (rotate_left 1); (focus ((repeat' (first | exact trivial | exact rfl | apply And.intro)); done)))
  | fail)
 all_goals (try (conv => whnf))
 all_goals first
  | ((first | (with_reducible apply Z.retF1)); (focus rfl); (repeat' (first | exact trivial | (with_reducible apply Z.frz_one) | (with_reducible apply Z.fq_int) | apply And.intro)); (all_goals (try exact (fun _ => none))); all_goals (first | (unfold cmpI; first | rw [if_pos (by omega)] | rw [if_neg (by omega), if_pos (by omega)] | rw [if_neg (by omega), if_neg (by omega)])))
  | fail
theorem or_con (a b : Int)  : Con Try.prog 107 [.one (.ro false 1 [[.v (.int .i64 a)], [.v (.int .i64 b)]])] (fun rx rK rt => rx = .val (.int .i64 (if a ≠ 0 then a else b)) ∧ rK = [] ∧ rt = 0) := by
 refine Z.con_ofF tabOk 18 Try.f107 _ Try.func107 (by kernel_rfl) rfl rfl rfl rfl ?_
 repeat' ((conv => whnf); first
  | (with_reducible refine spB_dec ?_ ?_ <;> intro _ <;> (try (exfalso; (first | (rename_i hz; simp at hz; done)))))
  | (with_reducible refine spB_bne ?_ ?_ <;> intro _ <;> (try (exfalso; (first | (simp only [LN] at *; omega)))))
  | with_reducible first | refine Z.loopZ_unroll tabOk 3 ?_
  | ((with_reducible apply rowN_mk); (focus rfl))
  | ((with_reducible apply ixN_lit); (focus rfl); (focus rfl))
  | with_reducible refine wr_i64 (by first | omega | (simp only [LN] at *; omega)) ?_
  | fail)
 all_goals (try (conv => whnf))
 all_goals try first | (show Nat.ble _ _ = true; rfl) | (exfalso; rename_i hz; cases hz; done) | (exfalso; (try simp only [LN] at *) <;> omega)
 all_goals first
  | ((first | (with_reducible apply Z.retF1)); (focus rfl); (repeat' (first | exact trivial | (with_reducible apply Z.frz_one) | (with_reducible apply Z.fq_int) | (apply Z.fq_int) | apply And.intro)); (all_goals (try exact (fun _ => none))); all_goals (first | (simp_all; done)))
  | fail
theorem compare_con (s k v s2 k2 v2 : Int)  : Con Try.prog 99 [.agg [.v (.int .i64 s), .v (.int .i64 k), .v (.int .i64 v)], .agg [.v (.int .i64 s2), .v (.int .i64 k2), .v (.int .i64 v2)]] (fun rx rK rt => rx = .val (.int .i64 (cmpR s k s2 k2)) ∧ rK = [] ∧ rt = 0) := by
 refine Z.con_ofF tabOk 17 Try.f99 _ Try.func99 (by kernel_rfl) rfl rfl rfl rfl ?_
 repeat' ((conv => whnf); first
  | ((first | (with_reducible apply Z.conZ_mz ?_ (or_con _ _) ?_) | (with_reducible apply Z.conZ_mz ?_ (cmp_con _ _) ?_)); (rotate_left 2); (focus ((repeat' (first | exact trivial | exact ⟨_, rfl, rfl, rfl⟩ | exact rfl | apply And.intro)); done)))
  | with_reducible first | refine Z.drawZ_rule tabOk mixOk ?_ | refine Z.apZ_mk (by kernel_rfl) ?_
  | fail)
 all_goals (try (conv => whnf))
 all_goals first
  | ((first | (with_reducible apply Z.retF1)); (focus rfl); (repeat' (first | exact trivial | exact rfl | apply And.intro)); (all_goals (try exact (fun _ => none))); all_goals (rfl))
  | fail
theorem rec_con (s k v : Int)  : Con Try.prog 64 [.agg [.v (.int .i64 s), .v (.int .i64 k), .v (.int .i64 v)]] (fun rx rK rt => rx = .val (.int .i64 (bif keyOk s k then 0 else 150)) ∧ rK = [] ∧ rt = 0) := by
 refine Z.con_ofF tabOk 21 Try.f64 _ Try.func64 (by kernel_rfl) rfl rfl rfl rfl ?_
 repeat' ((conv => whnf); first
  | with_reducible first | refine spB_t ?_
  | with_reducible first | refine spB_no (by decide) ?_
  | (with_reducible refine spB_dec ?_ ?_ <;> intro _ <;> (try (exfalso; (first | (simp only [LN] at *; omega)))))
  | fail)
 all_goals (try (conv => whnf))
 all_goals try first | (show Nat.ble _ _ = true; rfl) | (exfalso; rename_i hz; cases hz; done) | (exfalso; (try simp only [LN] at *) <;> omega)
 all_goals first
  | ((first | (with_reducible apply Z.retF1)); (focus rfl); (repeat' (first | exact trivial | (with_reducible apply Z.frz_one) | (with_reducible apply Z.fq_int) | apply And.intro)); (all_goals (try exact (fun _ => none))); all_goals (first | (rw [show keyOk s k = true from keyOk_iff.2 (by omega)]; rfl) | (rw [show keyOk s k = false by (cases hz : keyOk s k with | false => rfl | true => exact absurd (keyOk_iff.1 hz) (by omega))]; rfl)))
  | fail
end Tab
end Go.Proofs.Ytopieffkpdlpbaa
namespace Go.Proofs.Ytopieffkpdlpbaa
open Go Go.RowKit Wx
set_option maxHeartbeats 4000000
namespace Tab
def thereR (l : List Kc) (s k : Int) : Bool := match l[posR l s k]? with
 | none => false
 | some x => x.src == s && x.key == k
end Tab
end Go.Proofs.Ytopieffkpdlpbaa
namespace Go.Proofs.Ytopieffkpdlpbaa
open Go Go.RowKit Wx
set_option maxHeartbeats 4000000
namespace Tab
end Tab
end Go.Proofs.Ytopieffkpdlpbaa
namespace Go.Proofs.Ytopieffkpdlpbaa
open Go Go.RowKit Wx
set_option maxHeartbeats 4000000
namespace Tab
theorem check_con (l : List Kc) (hl : l.length ≤ 9223372036854775807) : Con Try.prog 66 [.agg [.ro false 4 (l.map eK)]] (fun rx rK rt => rx = .val (.int .i64 (bif tabR l then 0 else 220)) ∧ rK = [] ∧ rt = 0) := by
 refine Z.con_ofF tabOk 42 Try.f66 _ Try.func66 (by kernel_rfl) rfl rfl rfl rfl ?_
 repeat' ((conv => whnf); first
  | with_reducible first | refine spB_t ?_
  | fail)
 all_goals (try (conv => whnf))
 all_goals try first | (show Nat.ble _ _ = true; rfl) | (exfalso; rename_i hz; cases hz; done) | (exfalso; (try simp only [LN] at *) <;> omega)
 refine Z.loopK tabOk (fun zq : Nat => [(9, .val (.int .i64 (zq : Int)))]) (fun zq : Nat => ([(0, some (Z.Ob.b ⟨[[.ro false 4 (l.map eK)]], 1, 28, true⟩))] : Z.Kr)) (fun zq => zq ≤ l.length ∧ tabR l = okT (prevR l zq) (l.drop zq)) (fun zq => l.length - zq) 0 1 [(1, _), (7, _), (8, _)] ⟨rfl, rfl, rfl, trivial⟩ [] trivial ?_ ?_ rfl rfl ⟨Nat.zero_le _, rfl⟩ ?_
 ·repeat' (first | exact trivial | apply And.intro | exact ⟨_, rfl, Z.Imp.refl _⟩)
 ·repeat' (first | exact trivial | exact (fun b hb => ⟨b, hb, Z.ImpO.refl b⟩) | apply And.intro)
 rintro i HINV
 (try dsimp only at HINV); (try dsimp only)
 obtain ⟨HI, HT⟩ := HINV
 by_cases hi : i < l.length
 ·obtain ⟨x, hx⟩ := getElem?_some' (xs := l) (i := i) hi
  rw [okT_at hx] at HT
  have ck := rec_con x.src x.key 0
  cases hk : keyOk x.src x.key
  ·rw [hk] at ck HT
   simp only [Bool.false_and, cond_false] at ck HT
   rw [HT]
   try simp only [cond_false]
   repeat' ((conv => whnf); first
    | with_reducible first | refine spB_t ?_
    | ((with_reducible apply spB_cong); (focus (simp only [splQ, Int.reduceBEq, Int.reduceBNe]; rfl)))
    | (with_reducible refine spB_dec ?_ ?_ <;> intro _ <;> (try (exfalso; (first | (simp only [LN] at *; omega)))))
    | with_reducible first | refine Z.rowN_known hx ?_
    | ((with_reducible apply ixN_litp); (focus rfl); (focus ((try simp only [LN] at *) <;> omega)))
    | with_reducible first | refine Z.callZ_in tabOk 8 Try.f69 _ Try.func69 (by kernel_rfl) rfl rfl rfl ?_
    | ((first | (with_reducible refine Z.conZ_mz ?_ (ck) ?_)); (focus ((repeat' (first | exact trivial | exact rfl | apply And.intro)); done)))
    | ((with_reducible apply ex_and); exact rfl)
    | with_reducible first | refine Z.drawZ_rule tabOk mixOk ?_ | refine Z.apZ_mk (by kernel_rfl) ?_
    | fail)
   all_goals (try (conv => whnf))
   all_goals try first | (show Nat.ble _ _ = true; rfl) | (exfalso; rename_i hz; cases hz; done) | (exfalso; (try simp only [LN] at *) <;> omega)
   all_goals first
    | ((first | (with_reducible apply Z.retF1)); (focus rfl); (repeat' (first | exact trivial | (with_reducible apply Z.frz_one) | (with_reducible apply Z.fq_int) | exact rfl | apply And.intro)); (all_goals (try exact (fun _ => none))); all_goals (first | (simp; done)))
    | fail
  rw [hk] at ck HT
  simp only [Bool.true_and, cond_true] at ck HT
  by_cases hc : 0 < x.cnt
  rotate_left
  ·rw [decide_eq_false hc, Bool.false_and, Bool.false_and] at HT
   rw [HT]
   try simp only [cond_false]
   repeat' ((conv => whnf); first
    | with_reducible first | refine spB_t ?_
    | ((with_reducible apply spB_cong); (focus (simp only [splQ, Int.reduceBEq, Int.reduceBNe]; rfl)))
    | with_reducible first | refine spB_no (by decide) ?_
    | (with_reducible refine spB_dec ?_ ?_ <;> intro _ <;> (try (exfalso; (first | omega | (simp only [LN] at *; omega)))))
    | with_reducible first | refine Z.rowN_known hx ?_
    | ((with_reducible apply ixN_litp); (focus rfl); (focus ((try simp only [LN] at *) <;> omega)))
    | with_reducible first | refine Z.callZ_in tabOk 8 Try.f69 _ Try.func69 (by kernel_rfl) rfl rfl rfl ?_
    | ((first | (with_reducible refine Z.conZ_mz ?_ (ck) ?_)); (focus ((repeat' (first | exact trivial | exact rfl | apply And.intro)); done)))
    | ((with_reducible apply ex_and); exact rfl)
    | with_reducible first | refine Z.drawZ_rule tabOk mixOk ?_ | refine Z.apZ_mk (by kernel_rfl) ?_
    | fail)
   all_goals (try (conv => whnf))
   all_goals try first | (show Nat.ble _ _ = true; rfl) | (exfalso; rename_i hz; cases hz; done) | (exfalso; (try simp only [LN] at *) <;> omega)
   all_goals first
    | ((first | (with_reducible apply Z.retF1)); (focus rfl); (repeat' (first | exact trivial | (with_reducible apply Z.frz_one) | (with_reducible apply Z.fq_int) | exact rfl | apply And.intro)); (all_goals (try exact (fun _ => none))); all_goals (first | (simp; done)))
    | fail
  rw [decide_eq_true hc, Bool.true_and] at HT
  rcases i with _ | j
  ·have HT2 : tabR l = okT (prevR l 1) (l.drop 1) := by rw [HT]; rfl
   repeat' ((conv => whnf); first
    | ((with_reducible apply spB_cong); (focus (simp only [splQ, Int.reduceBEq, Int.reduceBNe]; rfl)))
    | with_reducible first | refine spB_no (by decide) ?_
    | (with_reducible refine spB_dec ?_ ?_ <;> intro _ <;> (try (exfalso; (first | omega | (simp only [LN] at *; omega)))))
    | with_reducible first | refine Z.rowN_known hx ?_
    | ((with_reducible apply ixN_litp); (focus rfl); (focus ((try simp only [LN] at *) <;> omega)))
    | with_reducible refine wr_i64 (by first | omega | (simp only [LN] at *; omega)) ?_
    | with_reducible first | refine Z.callZ_in tabOk 8 Try.f69 _ Try.func69 (by kernel_rfl) rfl rfl rfl ?_
    | ((first | (with_reducible refine Z.conZ_mz ?_ (ck) ?_)); (focus ((repeat' (first | exact trivial | exact rfl | apply And.intro)); done)))
    | ((with_reducible apply ex_and); exact rfl)
    | with_reducible first | refine Z.drawZ_rule tabOk mixOk ?_ | refine Z.apZ_mk (by kernel_rfl) ?_
    | fail)
   all_goals (try (conv => whnf))
   all_goals try first | (show Nat.ble _ _ = true; rfl) | (exfalso; rename_i hz; cases hz; done) | (exfalso; (try simp only [LN] at *) <;> omega)
   all_goals first
    | ((refine Z.rndK (1) (fun s => [0]) rfl rfl rfl rfl ?_ ?_ ?_ ?_); (focus (repeat' (first | exact trivial | exact rfl | apply And.intro))); (focus (repeat' (first | exact trivial | (intro b hb; cases hb; rfl) | apply And.intro))); (focus (exact ⟨by (try dsimp only); omega, HT2⟩)); ((try dsimp only); omega))
    | fail
  obtain ⟨q, hq⟩ := getElem?_some' (xs := l) (i := j) (by omega)
  have hpr : prevR l (j + 1) = some q := hq
  rw [hpr] at HT
  simp only at HT
  have cc := compare_con q.src q.key 0 x.src x.key 0
  have hcl := @cmp_lt q.src q.key x.src x.key
  generalize cmpR q.src q.key x.src x.key = C at *
  by_cases hlt : kLt q.src q.key x.src x.key
  ·rw [decide_eq_true hlt] at HT hcl
   have hC : ¬ 0 ≤ C := of_decide_eq_false (by simpa using hcl)
   rw [Bool.true_and] at HT
   repeat' ((conv => whnf); first
    | with_reducible first | refine spB_t ?_
    | ((with_reducible apply spB_cong); (focus (simp only [splQ, Int.reduceBEq, Int.reduceBNe]; rfl)))
    | with_reducible first | refine spB_no (by decide) ?_
    | (with_reducible refine spB_dec ?_ ?_ <;> intro _ <;> (try (exfalso; (first | contradiction | omega | (simp only [LN] at *; omega)))))
    | with_reducible first | refine Z.rowN_known hx ?_ | refine Z.rowN_known hq ?_
    | ((with_reducible refine ixN_mk (j) ?_ ?_ ?_); (focus (first | ((try simp only [LN] at *) <;> omega))); (focus ((try simp only [LN] at *) <;> omega)))
    | ((with_reducible apply ixN_litp); (focus rfl); (focus ((try simp only [LN] at *) <;> omega)))
    | with_reducible refine wr_i64 (by first | omega | (simp only [LN] at *; omega)) ?_
    | with_reducible first | refine Z.callZ_in tabOk 8 Try.f69 _ Try.func69 (by kernel_rfl) rfl rfl rfl ?_
    | ((first | (with_reducible refine Z.conZ_mz ?_ (ck) ?_) | (with_reducible refine Z.conZ_mz ?_ (cc) ?_)); (focus ((repeat' (first | exact trivial | exact rfl | apply And.intro)); done)))
    | ((with_reducible apply ex_and); exact rfl)
    | with_reducible first | refine Z.drawZ_rule tabOk mixOk ?_ | refine Z.apZ_mk (by kernel_rfl) ?_
    | ((with_reducible refine Z.ConZ.red ?_); (try subst hlb); (apply Z.conZ_all); (focus (repeat (first | exact Z.FK.nil | (apply Z.FK.keep; exact rfl)))); (focus rfl); (focus rfl); (focus (repeat (first | exact trivial | (refine ⟨(fun o ho => (by first | (cases ho; rfl) | (cases ho; exact Z.inL_map fun _ => rfl) | (cases ho; exact Z.inL_mapr fun _ => rfl) | exact Z.inL_gB ho fun _ => rfl)), ?_⟩)))))
    | ((refine ⟨rfl, ?_, rfl⟩); (focus (repeat (first | exact Z.DK.nil | apply Z.DK.cons))))
    | fail)
   all_goals (try (conv => whnf))
   all_goals try first | (show Nat.ble _ _ = true; rfl) | (exfalso; rename_i hz; cases hz; done) | (exfalso; (try simp only [LN] at *) <;> omega)
   all_goals first
    | ((refine Z.rndK ((j + 1 + 1)) (fun s => [0]) rfl rfl rfl rfl ?_ ?_ ?_ ?_); (focus (repeat' (first | exact trivial | exact rfl | apply And.intro))); (focus (repeat' (first | exact trivial | (intro b hb; cases hb; rfl) | apply And.intro))); (focus (exact ⟨by (try dsimp only); omega, HT⟩)); ((try dsimp only); omega))
    | fail
  ·rw [decide_eq_false hlt] at HT hcl
   have hC : 0 ≤ C := of_decide_eq_true (by simpa using hcl)
   rw [Bool.false_and] at HT
   rw [HT]
   try simp only [cond_false]
   repeat' ((conv => whnf); first
    | with_reducible first | refine spB_t ?_
    | ((with_reducible apply spB_cong); (focus (simp only [splQ, Int.reduceBEq, Int.reduceBNe]; rfl)))
    | with_reducible first | refine spB_no (by decide) ?_
    | (with_reducible refine spB_dec ?_ ?_ <;> intro _ <;> (try (exfalso; (first | contradiction | omega | (simp only [LN] at *; omega)))))
    | with_reducible first | refine Z.rowN_known hx ?_ | refine Z.rowN_known hq ?_
    | ((with_reducible refine ixN_mk (j) ?_ ?_ ?_); (focus (first | ((try simp only [LN] at *) <;> omega))); (focus ((try simp only [LN] at *) <;> omega)))
    | ((with_reducible apply ixN_litp); (focus rfl); (focus ((try simp only [LN] at *) <;> omega)))
    | with_reducible refine wr_i64 (by first | omega | (simp only [LN] at *; omega)) ?_
    | with_reducible first | refine Z.callZ_in tabOk 8 Try.f69 _ Try.func69 (by kernel_rfl) rfl rfl rfl ?_
    | ((first | (with_reducible refine Z.conZ_mz ?_ (ck) ?_) | (with_reducible refine Z.conZ_mz ?_ (cc) ?_)); (focus ((repeat' (first | exact trivial | exact rfl | apply And.intro)); done)))
    | ((with_reducible apply ex_and); exact rfl)
    | with_reducible first | refine Z.drawZ_rule tabOk mixOk ?_ | refine Z.apZ_mk (by kernel_rfl) ?_
    | ((with_reducible refine Z.ConZ.red ?_); (try subst hlb); (apply Z.conZ_all); (focus (repeat (first | exact Z.FK.nil | (apply Z.FK.keep; exact rfl)))); (focus rfl); (focus rfl); (focus (repeat (first | exact trivial | (refine ⟨(fun o ho => (by first | (cases ho; rfl) | (cases ho; exact Z.inL_map fun _ => rfl) | (cases ho; exact Z.inL_mapr fun _ => rfl) | exact Z.inL_gB ho fun _ => rfl)), ?_⟩)))))
    | ((refine ⟨rfl, ?_, rfl⟩); (focus (repeat (first | exact Z.DK.nil | apply Z.DK.cons))))
    | fail)
   all_goals (try (conv => whnf))
   all_goals try first | (show Nat.ble _ _ = true; rfl) | (exfalso; rename_i hz; cases hz; done) | (exfalso; (try simp only [LN] at *) <;> omega)
   all_goals first
    | ((first | (with_reducible apply Z.retF1)); (focus rfl); (repeat' (first | exact trivial | (with_reducible apply Z.frz_one) | (with_reducible apply Z.fq_int) | exact rfl | apply And.intro)); (all_goals (try exact (fun _ => none))); all_goals (first | (simp; done)))
    | fail
 have hil : i = l.length := by omega
 subst hil
 rw [List.drop_length] at HT
 have HT3 : tabR l = true := by rw [HT]; cases prevR l l.length <;> rfl
 rw [HT3]
 try simp only [cond_true]
 repeat' ((conv => whnf); first
  | (with_reducible refine spB_dec ?_ ?_ <;> intro _ <;> (try (exfalso; (first | (rename_i hz; simp at hz; done)))))
  | fail)
 all_goals (try (conv => whnf))
 all_goals try first | (show Nat.ble _ _ = true; rfl) | (exfalso; rename_i hz; cases hz; done) | (exfalso; (try simp only [LN] at *) <;> omega)
 all_goals first
  | ((first | (with_reducible apply Z.retF1)); (focus rfl); (repeat' (first | exact trivial | (with_reducible apply Z.frz_one) | (with_reducible apply Z.fq_int) | exact rfl | apply And.intro)); (all_goals (try exact (fun _ => none))); all_goals (first | (simp; done)))
  | fail
end Tab
end Go.Proofs.Ytopieffkpdlpbaa
namespace Go.Proofs.Ytopieffkpdlpbaa
open Go Go.RowKit Wx
set_option maxHeartbeats 4000000
namespace Tab
theorem there_no {l : List Kc} {s k : Int} (h : thereR l s k = false) : ∀ x, l[posR l s k]? = some x → ¬ (x.src = s ∧ x.key = k) := fun x hx he => by
 unfold thereR at h
 rw [hx] at h
 simp [he.1, he.2] at h
theorem there_at {l : List Kc} {s k : Int} (h : thereR l s k = true) : ∃ x, l[posR l s k]? = some x ∧ x.src = s ∧ x.key = k := by
 unfold thereR at h
 cases hx : l[posR l s k]? with
 | none => rw [hx] at h; cases h
 | some x => rw [hx] at h; exact ⟨x, rfl, by simpa using h⟩
theorem put_new {l : List Kc} {s k : Int} {c : Int × Int} (ht : tabR l = true) (hth : thereR l s k = false) (hc : 0 < c.1) : putR l s k c = l.take (posR l s k) ++ ⟨s, k, c.1, c.2⟩ :: l.drop (posR l s k) := by
 rw [put_no ht (there_no hth)]
 unfold ownK
 rw [if_neg (fun e => by rw [e] at hc; exact absurd hc (by decide))]; simp
end Tab
end Go.Proofs.Ytopieffkpdlpbaa
namespace Go.Proofs
open Go.Shelf
def Try.sortK_ren : Go.Shelf.Ren := ⟨fun | 6 => 104 | 15 => 115 | 14 => 114 | 28 => 127 | 29 => 128 | 20 => 119 | 21 => 120 | 22 => 121 | 23 => 122 | 24 => 123 | 25 => 124 | 26 => 125 | 27 => 126 | 46 => 130 | 47 => 131 | 48 => 132 | 49 => 133 | 50 => 134 | 57 => 135 | n => n, fun | 22 => 26 | 24 => 70 | 25 => 148 | 3 => 3 | 39 => 58 | 0 => 0 | 53 => 99 | 55 => 132 | 4 => 4 | 46 => 163 | 45 => 162 | 50 => 111 | 5 => 5 | 9 => 9 | 66 => 170 | 70 => 173 | 76 => 175 | 77 => 176 | n => n, fun | n => n⟩
theorem Try.sortK : Go.Proofs.SlLaysF0.n6 Try.prog Try.sortK_ren := {
 mixed := by kernel_rfl
 f6 := ⟨Try.f104.name, by decide, Try.func104.trans (congrArg some (by kernel_rfl))⟩
 f14 := ⟨Try.f114.name, by decide, Try.func114.trans (congrArg some (by kernel_rfl))⟩
 f15 := Try.func115.trans (congrArg some (by kernel_rfl))
 f20 := ⟨Try.f119.name, by decide, Try.func119.trans (congrArg some (by kernel_rfl))⟩
 f21 := ⟨Try.f120.name, by decide, Try.func120.trans (congrArg some (by kernel_rfl))⟩
 f22 := ⟨Try.f121.name, by decide, Try.func121.trans (congrArg some (by kernel_rfl))⟩
 f23 := ⟨Try.f122.name, by decide, Try.func122.trans (congrArg some (by kernel_rfl))⟩
 f24 := ⟨Try.f123.name, by decide, Try.func123.trans (congrArg some (by kernel_rfl))⟩
 f25 := ⟨Try.f124.name, by decide, Try.func124.trans (congrArg some (by kernel_rfl))⟩
 f26 := ⟨Try.f125.name, by decide, Try.func125.trans (congrArg some (by kernel_rfl))⟩
 f27 := ⟨Try.f126.name, by decide, Try.func126.trans (congrArg some (by kernel_rfl))⟩
 f28 := Try.func127.trans (congrArg some (by kernel_rfl))
 f29 := Try.func128.trans (congrArg some (by kernel_rfl))
 f46 := ⟨Try.f130.name, by decide, Try.func130.trans (congrArg some (by kernel_rfl))⟩
 f47 := Try.func131.trans (congrArg some (by kernel_rfl))
 f48 := Try.func132.trans (congrArg some (by kernel_rfl))
 f49 := ⟨Try.f133.name, by decide, Try.func133.trans (congrArg some (by kernel_rfl))⟩
 f50 := ⟨Try.f134.name, by decide, Try.func134.trans (congrArg some (by kernel_rfl))⟩
 f57 := ⟨Try.f135.name, by decide, Try.func135.trans (congrArg some (by kernel_rfl))⟩
 t0 := Try.underlying0
 a0 := Try.isAgg0
 z0 := Try.sizeOf0
 v0 := Try.zeroValue0
 t3 := Try.underlying3
 a3 := Try.isAgg3
 z3 := Try.sizeOf3
 v3 := Try.zeroValue3
 t4 := Try.underlying4
 a4 := Try.isAgg4
 z4 := Try.sizeOf4
 v4 := Try.zeroValue4
 t5 := Try.underlying5
 a5 := Try.isAgg5
 z5 := Try.sizeOf5
 v5 := Try.zeroValue5
 t9 := Try.underlying9
 a9 := Try.isAgg9
 z9 := Try.sizeOf9
 v9 := Try.zeroValue9
 t22 := Try.underlying26
 a22 := Try.isAgg26
 z22 := Try.sizeOf26
 v22 := Try.zeroValue26
 t25 := Try.underlying148
 a25 := Try.isAgg148
 z25 := Try.sizeOf148
 v25 := Try.zeroValue148
 t39 := Try.underlying58
 a39 := Try.isAgg58
 z39 := Try.sizeOf58
 v39 := Try.zeroValue58
 t45 := Try.underlying162
 a45 := Try.isAgg162
 z45 := Try.sizeOf162
 v45 := Try.zeroValue162
 t46 := Try.underlying163
 a46 := Try.isAgg163
 z46 := Try.sizeOf163
 v46 := Try.zeroValue163
 t50 := Try.underlying111
 a50 := Try.isAgg111
 z50 := Try.sizeOf111
 v50 := Try.zeroValue111
 t53 := Try.underlying99
 a53 := Try.isAgg99
 z53 := Try.sizeOf99
 v53 := Try.zeroValue99
 t55 := Try.underlying132
 a55 := Try.isAgg132
 z55 := Try.sizeOf132
 v55 := Try.zeroValue132
 t66 := Try.underlying170
 a66 := Try.isAgg170
 z66 := Try.sizeOf170
 v66 := Try.zeroValue170
 t70 := Try.underlying173
 a70 := Try.isAgg173
 z70 := Try.sizeOf173
 v70 := Try.zeroValue173
 t76 := Try.underlying175
 a76 := Try.isAgg175
 z76 := Try.sizeOf175
 v76 := Try.zeroValue175
 t77 := Try.underlying176
 a77 := Try.isAgg176
 z77 := Try.sizeOf176
 v77 := Try.zeroValue176 }
end Go.Proofs
namespace Go.Proofs.Ytopieffkpdlpbaa
open Go Go.RowKit Wx
set_option maxHeartbeats 4000000
namespace Tab
abbrev ev (x : Kc) : List Value := [.int .i64 x.src, .int .i64 x.key, .int .i64 x.cnt, .int .i64 x.sum]
instance : Inhabited Kc := ⟨⟨0, 0, 0, 0⟩⟩
def cfK (x y : Kc) : Int := cmpR x.src x.key y.src y.key
theorem cfK_lt (x y : Kc) : ltOf cfK x y = decide (kLtK x y) := by
 have h := @cmp_lt x.src x.key y.src y.key
 unfold ltOf cfK
 by_cases h1 : cmpR x.src x.key y.src y.key < 0
 ·rw [show decide (0 ≤ cmpR x.src x.key y.src y.key) = false by simpa using h1] at h
  have h2 : decide (kLtK x y) = true := by simpa using h.symm
  rw [h2]; simpa using h1
 ·rw [show decide (0 ≤ cmpR x.src x.key y.src y.key) = true by simp; omega] at h
  have h2 : decide (kLtK x y) = false := by simpa using h.symm
  rw [h2]; simpa using h1
theorem cfK_swo : Go.Sort.SWO (ltOf cfK) := {
 irrefl := fun x => by rw [cfK_lt]; simpa using kLt_irr
 trans := fun x y z h1 h2 => by
  rw [cfK_lt] at *
  exact decide_eq_true (kLt_trans (of_decide_eq_true h1) (of_decide_eq_true h2))
 ntrans := fun x y z h1 h2 => by
  rw [cfK_lt] at *
  have h1 := of_decide_eq_false h1
  have h2 := of_decide_eq_false h2
  refine decide_eq_false ?_
  unfold kLtK kLt at *
  omega }
abbrev neK (x y : Kc) : Prop := ¬ (x.src = y.src ∧ x.key = y.key)
def mrg (a b : List Kc) : List Kc := b.foldl (fun o x => putR o x.src x.key (x.cnt, x.sum)) a
def comm (a b : List Kc) : Bool := b.any fun x => decide (getR a x.src x.key ≠ (0, 0))
def joinT (a b : List Kc) : List Kc × Int := if tabR a = false ∨ tabR b = false then ([], 220) else if comm a b = true then ([], 5) else (mrg a b, 0)
theorem get_in {l : List Kc} (h : ∀ x ∈ l, 0 < x.cnt) {s k : Int} : getR l s k ≠ (0, 0) ↔ ∃ y ∈ l, y.src = s ∧ y.key = k := by
 unfold getR
 cases hx : l.find? (eqK s k) with
 | some x =>
  have h2 := List.find?_some hx
  unfold eqK at h2
  have h3 := h x (List.mem_of_find?_eq_some hx)
  refine ⟨fun _ => ⟨x, List.mem_of_find?_eq_some hx, of_decide_eq_true h2⟩, fun _ h9 => ?_⟩
  simp only [Prod.mk.injEq] at h9
  omega
 | none =>
  refine ⟨fun h1 => absurd rfl h1, ?_⟩
  rintro ⟨y, hy, he⟩
  have := List.find?_eq_none.1 hx y hy
  unfold eqK at this
  exact absurd (decide_eq_true he) this
theorem comm_no {a b : List Kc} (ha : tabR a = true) : comm a b = false ↔ ∀ x ∈ a, ∀ y ∈ b, neK x y := by
 have hp : ∀ x ∈ a, 0 < x.cnt := fun x hx => ((tab_iff.1 ha).1 x hx).2
 unfold comm
 rw [List.any_eq_false]
 constructor
 ·intro h x hx y hy he
  exact h y hy (decide_eq_true ((get_in hp).2 ⟨x, hx, he⟩))
 ·intro h y hy h1
  obtain ⟨x, hx, he⟩ := (get_in hp).1 (of_decide_eq_true h1)
  exact h x hx y hy he
theorem same_pw : ∀ {l m : List Kc}, l.Pairwise kLtK → m.Pairwise kLtK → (∀ x, x ∈ l ↔ x ∈ m) → l = m
 | [], [], _, _, _ => rfl
 | [], y :: m, _, _, h => absurd ((h y).2 (by simp)) (by simp)
 | x :: l, [], _, _, h => absurd ((h x).1 (by simp)) (by simp)
 | x :: l, y :: m, h1, h2, h => by
  rw [List.pairwise_cons] at h1 h2
  have hxy : x = y := by
   rcases List.mem_cons.1 ((h x).1 (by simp)) with e | e
   ·exact e
   ·rcases List.mem_cons.1 ((h y).2 (by simp)) with e2 | e2
    ·exact e2.symm
    ·exact absurd (h2.1 x e) (kLt_asym (h1.1 y e2))
  subst hxy
  have hs : ∀ z, z ∈ l ↔ z ∈ m := fun z => by
   constructor
   ·intro hz
    rcases List.mem_cons.1 ((h z).1 (by simp [hz])) with e | e
    ·subst e; exact absurd (h1.1 z hz) kLt_irr
    ·exact e
   ·intro hz
    rcases List.mem_cons.1 ((h z).2 (by simp [hz])) with e | e
    ·subst e; exact absurd (h2.1 z hz) kLt_irr
    ·exact e
  rw [same_pw h1.2 h2.2 hs]
theorem put_perm {o : List Kc} {x : Kc} (ht : tabR o = true) (hx : 0 < x.cnt) (hn : ∀ y ∈ o, neK y x) : (putR o x.src x.key (x.cnt, x.sum)).Perm (x :: o) := by
 have hth : thereR o x.src x.key = false := by
  cases h : thereR o x.src x.key with
  | false => rfl
  | true => obtain ⟨y, h1, h2⟩ := there_at h; exact absurd h2 (hn y (List.mem_of_getElem? h1))
 rw [put_new ht hth hx]
 refine List.perm_middle.trans ?_
 rw [List.take_append_drop]
theorem mrg_tab : ∀ {b a : List Kc}, tabR a = true → (∀ x ∈ b, keyOk x.src x.key = true ∧ 0 < x.cnt) → tabR (mrg a b) = true
 | [], a, h, _ => h
 | x :: b, a, h, hb => mrg_tab (b := b) (put_tab (c := (x.cnt, x.sum)) h (hb x (by simp)).1 (.inr (hb x (by simp)).2)) fun y hy => hb y (by simp [hy])
theorem mrg_perm : ∀ {b a : List Kc}, tabR a = true → (∀ x ∈ b, keyOk x.src x.key = true ∧ 0 < x.cnt) → (∀ x ∈ a, ∀ y ∈ b, neK x y) → b.Pairwise neK → (mrg a b).Perm (a ++ b)
 | [], a, h, _, _, _ => by rw [List.append_nil]; exact .refl _
 | x :: b, a, h, hb, hn, hp => by
  rw [List.pairwise_cons] at hp
  have p1 := put_perm (x := x) h (hb x (by simp)).2 fun y hy => hn y hy x (by simp)
  have p2 := mrg_perm (b := b) (put_tab (c := (x.cnt, x.sum)) h (hb x (by simp)).1 (.inr (hb x (by simp)).2)) (fun y hy => hb y (by simp [hy])) (fun y hy z hz => by
   rcases List.mem_cons.1 ((p1.mem_iff (a := y)).1 hy) with e | e
   ·subst e; exact hp.1 z hz
   ·exact hn y e z (by simp [hz])) hp.2
  show (mrg (putR a x.src x.key (x.cnt, x.sum)) b).Perm _
  exact p2.trans (((p1.append_right b).trans (.refl _)).trans (List.perm_middle.symm))
theorem pw_ne {l : List Kc} (h : l.Pairwise kLtK) : l.Pairwise neK := h.imp fun hxy he => by unfold kLtK kLt at hxy; omega
theorem sort_join {a b z : List Kc} (ha : tabR a = true) (hb : tabR b = true) (hp : z.Perm (a ++ b)) (hs : z.Pairwise fun x y => ltOf cfK y x = false) : tabR z = !comm a b ∧ (comm a b = false → z = mrg a b) := by
 have a1 := tab_iff.1 ha
 have b1 := tab_iff.1 hb
 have hk : ∀ x ∈ z, keyOk x.src x.key = true ∧ 0 < x.cnt := fun x hx => by
  rcases List.mem_append.1 ((hp.mem_iff (a := x)).1 hx) with e | e
  ·exact a1.1 x e
  ·exact b1.1 x e
 have sy : ∀ {x y : Kc}, neK x y → neK y x := fun h he => h ⟨he.1.symm, he.2.symm⟩
 cases hc : comm a b with
 | false =>
  have hn := (comm_no ha).1 hc
  have h2 : (a ++ b).Pairwise neK := List.pairwise_append.2 ⟨pw_ne a1.2, pw_ne b1.2, hn⟩
  have h3 : z.Pairwise neK := (hp.pairwise_iff sy).2 h2
  have h4 : z.Pairwise kLtK := (List.Pairwise.and hs h3).imp fun {x y} h => by
   have h5 := h.1
   rw [cfK_lt] at h5
   rcases @kLt_tri x.src x.key y.src y.key with e | e | e
   ·exact e
   ·exact absurd e h.2
   ·exact absurd e (of_decide_eq_false h5)
  refine ⟨tab_iff.2 ⟨hk, h4⟩, fun _ => ?_⟩
  refine same_pw h4 (tab_iff.1 (mrg_tab ha b1.1)).2 fun x => ?_
  exact (hp.mem_iff).trans (mrg_perm ha b1.1 hn (pw_ne b1.2)).mem_iff.symm
 | true =>
  refine ⟨?_, fun h => nomatch h⟩
  cases ht : tabR z with
  | false => rfl
  | true =>
   have h3 := pw_ne (tab_iff.1 ht).2
   have h2 := (hp.pairwise_iff sy).1 h3
   have := (comm_no (b := b) ha).2 (List.pairwise_append.1 h2).2.2
   rw [hc] at this
   cases this
theorem cmpk_con (x y : Kc)  : Con Try.prog 105 [.agg [.v (.int .i64 x.src), .v (.int .i64 x.key), .v (.int .i64 x.cnt), .v (.int .i64 x.sum)], .agg [.v (.int .i64 y.src), .v (.int .i64 y.key), .v (.int .i64 y.cnt), .v (.int .i64 y.sum)]] (fun rx rK rt => rx = .val (.int .i64 (cfK x y)) ∧ rK = [] ∧ rt = 0) := by
 refine Z.con_ofF tabOk 10 Try.f105 _ Try.func105 (by kernel_rfl) rfl rfl rfl rfl ?_
 have cc := compare_con x.src x.key 0 y.src y.key 0
 repeat' ((conv => whnf); first
  | with_reducible first | refine Z.callZ_in tabOk 8 Try.f69 _ Try.func69 (by kernel_rfl) rfl rfl rfl ?_
  | ((first | (with_reducible refine Z.conZ_mz ?_ (cc) ?_)); (focus ((repeat' (first | exact trivial | exact rfl | apply And.intro)); done)))
  | ((with_reducible apply ex_and); exact rfl)
  | with_reducible first | refine Z.drawZ_rule tabOk mixOk ?_ | refine Z.apZ_mk (by kernel_rfl) ?_
  | ((with_reducible refine Z.ConZ.red ?_); (try subst hlb); (apply Z.conZ_all); (focus (repeat (first | exact Z.FK.nil | (apply Z.FK.keep; exact rfl)))); (focus rfl); (focus rfl); (focus (repeat (first | exact trivial | (refine ⟨(fun o ho => (by first | (cases ho; rfl) | (cases ho; exact Z.inL_map fun _ => rfl) | (cases ho; exact Z.inL_mapr fun _ => rfl) | exact Z.inL_gB ho fun _ => rfl)), ?_⟩)))))
  | ((refine ⟨rfl, ?_, rfl⟩); (focus (repeat (first | exact Z.DK.nil | apply Z.DK.cons))))
  | fail)
 all_goals (try (conv => whnf))
 all_goals try (show Nat.ble _ _ = true; rfl)
 all_goals first
  | ((first | (with_reducible apply Z.retF1)); (focus rfl); (repeat' (first | exact trivial | exact rfl | apply And.intro)); (all_goals (try exact (fun _ => none))); all_goals (first | (simp; done)))
  | fail
end Tab
end Go.Proofs.Ytopieffkpdlpbaa
namespace Go.Proofs.Ytopieffkpdlpbaa
open Go Go.RowKit Wx
set_option maxHeartbeats 4000000
namespace Tab
end Tab
end Go.Proofs.Ytopieffkpdlpbaa
namespace Go.Proofs.Ytopieffkpdlpbaa
open Go Go.RowKit Wx
set_option maxHeartbeats 4000000
namespace Tab
end Tab
end Go.Proofs.Ytopieffkpdlpbaa
namespace Go.Proofs.Ytopieffkpdlpbaa
open Go Go.RowKit Wx
set_option maxHeartbeats 4000000
namespace Tab
def ownG (g w : Int) : Int := (g * w) / 8
def okS (i w : Int) : Prop := (1 ≤ w ∧ w ≤ 3) ∧ 0 ≤ i ∧ i < w
instance (i w : Int) : Decidable (okS i w) := by unfold okS; infer_instance
def mineB (s k i w : Int) : Bool := keyOk s k && (decide (okS i w) && decide (ownG (k % 8) w = i))
def partL (l : List Kc) (i w : Int) : List Kc := l.filter fun x => mineB x.src x.key i w
def partT (l : List Kc) (i w : Int) : List Kc × Int := if tabR l = false then ([], 220) else if okS i w then (partL l i w, 0) else ([], 2)
theorem part_at {l : List Kc} {j : Nat} {x : Kc} {i w : Int} (h : l[j]? = some x) : partL (l.take (j + 1)) i w = partL (l.take j) i w ++ (bif mineB x.src x.key i w then [x] else []) := by
 unfold partL
 rw [take_snoc h, List.filter_append]
 cases hm : mineB x.src x.key i w <;> simp [hm]
theorem part_len {l : List Kc} {i w : Int} : (partL l i w).length ≤ l.length := List.length_filter_le _ _
theorem share_con (i w : Int)  : Con Try.prog 70 [.one (.v (.int .i64 i)), .one (.v (.int .i64 w))] (fun rx rK rt => rx = .val (.bool (decide (okS i w))) ∧ rK = [] ∧ rt = 0) := by
 refine Z.con_ofF tabOk 16 Try.f70 _ Try.func70 (by kernel_rfl) rfl rfl rfl rfl ?_
 by_cases h : okS i w
 ·rw [decide_eq_true h]
  unfold okS at h
  repeat' ((conv => whnf); first
   | with_reducible first | refine spB_t ?_
   | (with_reducible refine spB_dec ?_ ?_ <;> intro _ <;> (try (exfalso; first | contradiction | omega | (rename_i hz; refine hz ?_; simp; done) | (rename_i hz; simp at hz; done) | (simp only [LN] at *; omega))))
   | with_reducible first | refine Z.callZ_in tabOk 9 Try.f102 _ Try.func102 (by kernel_rfl) rfl rfl rfl ?_
   | ((with_reducible apply ex_and); exact rfl)
   | fail)
  all_goals (try (conv => whnf))
  all_goals try first | (show Nat.ble _ _ = true; rfl) | (exfalso; rename_i hz; cases hz; done) | (exfalso; (try simp only [LN] at *) <;> omega)
  all_goals first
   | ((first | (with_reducible apply Z.retF1)); (focus rfl); (repeat' (first | exact trivial | (with_reducible apply Z.frz_one) | (with_reducible apply Z.fq_bool) | apply And.intro)); (all_goals (try exact (fun _ => none))); all_goals (first | (simp_all; done)))
   | fail
 ·rw [decide_eq_false h]
  unfold okS at h
  repeat' ((conv => whnf); first
   | with_reducible first | refine spB_t ?_
   | with_reducible first | refine spB_no (by decide) ?_
   | (with_reducible refine spB_dec ?_ ?_ <;> intro _ <;> (try (exfalso; first | contradiction | omega | (rename_i hz; refine hz ?_; simp; done) | (rename_i hz; simp at hz; done) | (simp only [LN] at *; omega))))
   | with_reducible first | refine Z.callZ_in tabOk 9 Try.f102 _ Try.func102 (by kernel_rfl) rfl rfl rfl ?_
   | ((with_reducible apply ex_and); exact rfl)
   | fail)
  all_goals (try (conv => whnf))
  all_goals try first | (show Nat.ble _ _ = true; rfl) | (exfalso; rename_i hz; cases hz; done) | (exfalso; (try simp only [LN] at *) <;> omega)
  all_goals first
   | ((first | (with_reducible apply Z.retF1)); (focus rfl); (repeat' (first | exact trivial | (with_reducible apply Z.frz_one) | (with_reducible apply Z.fq_bool) | exact rfl | apply And.intro)); (all_goals (try exact (fun _ => none))); all_goals (first | (simp_all; done)))
   | fail
theorem owners_1 : Con Try.prog 71 [.one (.v (.int .i64 1))] (fun rx rK rt => rx = .pl (.agg [.v (.int .i64 0), .v (.int .i64 0), .v (.int .i64 0), .v (.int .i64 0), .v (.int .i64 0), .v (.int .i64 0), .v (.int .i64 0), .v (.int .i64 0)]) ∧ rK = [] ∧ rt = 0) := Y.con_eval ftabOk tabOk mixOk 40 12 (by kernel_rfl) (by rfl) (by kernel_rfl)
theorem owners_2 : Con Try.prog 71 [.one (.v (.int .i64 2))] (fun rx rK rt => rx = .pl (.agg [.v (.int .i64 0), .v (.int .i64 0), .v (.int .i64 0), .v (.int .i64 0), .v (.int .i64 1), .v (.int .i64 1), .v (.int .i64 1), .v (.int .i64 1)]) ∧ rK = [] ∧ rt = 0) := Y.con_eval ftabOk tabOk mixOk 40 12 (by kernel_rfl) (by rfl) (by kernel_rfl)
theorem owners_3 : Con Try.prog 71 [.one (.v (.int .i64 3))] (fun rx rK rt => rx = .pl (.agg [.v (.int .i64 0), .v (.int .i64 0), .v (.int .i64 0), .v (.int .i64 1), .v (.int .i64 1), .v (.int .i64 1), .v (.int .i64 2), .v (.int .i64 2)]) ∧ rK = [] ∧ rt = 0) := Y.con_eval ftabOk tabOk mixOk 40 12 (by kernel_rfl) (by rfl) (by kernel_rfl)
theorem group_con (s k v : Int)  : Con Try.prog 65 [.agg [.v (.int .i64 s), .v (.int .i64 k), .v (.int .i64 v)]] (fun rx rK rt => rx = .val (.int .i64 (k.tmod 8)) ∧ rK = [] ∧ rt = 0) := by
 refine Z.con_ofF tabOk 6 Try.f65 _ Try.func65 (by kernel_rfl) rfl rfl rfl rfl ?_
 repeat' ((conv => whnf); first
  | with_reducible first | refine vN_mk ?_
  | with_reducible refine nzN_mk (by omega) ?_
  | fail)
 all_goals (try (conv => whnf))
 all_goals try (show Nat.ble _ _ = true; rfl)
 all_goals first
  | ((first | (with_reducible apply Z.retF1)); (focus rfl); (repeat' (first | exact trivial | (with_reducible apply Z.frz_one) | (with_reducible apply Z.fq_int) | exact rfl | apply And.intro)); (all_goals (try exact (fun _ => none))); all_goals (rfl))
  | fail
theorem owned_0_1 : ∃ L, Con Try.prog 72 [.one (.v (.int .i64 0)), .one (.v (.int .i64 1))] (fun rx rK rt => rx = .tup [.one (.ro true 1 L), .one (.v (.int .i64 0))] ∧ rK = [] ∧ rt = 0) := ⟨_, Z.con_fz [.one (.ro true 1 [[.v (.int .i64 0)], [.v (.int .i64 1)], [.v (.int .i64 2)], [.v (.int .i64 3)], [.v (.int .i64 4)], [.v (.int .i64 5)], [.v (.int .i64 6)], [.v (.int .i64 7)]]), .one (.v (.int .i64 0))] (xs := [.one (.osl 17 0 8 none), .one (.v (.int .i64 0))]) (K0 := [(17, some ⟨[[.v (.int .i64 0)], [.v (.int .i64 1)], [.v (.int .i64 2)], [.v (.int .i64 3)], [.v (.int .i64 4)], [.v (.int .i64 5)], [.v (.int .i64 6)], [.v (.int .i64 7)]], 1, 3, false⟩)]) (t0 := 18) (Y.con_evalK ftabOk tabOk mixOk 40 12 (by kernel_rfl) (by rfl) (by kernel_rfl)) ⟨⟨_, rfl, rfl, rfl⟩, rfl, trivial⟩⟩
theorem owned_0_2 : ∃ L, Con Try.prog 72 [.one (.v (.int .i64 0)), .one (.v (.int .i64 2))] (fun rx rK rt => rx = .tup [.one (.ro true 1 L), .one (.v (.int .i64 0))] ∧ rK = [] ∧ rt = 0) := ⟨_, Z.con_fz [.one (.ro true 1 [[.v (.int .i64 0)], [.v (.int .i64 1)], [.v (.int .i64 2)], [.v (.int .i64 3)]]), .one (.v (.int .i64 0))] (xs := [.one (.osl 9 0 4 none), .one (.v (.int .i64 0))]) (K0 := [(9, some ⟨[[.v (.int .i64 0)], [.v (.int .i64 1)], [.v (.int .i64 2)], [.v (.int .i64 3)]], 1, 3, false⟩)]) (t0 := 10) (Y.con_evalK ftabOk tabOk mixOk 40 12 (by kernel_rfl) (by rfl) (by kernel_rfl)) ⟨⟨_, rfl, rfl, rfl⟩, rfl, trivial⟩⟩
theorem owned_1_2 : ∃ L, Con Try.prog 72 [.one (.v (.int .i64 1)), .one (.v (.int .i64 2))] (fun rx rK rt => rx = .tup [.one (.ro true 1 L), .one (.v (.int .i64 0))] ∧ rK = [] ∧ rt = 0) := ⟨_, Z.con_fz [.one (.ro true 1 [[.v (.int .i64 4)], [.v (.int .i64 5)], [.v (.int .i64 6)], [.v (.int .i64 7)]]), .one (.v (.int .i64 0))] (xs := [.one (.osl 9 0 4 none), .one (.v (.int .i64 0))]) (K0 := [(9, some ⟨[[.v (.int .i64 4)], [.v (.int .i64 5)], [.v (.int .i64 6)], [.v (.int .i64 7)]], 1, 3, false⟩)]) (t0 := 10) (Y.con_evalK ftabOk tabOk mixOk 40 12 (by kernel_rfl) (by rfl) (by kernel_rfl)) ⟨⟨_, rfl, rfl, rfl⟩, rfl, trivial⟩⟩
theorem owned_0_3 : ∃ L, Con Try.prog 72 [.one (.v (.int .i64 0)), .one (.v (.int .i64 3))] (fun rx rK rt => rx = .tup [.one (.ro true 1 L), .one (.v (.int .i64 0))] ∧ rK = [] ∧ rt = 0) := ⟨_, Z.con_fz [.one (.ro true 1 [[.v (.int .i64 0)], [.v (.int .i64 1)], [.v (.int .i64 2)]]), .one (.v (.int .i64 0))] (xs := [.one (.osl 7 0 3 none), .one (.v (.int .i64 0))]) (K0 := [(7, some ⟨[[.v (.int .i64 0)], [.v (.int .i64 1)], [.v (.int .i64 2)]], 1, 3, false⟩)]) (t0 := 8) (Y.con_evalK ftabOk tabOk mixOk 40 12 (by kernel_rfl) (by rfl) (by kernel_rfl)) ⟨⟨_, rfl, rfl, rfl⟩, rfl, trivial⟩⟩
theorem owned_1_3 : ∃ L, Con Try.prog 72 [.one (.v (.int .i64 1)), .one (.v (.int .i64 3))] (fun rx rK rt => rx = .tup [.one (.ro true 1 L), .one (.v (.int .i64 0))] ∧ rK = [] ∧ rt = 0) := ⟨_, Z.con_fz [.one (.ro true 1 [[.v (.int .i64 3)], [.v (.int .i64 4)], [.v (.int .i64 5)]]), .one (.v (.int .i64 0))] (xs := [.one (.osl 7 0 3 none), .one (.v (.int .i64 0))]) (K0 := [(7, some ⟨[[.v (.int .i64 3)], [.v (.int .i64 4)], [.v (.int .i64 5)]], 1, 3, false⟩)]) (t0 := 8) (Y.con_evalK ftabOk tabOk mixOk 40 12 (by kernel_rfl) (by rfl) (by kernel_rfl)) ⟨⟨_, rfl, rfl, rfl⟩, rfl, trivial⟩⟩
theorem owned_2_3 : ∃ L, Con Try.prog 72 [.one (.v (.int .i64 2)), .one (.v (.int .i64 3))] (fun rx rK rt => rx = .tup [.one (.ro true 1 L), .one (.v (.int .i64 0))] ∧ rK = [] ∧ rt = 0) := ⟨_, Z.con_fz [.one (.ro true 1 [[.v (.int .i64 6)], [.v (.int .i64 7)]]), .one (.v (.int .i64 0))] (xs := [.one (.osl 5 0 2 none), .one (.v (.int .i64 0))]) (K0 := [(5, some ⟨[[.v (.int .i64 6)], [.v (.int .i64 7)]], 1, 3, false⟩)]) (t0 := 6) (Y.con_evalK ftabOk tabOk mixOk 40 12 (by kernel_rfl) (by rfl) (by kernel_rfl)) ⟨⟨_, rfl, rfl, rfl⟩, rfl, trivial⟩⟩
theorem owned_ok (i w : Int) (h : okS i w) : ∃ L, Con Try.prog 72 [.one (.v (.int .i64 i)), .one (.v (.int .i64 w))] (fun rx rK rt => rx = .tup [.one (.ro true 1 L), .one (.v (.int .i64 0))] ∧ rK = [] ∧ rt = 0) := by
 have hc : (i = 0 ∧ w = 1) ∨ (i = 0 ∧ w = 2) ∨ (i = 1 ∧ w = 2) ∨ (i = 0 ∧ w = 3) ∨ (i = 1 ∧ w = 3) ∨ (i = 2 ∧ w = 3) := by unfold okS at h; omega
 rcases hc with ⟨rfl, rfl⟩ | ⟨rfl, rfl⟩ | ⟨rfl, rfl⟩ | ⟨rfl, rfl⟩ | ⟨rfl, rfl⟩ | ⟨rfl, rfl⟩
 ·exact owned_0_1
 ·exact owned_0_2
 ·exact owned_1_2
 ·exact owned_0_3
 ·exact owned_1_3
 ·exact owned_2_3
theorem owned_bad (i w : Int) (h : ¬ okS i w) : Con Try.prog 72 [.one (.v (.int .i64 i)), .one (.v (.int .i64 w))] (fun rx rK rt => rx = .tup [.one (.ro true 1 []), .one (.v (.int .i64 2))] ∧ rK = [] ∧ rt = 0) := by
 refine Z.con_ofF tabOk 29 Try.f72 _ Try.func72 (by kernel_rfl) rfl rfl rfl rfl ?_
 have csh := share_con i w
 rw [decide_eq_false h] at csh
 repeat' ((conv => whnf); first
  | with_reducible first | refine spB_t ?_
  | ((with_reducible apply spB_cong); (focus (simp only [splQ, Int.reduceBEq, Int.reduceBNe]; rfl)))
  | ((first | (with_reducible refine Z.callZ_mk ?_ (csh) ?_)); (focus ((repeat' (first | exact trivial | exact rfl | apply And.intro)); done)))
  | fail)
 all_goals (try (conv => whnf))
 all_goals try first | (show Nat.ble _ _ = true; rfl) | (exfalso; rename_i hz; cases hz; done) | (exfalso; (try simp only [LN] at *) <;> omega)
 all_goals first
  | ((first | (with_reducible apply Z.retF2)); (focus rfl); (repeat' (first | exact trivial | (with_reducible apply Z.frz_one) | (with_reducible apply Z.fq_int) | (exact Z.frz_nil) | exact rfl | apply And.intro)); (all_goals (try exact (fun _ => none))); all_goals (first | (simp_all; done)))
  | fail
end Tab
end Go.Proofs.Ytopieffkpdlpbaa
namespace Go.Proofs.Ytopieffkpdlpbaa
open Go Go.RowKit Wx
set_option maxHeartbeats 4000000
structure Nm where
 s : Int
 a : Int
 n : Int
deriving DecidableEq
abbrev eN (x : Nm) : List RT := [RT.v (.int .i64 x.s), RT.v (.int .i64 x.a), RT.v (.int .i64 x.n)]
abbrev cN (x : Nm) : List Ce := [Ce.v (.int .i64 x.s), Ce.v (.int .i64 x.a), Ce.v (.int .i64 x.n)]
theorem nm_eq {x y : Nm} (h : (x.s == y.s && (x.a == y.a && (x.n == y.n && true))) = true) : x = y := by
 simp at h; cases x; cases y; simp_all
structure Sn where
 op : Int
 ix : Int
 w : Int
 en : Bool
 rows : List Tab.Kc
 o0 : Int
 o1 : Int
 o2 : Int
 o3 : Int
 o4 : Int
 o5 : Int
 o6 : Int
 o7 : Int
 txs : List Nm
deriving DecidableEq
theorem names_con (a b : List Nm) (hla : a.length ≤ 9223372036854775807)  : Con Try.prog 63 [.one (.ro false 3 (a.map eN)), .one (.ro false 3 (b.map eN))] (fun rx rK rt => rx = .val (.bool (decide (a = b))) ∧ rK = [] ∧ rt = 0) := by
 refine Z.con_ofF tabOk 26 Try.f63 _ Try.func63 (by kernel_rfl) rfl rfl rfl rfl ?_
 repeat' ((conv => whnf); first
  | (with_reducible refine spB_bne ?_ ?_ <;> intro _ <;> (try (exfalso; first | contradiction | omega | (rename_i hz; with_reducible exact absurd rfl hz))))
  | fail)
 all_goals (try (conv => whnf))
 all_goals try ((first | (with_reducible apply Z.retF1)); (focus rfl); (repeat' (first | exact trivial | (with_reducible apply Z.frz_one) | (with_reducible apply Z.fq_bool) | apply And.intro)); (all_goals (try exact (fun _ => none))); all_goals (exact bool_f (ne_len (by simp only [LN] at *; omega))))
 refine Z.loopK tabOk (fun zq : Nat => [(13, .val (.int .i64 (zq : Int)))]) (fun zq : Nat => ([] : Z.Kr)) (fun zq => zq ≤ a.length ∧ a.length = b.length ∧ a.take zq = b.take zq) (fun zq => a.length - zq) 0 0 [(0, _), (1, _), (12, _)] ⟨rfl, rfl, rfl, trivial⟩ [] trivial ?_ ?_ rfl rfl ⟨Nat.zero_le _, by simp only [LN] at *; omega, rfl⟩ ?_
 ·repeat' (first | exact trivial | apply And.intro | exact ⟨_, rfl, Z.Imp.refl _⟩)
 ·repeat' (first | exact trivial)
 rintro i HINV
 dsimp only at HINV ⊢
 obtain ⟨HI, HL, HT⟩ := HINV
 repeat' ((conv => whnf); first
  | with_reducible first | refine spB_not ?_
  | (with_reducible refine spB_dec ?_ ?_ <;> intro _ <;> (try (exfalso; first | contradiction | omega | (rename_i hz; with_reducible exact absurd rfl hz))))
  | (with_reducible refine spB_mk ?_ ?_ <;> intro _ <;> (try (exfalso; first | contradiction | omega | (rename_i hz; with_reducible exact absurd rfl hz))))
  | ((with_reducible apply ixN_litp); (focus rfl); (focus ((try simp only [LN] at *) <;> omega)))
  | with_reducible refine wr_i64 (by first | omega | (simp only [LN] at *; omega)) ?_
  | ((with_reducible refine rowN_map ?_ ?_); (focus ((try simp only [LN] at *) <;> omega)); intro x hx)
  | with_reducible first | refine Z.drawZ_rule tabOk mixOk ?_ | refine Z.apZ_mk (by kernel_rfl) ?_
  | fail)
 all_goals (try (conv => whnf))
 all_goals first
  | ((refine Z.rndK (i + 1) (fun s => []) rfl rfl rfl rfl ?_ ?_ ?_ ?_); (focus (repeat' (first | exact trivial | exact rfl | apply And.intro))); (focus (repeat' (first | exact trivial))); (focus (refine ⟨by simp only [LN] at *; omega, HL, eq_step HT (by assumption) (by assumption) ?_⟩; (first | exact nm_eq (by assumption)))); (try simp only [LN] at *); (try dsimp only); omega)
  | ((first | (with_reducible apply Z.retF1)); (focus rfl); (repeat' (first | exact trivial | (with_reducible apply Z.frz_one) | (with_reducible apply Z.fq_bool) | apply And.intro)); (all_goals (try exact (fun _ => none))); all_goals (first | exact bool_t (eq_end HL HT (by simp only [LN] at *; omega)) | (refine bool_f (ne_at (by assumption) (by assumption) ?_); intro e; subst e; first | contradiction | (simp_all; done))))
  | fail
end Go.Proofs.Ytopieffkpdlpbaa
namespace Go.Proofs.Ytopieffkpdlpbaa
open Go Go.RowKit Wx
set_option maxHeartbeats 4000000
abbrev RNG (o0 o1 o2 o3 o4 o5 o6 o7 : Int) : Prop := (0 ≤ o0 ∧ o0 ≤ 40) ∧ (0 ≤ o1 ∧ o1 ≤ 40) ∧ (0 ≤ o2 ∧ o2 ≤ 40) ∧ (0 ≤ o3 ∧ o3 ≤ 40) ∧ (0 ≤ o4 ∧ o4 ≤ 40) ∧ (0 ≤ o5 ∧ o5 ≤ 40) ∧ (0 ≤ o6 ∧ o6 ≤ 40) ∧ (0 ≤ o7 ∧ o7 ≤ 40)
def ownO (l : List Int) (i w : Int) : Bool := l.zipIdx.all fun p => decide (p.1 = 0 ∨ Tab.ownG p.2 w = i)
def offR (o0 o1 o2 o3 o4 o5 o6 o7 : Int) (i w : Int) : Bool := decide (RNG o0 o1 o2 o3 o4 o5 o6 o7) && ownO [o0, o1, o2, o3, o4, o5, o6, o7] i w
theorem joined_0_1 (o0 o1 o2 o3 o4 o5 o6 o7 : Int) : Con Try.prog 41 [.agg [.v (.int .i64 o0), .v (.int .i64 o1), .v (.int .i64 o2), .v (.int .i64 o3), .v (.int .i64 o4), .v (.int .i64 o5), .v (.int .i64 o6), .v (.int .i64 o7)], .agg [.v (.int .i64 0), .v (.int .i64 0), .v (.int .i64 0), .v (.int .i64 0), .v (.int .i64 0), .v (.int .i64 0), .v (.int .i64 0), .v (.int .i64 0)], .one (.v (.int .i64 0)), .one (.v (.int .i64 1))] (fun rx rK rt => rx = .tup [.agg [.v (.int .i64 o0), .v (.int .i64 o1), .v (.int .i64 o2), .v (.int .i64 o3), .v (.int .i64 o4), .v (.int .i64 o5), .v (.int .i64 o6), .v (.int .i64 o7)], .one (.v (.int .i64 0))] ∧ rK = [] ∧ rt = 0) := Y.con_eval ftabOk tabOk mixOk 40 12 (by kernel_rfl) (by rfl) (by kernel_rfl)
theorem joined_0_2 (o0 o1 o2 o3 o4 o5 o6 o7 : Int) : Con Try.prog 41 [.agg [.v (.int .i64 o0), .v (.int .i64 o1), .v (.int .i64 o2), .v (.int .i64 o3), .v (.int .i64 o4), .v (.int .i64 o5), .v (.int .i64 o6), .v (.int .i64 o7)], .agg [.v (.int .i64 0), .v (.int .i64 0), .v (.int .i64 0), .v (.int .i64 0), .v (.int .i64 0), .v (.int .i64 0), .v (.int .i64 0), .v (.int .i64 0)], .one (.v (.int .i64 0)), .one (.v (.int .i64 2))] (fun rx rK rt => rx = .tup [.agg [.v (.int .i64 o0), .v (.int .i64 o1), .v (.int .i64 o2), .v (.int .i64 o3), .v (.int .i64 0), .v (.int .i64 0), .v (.int .i64 0), .v (.int .i64 0)], .one (.v (.int .i64 0))] ∧ rK = [] ∧ rt = 0) := Y.con_eval ftabOk tabOk mixOk 40 12 (by kernel_rfl) (by rfl) (by kernel_rfl)
theorem joined_1_2 (o0 o1 o2 o3 o4 o5 o6 o7 : Int) : Con Try.prog 41 [.agg [.v (.int .i64 o0), .v (.int .i64 o1), .v (.int .i64 o2), .v (.int .i64 o3), .v (.int .i64 o4), .v (.int .i64 o5), .v (.int .i64 o6), .v (.int .i64 o7)], .agg [.v (.int .i64 0), .v (.int .i64 0), .v (.int .i64 0), .v (.int .i64 0), .v (.int .i64 0), .v (.int .i64 0), .v (.int .i64 0), .v (.int .i64 0)], .one (.v (.int .i64 1)), .one (.v (.int .i64 2))] (fun rx rK rt => rx = .tup [.agg [.v (.int .i64 0), .v (.int .i64 0), .v (.int .i64 0), .v (.int .i64 0), .v (.int .i64 o4), .v (.int .i64 o5), .v (.int .i64 o6), .v (.int .i64 o7)], .one (.v (.int .i64 0))] ∧ rK = [] ∧ rt = 0) := Y.con_eval ftabOk tabOk mixOk 40 12 (by kernel_rfl) (by rfl) (by kernel_rfl)
theorem joined_0_3 (o0 o1 o2 o3 o4 o5 o6 o7 : Int) : Con Try.prog 41 [.agg [.v (.int .i64 o0), .v (.int .i64 o1), .v (.int .i64 o2), .v (.int .i64 o3), .v (.int .i64 o4), .v (.int .i64 o5), .v (.int .i64 o6), .v (.int .i64 o7)], .agg [.v (.int .i64 0), .v (.int .i64 0), .v (.int .i64 0), .v (.int .i64 0), .v (.int .i64 0), .v (.int .i64 0), .v (.int .i64 0), .v (.int .i64 0)], .one (.v (.int .i64 0)), .one (.v (.int .i64 3))] (fun rx rK rt => rx = .tup [.agg [.v (.int .i64 o0), .v (.int .i64 o1), .v (.int .i64 o2), .v (.int .i64 0), .v (.int .i64 0), .v (.int .i64 0), .v (.int .i64 0), .v (.int .i64 0)], .one (.v (.int .i64 0))] ∧ rK = [] ∧ rt = 0) := Y.con_eval ftabOk tabOk mixOk 40 12 (by kernel_rfl) (by rfl) (by kernel_rfl)
theorem joined_1_3 (o0 o1 o2 o3 o4 o5 o6 o7 : Int) : Con Try.prog 41 [.agg [.v (.int .i64 o0), .v (.int .i64 o1), .v (.int .i64 o2), .v (.int .i64 o3), .v (.int .i64 o4), .v (.int .i64 o5), .v (.int .i64 o6), .v (.int .i64 o7)], .agg [.v (.int .i64 0), .v (.int .i64 0), .v (.int .i64 0), .v (.int .i64 0), .v (.int .i64 0), .v (.int .i64 0), .v (.int .i64 0), .v (.int .i64 0)], .one (.v (.int .i64 1)), .one (.v (.int .i64 3))] (fun rx rK rt => rx = .tup [.agg [.v (.int .i64 0), .v (.int .i64 0), .v (.int .i64 0), .v (.int .i64 o3), .v (.int .i64 o4), .v (.int .i64 o5), .v (.int .i64 0), .v (.int .i64 0)], .one (.v (.int .i64 0))] ∧ rK = [] ∧ rt = 0) := Y.con_eval ftabOk tabOk mixOk 40 12 (by kernel_rfl) (by rfl) (by kernel_rfl)
theorem joined_2_3 (o0 o1 o2 o3 o4 o5 o6 o7 : Int) : Con Try.prog 41 [.agg [.v (.int .i64 o0), .v (.int .i64 o1), .v (.int .i64 o2), .v (.int .i64 o3), .v (.int .i64 o4), .v (.int .i64 o5), .v (.int .i64 o6), .v (.int .i64 o7)], .agg [.v (.int .i64 0), .v (.int .i64 0), .v (.int .i64 0), .v (.int .i64 0), .v (.int .i64 0), .v (.int .i64 0), .v (.int .i64 0), .v (.int .i64 0)], .one (.v (.int .i64 2)), .one (.v (.int .i64 3))] (fun rx rK rt => rx = .tup [.agg [.v (.int .i64 0), .v (.int .i64 0), .v (.int .i64 0), .v (.int .i64 0), .v (.int .i64 0), .v (.int .i64 0), .v (.int .i64 o6), .v (.int .i64 o7)], .one (.v (.int .i64 0))] ∧ rK = [] ∧ rt = 0) := Y.con_eval ftabOk tabOk mixOk 40 12 (by kernel_rfl) (by rfl) (by kernel_rfl)
theorem areoff_in (o0 o1 o2 o3 o4 o5 o6 o7 j0 j1 j2 j3 j4 j5 j6 j7 i w : Int) (cj : Con Try.prog 41 [.agg [.v (.int .i64 o0), .v (.int .i64 o1), .v (.int .i64 o2), .v (.int .i64 o3), .v (.int .i64 o4), .v (.int .i64 o5), .v (.int .i64 o6), .v (.int .i64 o7)], .agg [.v (.int .i64 0), .v (.int .i64 0), .v (.int .i64 0), .v (.int .i64 0), .v (.int .i64 0), .v (.int .i64 0), .v (.int .i64 0), .v (.int .i64 0)], .one (.v (.int .i64 i)), .one (.v (.int .i64 w))] (fun rx rK rt => rx = .tup [.agg [.v (.int .i64 j0), .v (.int .i64 j1), .v (.int .i64 j2), .v (.int .i64 j3), .v (.int .i64 j4), .v (.int .i64 j5), .v (.int .i64 j6), .v (.int .i64 j7)], .one (.v (.int .i64 0))] ∧ rK = [] ∧ rt = 0)) : Con Try.prog 86 [.agg [.v (.int .i64 o0), .v (.int .i64 o1), .v (.int .i64 o2), .v (.int .i64 o3), .v (.int .i64 o4), .v (.int .i64 o5), .v (.int .i64 o6), .v (.int .i64 o7)], .one (.v (.int .i64 i)), .one (.v (.int .i64 w))] (fun rx rK rt => rx = .val (.bool (decide (RNG o0 o1 o2 o3 o4 o5 o6 o7) && (o0 == j0 && (o1 == j1 && (o2 == j2 && (o3 == j3 && (o4 == j4 && (o5 == j5 && (o6 == j6 && (o7 == j7 && true)))))))))) ∧ rK = [] ∧ rt = 0) := by
 refine Z.con_ofF tabOk 26 Try.f86 _ Try.func86 (by kernel_rfl) rfl rfl rfl rfl ?_
 repeat' ((conv => whnf); first
  | with_reducible first | refine spB_t ?_
  | ((with_reducible apply spB_cong); (focus (simp only [splQ, Int.reduceBEq, Int.reduceBNe]; rfl)))
  | with_reducible first | refine spB_yes (by decide) ?_ | refine spB_no (by decide) ?_
  | (with_reducible refine spB_dec ?_ ?_ <;> intro _ <;> (try (exfalso; first | contradiction | omega | (rename_i hz; refine hz ?_; simp; done) | (rename_i hz; simp at hz; done) | (simp only [LN] at *; omega))))
  | with_reducible first | refine Z.loopZ_unroll tabOk 9 ?_
  | ((with_reducible apply ixN_lit); (focus rfl); (focus rfl))
  | with_reducible refine wr_i64 (by first | omega | (simp only [LN] at *; omega)) ?_
  | with_reducible first | refine Z.callZ_in tabOk 18 Try.f88 _ Try.func88 (by kernel_rfl) rfl rfl rfl ?_
  | ((first | (with_reducible refine Z.callZ_mk ?_ (cj) ?_)); (focus ((repeat' (first | exact trivial | exact rfl | apply And.intro)); done)))
  | ((with_reducible apply ex_and); exact rfl)
  | with_reducible first | refine Z.drawZ_rule tabOk mixOk ?_ | refine Z.apZ_mk (by kernel_rfl) ?_
  | ((with_reducible refine Z.ConZ.red ?_); (try subst hlb); (apply Z.conZ_all); (focus (repeat (first | exact Z.FK.nil | (apply Z.FK.keep; exact rfl)))); (focus rfl); (focus rfl); (focus (repeat (first | exact trivial | (refine ⟨(fun o ho => (by first | (cases ho; rfl) | (cases ho; exact Z.inL_map fun _ => rfl) | (cases ho; exact Z.inL_mapr fun _ => rfl) | exact Z.inL_gB ho fun _ => rfl)), ?_⟩)))))
  | ((refine ⟨rfl, ?_, rfl⟩); (focus (repeat (first | exact Z.DK.nil | apply Z.DK.cons))))
  | fail)
 all_goals (try (conv => whnf))
 all_goals try first | (show Nat.ble _ _ = true; rfl) | (exfalso; rename_i hz; cases hz; done) | (exfalso; (try simp only [LN] at *) <;> omega)
 all_goals first
  | ((first | (with_reducible apply Z.retF1)); (focus rfl); (repeat' (first | exact trivial | (with_reducible apply Z.frz_one) | (with_reducible apply Z.fq_bool) | apply And.intro)); (all_goals (try exact (fun _ => none))); all_goals (first | (rw [decide_eq_false (show ¬ RNG o0 o1 o2 o3 o4 o5 o6 o7 by omega)]; rfl) | (rw [decide_eq_true (show RNG o0 o1 o2 o3 o4 o5 o6 o7 by omega)]; first | rfl | (rw [Bool.true_and]; rfl) | (simp; done))))
  | fail
theorem areoff_con (o0 o1 o2 o3 o4 o5 o6 o7 i w : Int) (h : Tab.okS i w) : Con Try.prog 86 [.agg [.v (.int .i64 o0), .v (.int .i64 o1), .v (.int .i64 o2), .v (.int .i64 o3), .v (.int .i64 o4), .v (.int .i64 o5), .v (.int .i64 o6), .v (.int .i64 o7)], .one (.v (.int .i64 i)), .one (.v (.int .i64 w))] (fun rx rK rt => rx = .val (.bool (offR o0 o1 o2 o3 o4 o5 o6 o7 i w)) ∧ rK = [] ∧ rt = 0) := by
 have h2 : (i = 0 ∧ w = 1) ∨ (i = 0 ∧ w = 2) ∨ (i = 1 ∧ w = 2) ∨ (i = 0 ∧ w = 3) ∨ (i = 1 ∧ w = 3) ∨ (i = 2 ∧ w = 3) := by unfold Tab.okS at h; omega
 rcases h2 with ⟨rfl, rfl⟩ | ⟨rfl, rfl⟩ | ⟨rfl, rfl⟩ | ⟨rfl, rfl⟩ | ⟨rfl, rfl⟩ | ⟨rfl, rfl⟩
 ·have h := areoff_in o0 o1 o2 o3 o4 o5 o6 o7 o0 o1 o2 o3 o4 o5 o6 o7 0 1 (joined_0_1 o0 o1 o2 o3 o4 o5 o6 o7)
  have e : ownO [o0, o1, o2, o3, o4, o5, o6, o7] 0 1 = ((o0 == o0 && (o1 == o1 && (o2 == o2 && (o3 == o3 && (o4 == o4 && (o5 == o5 && (o6 == o6 && (o7 == o7 && true))))))))) := by
   rw [Bool.eq_iff_iff]
   unfold ownO Tab.ownG
   simp [List.zipIdx]
  unfold offR
  rw [e]
  exact h
 ·have h := areoff_in o0 o1 o2 o3 o4 o5 o6 o7 o0 o1 o2 o3 0 0 0 0 0 2 (joined_0_2 o0 o1 o2 o3 o4 o5 o6 o7)
  have e : ownO [o0, o1, o2, o3, o4, o5, o6, o7] 0 2 = ((o0 == o0 && (o1 == o1 && (o2 == o2 && (o3 == o3 && (o4 == 0 && (o5 == 0 && (o6 == 0 && (o7 == 0 && true))))))))) := by
   rw [Bool.eq_iff_iff]
   unfold ownO Tab.ownG
   simp [List.zipIdx]
  unfold offR
  rw [e]
  exact h
 ·have h := areoff_in o0 o1 o2 o3 o4 o5 o6 o7 0 0 0 0 o4 o5 o6 o7 1 2 (joined_1_2 o0 o1 o2 o3 o4 o5 o6 o7)
  have e : ownO [o0, o1, o2, o3, o4, o5, o6, o7] 1 2 = ((o0 == 0 && (o1 == 0 && (o2 == 0 && (o3 == 0 && (o4 == o4 && (o5 == o5 && (o6 == o6 && (o7 == o7 && true))))))))) := by
   rw [Bool.eq_iff_iff]
   unfold ownO Tab.ownG
   simp [List.zipIdx]
  unfold offR
  rw [e]
  exact h
 ·have h := areoff_in o0 o1 o2 o3 o4 o5 o6 o7 o0 o1 o2 0 0 0 0 0 0 3 (joined_0_3 o0 o1 o2 o3 o4 o5 o6 o7)
  have e : ownO [o0, o1, o2, o3, o4, o5, o6, o7] 0 3 = ((o0 == o0 && (o1 == o1 && (o2 == o2 && (o3 == 0 && (o4 == 0 && (o5 == 0 && (o6 == 0 && (o7 == 0 && true))))))))) := by
   rw [Bool.eq_iff_iff]
   unfold ownO Tab.ownG
   simp [List.zipIdx]
  unfold offR
  rw [e]
  exact h
 ·have h := areoff_in o0 o1 o2 o3 o4 o5 o6 o7 0 0 0 o3 o4 o5 0 0 1 3 (joined_1_3 o0 o1 o2 o3 o4 o5 o6 o7)
  have e : ownO [o0, o1, o2, o3, o4, o5, o6, o7] 1 3 = ((o0 == 0 && (o1 == 0 && (o2 == 0 && (o3 == o3 && (o4 == o4 && (o5 == o5 && (o6 == 0 && (o7 == 0 && true))))))))) := by
   rw [Bool.eq_iff_iff]
   unfold ownO Tab.ownG
   simp [List.zipIdx]
  unfold offR
  rw [e]
  exact h
 ·have h := areoff_in o0 o1 o2 o3 o4 o5 o6 o7 0 0 0 0 0 0 o6 o7 2 3 (joined_2_3 o0 o1 o2 o3 o4 o5 o6 o7)
  have e : ownO [o0, o1, o2, o3, o4, o5, o6, o7] 2 3 = ((o0 == 0 && (o1 == 0 && (o2 == 0 && (o3 == 0 && (o4 == 0 && (o5 == 0 && (o6 == o6 && (o7 == o7 && true))))))))) := by
   rw [Bool.eq_iff_iff]
   unfold ownO Tab.ownG
   simp [List.zipIdx]
  unfold offR
  rw [e]
  exact h
end Go.Proofs.Ytopieffkpdlpbaa
namespace Go.Proofs.Ytopieffkpdlpbaa
open Go Go.RowKit Wx
set_option maxHeartbeats 4000000
def nmOk (x : Nm) : Bool := decide ((0 ≤ x.s ∧ x.s < 16) ∧ (1 ≤ x.a ∧ x.a ≤ 1048576) ∧ 1 ≤ x.n ∧ x.n ≤ 1048576)
def nLt (x y : Nm) : Prop := x.s < y.s ∨ (x.s = y.s ∧ (x.a < y.a ∨ (x.a = y.a ∧ x.n < y.n)))
instance (x y : Nm) : Decidable (nLt x y) := by unfold nLt; infer_instance
def nC (x y : Nm) : Int := if Tab.cmpI x.s y.s ≠ 0 then Tab.cmpI x.s y.s else if Tab.cmpI x.a y.a ≠ 0 then Tab.cmpI x.a y.a else Tab.cmpI x.n y.n
theorem nC_lt (x y : Nm) : decide (0 ≤ nC x y) = !decide (nLt x y) := by
 have h : 0 ≤ nC x y ↔ ¬ nLt x y := by
  unfold nC Tab.cmpI nLt
  by_cases h1 : x.s < y.s
  ·simp [h1]
  ·by_cases h2 : y.s < x.s
   ·have : ¬ x.s = y.s := by omega
    simp [h1, h2, this]
   ·have h3 : x.s = y.s := by omega
    by_cases h4 : x.a < y.a
    ·simp [h3, h4]
    ·by_cases h5 : y.a < x.a
     ·have : ¬ x.a = y.a := by omega
      simp [h3, h4, h5, this]
     ·have h6 : x.a = y.a := by omega
      by_cases h7 : x.n < y.n
      ·simp [h3, h6, h7]
      ·by_cases h8 : y.n < x.n
       ·simp [h3, h6, h7, h8]
       ·simp [h3, h6, h7, h8]
 by_cases hl : nLt x y
 ·rw [decide_eq_false (fun h9 => h.1 h9 hl), decide_eq_true hl]; rfl
 ·rw [decide_eq_true (h.2 hl), decide_eq_false hl]; rfl
def nOk : Option Nm → List Nm → Bool
 | _, [] => true
 | none, x :: r => nmOk x && nOk (some x) r
 | some p, x :: r => nmOk x && decide (nLt p x) && nOk (some x) r
def nPrev (l : List Nm) : Nat → Option Nm
 | 0 => none
 | i + 1 => l[i]?
theorem nOk_at {l : List Nm} {i : Nat} {x : Nm} (h : l[i]? = some x) : nOk (nPrev l i) (l.drop i) = (nmOk x && (match nPrev l i with | none => true | some q => decide (nLt q x)) && nOk (nPrev l (i + 1)) (l.drop (i + 1))) := by
 rw [drop_cons h]
 have e : nPrev l (i + 1) = some x := h
 rw [e]
 cases hp : nPrev l i with
 | none => simp [nOk]
 | some q => simp [nOk]
def namesR (l : List Nm) : Bool := decide (l.length ≤ 24) && nOk none l
theorem cname_con (x : Nm)  : Con Try.prog 80 [.agg [.v (.int .i64 x.s), .v (.int .i64 x.a), .v (.int .i64 x.n)]] (fun rx rK rt => rx = .val (.int .i64 (bif nmOk x then 0 else 2)) ∧ rK = [] ∧ rt = 0) := by
 refine Z.con_ofF tabOk 6 Try.f80 _ Try.func80 (by kernel_rfl) rfl rfl rfl rfl ?_
 cases hk : nmOk x
 ·have hk := of_decide_eq_false hk
  try simp only [cond_false]
  repeat' ((conv => whnf); first
   | with_reducible first | refine spB_t ?_
   | ((with_reducible apply spB_cong); (focus (simp only [splQ, Int.reduceBEq, Int.reduceBNe]; rfl)))
   | with_reducible first | refine spB_yes (by decide) ?_ | refine spB_no (by decide) ?_ | refine spB_not ?_
   | (with_reducible refine spB_dec ?_ ?_ <;> intro _ <;> (try (exfalso; (first | omega))))
   | with_reducible first | refine Z.loopZ_unroll tabOk 2 ?_
   | ((with_reducible apply rowN_mk); (focus rfl))
   | ((with_reducible apply ixN_lit); (focus rfl); (focus rfl))
   | with_reducible first | refine Z.callZ_in tabOk 15 Try.f106 _ Try.func106 (by kernel_rfl) rfl rfl rfl ?_ | refine Z.callZ_in tabOk 24 Try.f116 _ Try.func116 (by kernel_rfl) rfl rfl rfl ?_ | refine Z.callZ_in tabOk 9 Try.f129 _ Try.func129 (by kernel_rfl) rfl rfl rfl ?_
   | ((with_reducible apply ex_and); exact rfl)
   | fail)
  all_goals (try (conv => whnf))
  all_goals try first | (show Nat.ble _ _ = true; rfl) | (exfalso; rename_i hz; cases hz; done) | (exfalso; (try simp only [LN] at *) <;> omega)
  all_goals first
   | ((first | (with_reducible apply Z.retF1)); (focus rfl); (repeat' (first | exact trivial | (with_reducible apply Z.frz_one) | (with_reducible apply Z.fq_int) | exact rfl | apply And.intro)); (all_goals (try exact (fun _ => none))); all_goals (first | (simp; done)))
   | fail
 ·have hk := of_decide_eq_true hk
  try simp only [cond_true]
  repeat' ((conv => whnf); first
   | with_reducible first | refine spB_t ?_
   | with_reducible first | refine spB_yes (by decide) ?_ | refine spB_no (by decide) ?_ | refine spB_not ?_
   | (with_reducible refine spB_dec ?_ ?_ <;> intro _ <;> (try (exfalso; (first | omega))))
   | with_reducible first | refine Z.loopZ_unroll tabOk 2 ?_
   | ((with_reducible apply rowN_mk); (focus rfl))
   | ((with_reducible apply ixN_lit); (focus rfl); (focus rfl))
   | with_reducible refine wr_i64 (by first | omega | (simp only [LN] at *; omega)) ?_
   | with_reducible first | refine Z.callZ_in tabOk 15 Try.f106 _ Try.func106 (by kernel_rfl) rfl rfl rfl ?_ | refine Z.callZ_in tabOk 24 Try.f116 _ Try.func116 (by kernel_rfl) rfl rfl rfl ?_ | refine Z.callZ_in tabOk 9 Try.f129 _ Try.func129 (by kernel_rfl) rfl rfl rfl ?_
   | ((with_reducible apply ex_and); exact rfl)
   | fail)
  all_goals (try (conv => whnf))
  all_goals try first | (show Nat.ble _ _ = true; rfl) | (exfalso; rename_i hz; cases hz; done) | (exfalso; (try simp only [LN] at *) <;> omega)
  all_goals first
   | ((first | (with_reducible apply Z.retF1)); (focus rfl); (repeat' (first | exact trivial | (with_reducible apply Z.frz_one) | (with_reducible apply Z.fq_int) | exact rfl | apply And.intro)); (all_goals (try exact (fun _ => none))); all_goals (first | (simp; done)))
   | fail
theorem ncmp_con (x y : Nm)  : Con Try.prog 81 [.agg [.v (.int .i64 x.s), .v (.int .i64 x.a), .v (.int .i64 x.n)], .agg [.v (.int .i64 y.s), .v (.int .i64 y.a), .v (.int .i64 y.n)]] (fun rx rK rt => rx = .val (.int .i64 (nC x y)) ∧ rK = [] ∧ rt = 0) := by
 refine Z.con_ofF tabOk 22 Try.f81 _ Try.func81 (by kernel_rfl) rfl rfl rfl rfl ?_
 have c1 := Tab.cmp_con x.s y.s
 have c2 := Tab.cmp_con x.a y.a
 have c3 := Tab.cmp_con x.n y.n
 unfold nC
 generalize Tab.cmpI x.s y.s = A at *
 generalize Tab.cmpI x.a y.a = B at *
 generalize Tab.cmpI x.n y.n = C at *
 by_cases hA : A ≠ 0
 ·rw [if_pos hA]
  repeat' ((conv => whnf); first
   | with_reducible first | refine spB_yes (by decide) ?_
   | (with_reducible refine spB_bne ?_ ?_ <;> intro _ <;> (try (exfalso; (first | contradiction))))
   | with_reducible first | refine Z.loopZ_unroll tabOk 4 ?_
   | ((with_reducible apply rowN_mk); (focus rfl))
   | ((with_reducible apply ixN_lit); (focus rfl); (focus rfl))
   | with_reducible first | refine Z.callZ_in tabOk 18 Try.f107 _ Try.func107 (by kernel_rfl) rfl rfl rfl ?_
   | ((first | (with_reducible refine Z.conZ_mz ?_ (c1) ?_)); (focus ((repeat' (first | exact trivial | exact rfl | apply And.intro)); done)))
   | ((first | (with_reducible refine Z.conZ_mz ?_ (c2) ?_)); (focus ((repeat' (first | exact trivial | exact rfl | apply And.intro)); done)))
   | ((first | (with_reducible refine Z.conZ_mz ?_ (c3) ?_)); (focus ((repeat' (first | exact trivial | exact rfl | apply And.intro)); done)))
   | ((with_reducible apply ex_and); exact rfl)
   | with_reducible first | refine Z.drawZ_rule tabOk mixOk ?_ | refine Z.apZ_mk (by kernel_rfl) ?_
   | ((with_reducible refine Z.ConZ.red ?_); (try subst hlb); (apply Z.conZ_all); (focus (repeat (first | exact Z.FK.nil | (apply Z.FK.keep; exact rfl)))); (focus rfl); (focus rfl); (focus (repeat (first | exact trivial | (refine ⟨(fun o ho => (by first | (cases ho; rfl) | (cases ho; exact Z.inL_map fun _ => rfl) | (cases ho; exact Z.inL_mapr fun _ => rfl) | exact Z.inL_gB ho fun _ => rfl)), ?_⟩)))))
   | ((refine ⟨rfl, ?_, rfl⟩); (focus (repeat (first | exact Z.DK.nil))))
   | fail)
  all_goals (try (conv => whnf))
  all_goals try first | (show Nat.ble _ _ = true; rfl) | (exfalso; rename_i hz; cases hz; done) | (exfalso; (try simp only [LN] at *) <;> omega)
  all_goals first
   | ((first | (with_reducible apply Z.retF1)); (focus rfl); (repeat' (first | exact trivial | (with_reducible apply Z.frz_one) | exact rfl | apply And.intro)); (all_goals (try exact (fun _ => none))); all_goals (first | (simp_all; done)))
   | fail
 by_cases hB : B ≠ 0
 ·rw [if_neg hA, if_pos hB]
  repeat' ((conv => whnf); first
   | with_reducible first | refine spB_yes (by decide) ?_
   | (with_reducible refine spB_bne ?_ ?_ <;> intro _ <;> (try (exfalso; (first | contradiction))))
   | with_reducible first | refine Z.loopZ_unroll tabOk 4 ?_
   | ((with_reducible apply rowN_mk); (focus rfl))
   | ((with_reducible apply ixN_lit); (focus rfl); (focus rfl))
   | with_reducible refine wr_i64 (by first | omega | (simp only [LN] at *; omega)) ?_
   | with_reducible first | refine Z.callZ_in tabOk 18 Try.f107 _ Try.func107 (by kernel_rfl) rfl rfl rfl ?_
   | ((first | (with_reducible refine Z.conZ_mz ?_ (c1) ?_)); (focus ((repeat' (first | exact trivial | exact rfl | apply And.intro)); done)))
   | ((first | (with_reducible refine Z.conZ_mz ?_ (c2) ?_)); (focus ((repeat' (first | exact trivial | exact rfl | apply And.intro)); done)))
   | ((first | (with_reducible refine Z.conZ_mz ?_ (c3) ?_)); (focus ((repeat' (first | exact trivial | exact rfl | apply And.intro)); done)))
   | ((with_reducible apply ex_and); exact rfl)
   | with_reducible first | refine Z.drawZ_rule tabOk mixOk ?_ | refine Z.apZ_mk (by kernel_rfl) ?_
   | ((with_reducible refine Z.ConZ.red ?_); (try subst hlb); (apply Z.conZ_all); (focus (repeat (first | exact Z.FK.nil | (apply Z.FK.keep; exact rfl)))); (focus rfl); (focus rfl); (focus (repeat (first | exact trivial | (refine ⟨(fun o ho => (by first | (cases ho; rfl) | (cases ho; exact Z.inL_map fun _ => rfl) | (cases ho; exact Z.inL_mapr fun _ => rfl) | exact Z.inL_gB ho fun _ => rfl)), ?_⟩)))))
   | ((refine ⟨rfl, ?_, rfl⟩); (focus (repeat (first | exact Z.DK.nil))))
   | fail)
  all_goals (try (conv => whnf))
  all_goals try first | (show Nat.ble _ _ = true; rfl) | (exfalso; rename_i hz; cases hz; done) | (exfalso; (try simp only [LN] at *) <;> omega)
  all_goals first
   | ((first | (with_reducible apply Z.retF1)); (focus rfl); (repeat' (first | exact trivial | (with_reducible apply Z.frz_one) | exact rfl | apply And.intro)); (all_goals (try exact (fun _ => none))); all_goals (first | (simp_all; done)))
   | fail
 rw [if_neg hA, if_neg hB]
 by_cases hC : C = 0
 ·subst hC
  repeat' ((conv => whnf); first
   | ((with_reducible apply spB_cong); (focus (simp only [splQ, Int.reduceBEq, Int.reduceBNe]; rfl)))
   | with_reducible first | refine spB_yes (by decide) ?_ | refine spB_no (by decide) ?_
   | (with_reducible refine spB_bne ?_ ?_ <;> intro _ <;> (try (exfalso; (first | contradiction))))
   | with_reducible first | refine Z.loopZ_unroll tabOk 4 ?_
   | ((with_reducible apply rowN_mk); (focus rfl))
   | ((with_reducible apply ixN_lit); (focus rfl); (focus rfl))
   | with_reducible refine wr_i64 (by first | omega | (simp only [LN] at *; omega)) ?_
   | with_reducible first | refine Z.callZ_in tabOk 18 Try.f107 _ Try.func107 (by kernel_rfl) rfl rfl rfl ?_
   | ((first | (with_reducible refine Z.conZ_mz ?_ (c1) ?_)); (focus ((repeat' (first | exact trivial | exact rfl | apply And.intro)); done)))
   | ((first | (with_reducible refine Z.conZ_mz ?_ (c2) ?_)); (focus ((repeat' (first | exact trivial | exact rfl | apply And.intro)); done)))
   | ((first | (with_reducible refine Z.conZ_mz ?_ (c3) ?_)); (focus ((repeat' (first | exact trivial | exact rfl | apply And.intro)); done)))
   | ((with_reducible apply ex_and); exact rfl)
   | with_reducible first | refine Z.drawZ_rule tabOk mixOk ?_ | refine Z.apZ_mk (by kernel_rfl) ?_
   | ((with_reducible refine Z.ConZ.red ?_); (try subst hlb); (apply Z.conZ_all); (focus (repeat (first | exact Z.FK.nil | (apply Z.FK.keep; exact rfl)))); (focus rfl); (focus rfl); (focus (repeat (first | exact trivial | (refine ⟨(fun o ho => (by first | (cases ho; rfl) | (cases ho; exact Z.inL_map fun _ => rfl) | (cases ho; exact Z.inL_mapr fun _ => rfl) | exact Z.inL_gB ho fun _ => rfl)), ?_⟩)))))
   | ((refine ⟨rfl, ?_, rfl⟩); (focus (repeat (first | exact Z.DK.nil))))
   | fail)
  all_goals (try (conv => whnf))
  all_goals try first | (show Nat.ble _ _ = true; rfl) | (exfalso; rename_i hz; cases hz; done) | (exfalso; (try simp only [LN] at *) <;> omega)
  all_goals first
   | ((first | (with_reducible apply Z.retF1)); (focus rfl); (repeat' (first | exact trivial | (with_reducible apply Z.frz_one) | (with_reducible apply Z.fq_int) | exact rfl | apply And.intro)); (all_goals (try exact (fun _ => none))); all_goals (first | (simp_all; done)))
   | fail
 repeat' ((conv => whnf); first
  | with_reducible first | refine spB_yes (by decide) ?_
  | (with_reducible refine spB_bne ?_ ?_ <;> intro _ <;> (try (exfalso; (first | contradiction))))
  | with_reducible first | refine Z.loopZ_unroll tabOk 4 ?_
  | ((with_reducible apply rowN_mk); (focus rfl))
  | ((with_reducible apply ixN_lit); (focus rfl); (focus rfl))
  | with_reducible refine wr_i64 (by first | omega | (simp only [LN] at *; omega)) ?_
  | with_reducible first | refine Z.callZ_in tabOk 18 Try.f107 _ Try.func107 (by kernel_rfl) rfl rfl rfl ?_
  | ((first | (with_reducible refine Z.conZ_mz ?_ (c1) ?_)); (focus ((repeat' (first | exact trivial | exact rfl | apply And.intro)); done)))
  | ((first | (with_reducible refine Z.conZ_mz ?_ (c2) ?_)); (focus ((repeat' (first | exact trivial | exact rfl | apply And.intro)); done)))
  | ((first | (with_reducible refine Z.conZ_mz ?_ (c3) ?_)); (focus ((repeat' (first | exact trivial | exact rfl | apply And.intro)); done)))
  | ((with_reducible apply ex_and); exact rfl)
  | with_reducible first | refine Z.drawZ_rule tabOk mixOk ?_ | refine Z.apZ_mk (by kernel_rfl) ?_
  | ((with_reducible refine Z.ConZ.red ?_); (try subst hlb); (apply Z.conZ_all); (focus (repeat (first | exact Z.FK.nil | (apply Z.FK.keep; exact rfl)))); (focus rfl); (focus rfl); (focus (repeat (first | exact trivial | (refine ⟨(fun o ho => (by first | (cases ho; rfl) | (cases ho; exact Z.inL_map fun _ => rfl) | (cases ho; exact Z.inL_mapr fun _ => rfl) | exact Z.inL_gB ho fun _ => rfl)), ?_⟩)))))
  | ((refine ⟨rfl, ?_, rfl⟩); (focus (repeat (first | exact Z.DK.nil))))
  | fail)
 all_goals (try (conv => whnf))
 all_goals try first | (show Nat.ble _ _ = true; rfl) | (exfalso; rename_i hz; cases hz; done) | (exfalso; (try simp only [LN] at *) <;> omega)
 all_goals first
  | ((first | (with_reducible apply Z.retF1)); (focus rfl); (repeat' (first | exact trivial | (with_reducible apply Z.frz_one) | exact rfl | apply And.intro)); (all_goals (try exact (fun _ => none))); all_goals (first | (simp_all; done)))
  | fail
end Go.Proofs.Ytopieffkpdlpbaa
namespace Go.Proofs.Ytopieffkpdlpbaa
open Go Go.RowKit Wx
set_option maxHeartbeats 4000000
theorem namesok_con (l : List Nm) (hl : l.length ≤ 9223372036854775807) : Con Try.prog 44 [.one (.ro false 3 (l.map eN))] (fun rx rK rt => rx = .val (.bool (namesR l)) ∧ rK = [] ∧ rt = 0) := by
 refine Z.con_ofF tabOk 33 Try.f44 _ Try.func44 (by kernel_rfl) rfl rfl rfl rfl ?_
 unfold namesR
 by_cases hc : l.length ≤ 24
 rotate_left
 ·rw [decide_eq_false hc, Bool.false_and]
  repeat' ((conv => whnf); first
   | (with_reducible refine spB_dec ?_ ?_ <;> intro _ <;> (try (exfalso; (first | (simp only [LN] at *; omega)))))
   | fail)
  all_goals (try (conv => whnf))
  all_goals try first | (show Nat.ble _ _ = true; rfl) | (exfalso; rename_i hz; cases hz; done) | (exfalso; (try simp only [LN] at *) <;> omega)
  all_goals first
   | ((first | (with_reducible apply Z.retF1)); (focus rfl); (repeat' (first | exact trivial | (with_reducible apply Z.frz_one) | (with_reducible apply Z.fq_bool) | exact rfl | apply And.intro)); (all_goals (try exact (fun _ => none))); all_goals (first | (simp; done)))
   | fail
 rw [decide_eq_true hc, Bool.true_and]
 repeat' ((conv => whnf); first
  | (with_reducible refine spB_dec ?_ ?_ <;> intro _ <;> (try (exfalso; (first | (simp only [LN] at *; omega)))))
  | fail)
 all_goals (try (conv => whnf))
 all_goals try first | (show Nat.ble _ _ = true; rfl) | (exfalso; rename_i hz; cases hz; done) | (exfalso; (try simp only [LN] at *) <;> omega)
 refine Z.loopK tabOk (fun zq : Nat => [(10, .val (.int .i64 (zq : Int)))]) (fun zq : Nat => ([] : Z.Kr)) (fun zq => zq ≤ l.length ∧ nOk none l = nOk (nPrev l zq) (l.drop zq)) (fun zq => l.length - zq) 0 0 [(0, _), (8, _), (9, _)] ⟨rfl, rfl, rfl, trivial⟩ [] trivial ?_ ?_ rfl rfl ⟨Nat.zero_le _, rfl⟩ ?_
 ·repeat' (first | exact trivial | apply And.intro | exact ⟨_, rfl, Z.Imp.refl _⟩)
 ·repeat' (first | exact trivial)
 rintro i HINV
 (try dsimp only at HINV); (try dsimp only)
 obtain ⟨HI, HT⟩ := HINV
 by_cases hi : i < l.length
 ·obtain ⟨x, hx⟩ := getElem?_some' (xs := l) (i := i) hi
  rw [nOk_at hx] at HT
  have ck := cname_con x
  cases hk : nmOk x
  ·rw [hk] at ck HT
   simp only [Bool.false_and] at HT
   try simp only [cond_false] at ck
   rw [HT]
   repeat' ((conv => whnf); first
    | with_reducible first | refine spB_t ?_
    | ((with_reducible apply spB_cong); (focus (simp only [splQ, Int.reduceBEq, Int.reduceBNe]; rfl)))
    | (with_reducible refine spB_dec ?_ ?_ <;> intro _ <;> (try (exfalso; (first | (simp only [LN] at *; omega)))))
    | with_reducible first | refine Z.rowN_known hx ?_
    | ((with_reducible apply ixN_litp); (focus rfl); (focus ((try simp only [LN] at *) <;> omega)))
    | ((first | (with_reducible refine Z.conZ_mz ?_ (ck) ?_)); (focus ((repeat' (first | exact trivial | exact rfl | apply And.intro)); done)))
    | with_reducible first | refine Z.drawZ_rule tabOk mixOk ?_ | refine Z.apZ_mk (by kernel_rfl) ?_
    | fail)
   all_goals (try (conv => whnf))
   all_goals try first | (show Nat.ble _ _ = true; rfl) | (exfalso; rename_i hz; cases hz; done) | (exfalso; (try simp only [LN] at *) <;> omega)
   all_goals first
    | ((first | (with_reducible apply Z.retF1)); (focus rfl); (repeat' (first | exact trivial | (with_reducible apply Z.frz_one) | (with_reducible apply Z.fq_bool) | exact rfl | apply And.intro)); (all_goals (try exact (fun _ => none))); all_goals (first | (simp; done)))
    | fail
  rw [hk] at ck HT
  simp only [Bool.true_and] at HT
  try simp only [cond_true] at ck
  rcases i with _ | j
  ·have HT2 : nOk none l = nOk (nPrev l 1) (l.drop 1) := by rw [HT]; rfl
   repeat' ((conv => whnf); first
    | ((with_reducible apply spB_cong); (focus (simp only [splQ, Int.reduceBEq, Int.reduceBNe]; rfl)))
    | with_reducible first | refine spB_no (by decide) ?_
    | (with_reducible refine spB_dec ?_ ?_ <;> intro _ <;> (try (exfalso; (first | (simp only [LN] at *; omega)))))
    | with_reducible first | refine Z.rowN_known hx ?_
    | ((with_reducible apply ixN_litp); (focus rfl); (focus ((try simp only [LN] at *) <;> omega)))
    | with_reducible refine wr_i64 (by first | omega | (simp only [LN] at *; omega)) ?_
    | ((first | (with_reducible refine Z.conZ_mz ?_ (ck) ?_)); (focus ((repeat' (first | exact trivial | exact rfl | apply And.intro)); done)))
    | with_reducible first | refine Z.drawZ_rule tabOk mixOk ?_ | refine Z.apZ_mk (by kernel_rfl) ?_
    | fail)
   all_goals (try (conv => whnf))
   all_goals try first | (show Nat.ble _ _ = true; rfl) | (exfalso; rename_i hz; cases hz; done) | (exfalso; (try simp only [LN] at *) <;> omega)
   all_goals first
    | ((refine Z.rndK (1) (fun s => []) rfl rfl rfl rfl ?_ ?_ ?_ ?_); (focus (repeat' (first | exact trivial | exact rfl | apply And.intro))); (focus (repeat' (first | exact trivial))); (focus (exact ⟨by (try dsimp only); omega, HT2⟩)); ((try dsimp only); omega))
    | fail
  obtain ⟨q, hq⟩ := getElem?_some' (xs := l) (i := j) (by omega)
  have hpr : nPrev l (j + 1) = some q := hq
  rw [hpr] at HT
  simp only at HT
  have cc := ncmp_con q x
  have hcl := nC_lt q x
  generalize nC q x = C at *
  by_cases hlt : nLt q x
  ·rw [decide_eq_true hlt] at HT hcl
   have hC : ¬ 0 ≤ C := of_decide_eq_false (by simpa using hcl)
   rw [Bool.true_and] at HT
   repeat' ((conv => whnf); first
    | with_reducible first | refine spB_t ?_
    | ((with_reducible apply spB_cong); (focus (simp only [splQ, Int.reduceBEq, Int.reduceBNe]; rfl)))
    | with_reducible first | refine spB_no (by decide) ?_
    | (with_reducible refine spB_dec ?_ ?_ <;> intro _ <;> (try (exfalso; (first | contradiction | omega | (simp only [LN] at *; omega)))))
    | with_reducible first | refine Z.rowN_known hx ?_ | refine Z.rowN_known hq ?_
    | ((with_reducible refine ixN_mk (j) ?_ ?_ ?_); (focus (first | ((try simp only [LN] at *) <;> omega))); (focus ((try simp only [LN] at *) <;> omega)))
    | ((with_reducible apply ixN_litp); (focus rfl); (focus ((try simp only [LN] at *) <;> omega)))
    | with_reducible refine wr_i64 (by first | omega | (simp only [LN] at *; omega)) ?_
    | ((first | (with_reducible refine Z.conZ_mz ?_ (ck) ?_) | (with_reducible refine Z.conZ_mz ?_ (cc) ?_)); (focus ((repeat' (first | exact trivial | exact rfl | apply And.intro)); done)))
    | with_reducible first | refine Z.drawZ_rule tabOk mixOk ?_ | refine Z.apZ_mk (by kernel_rfl) ?_
    | fail)
   all_goals (try (conv => whnf))
   all_goals try first | (show Nat.ble _ _ = true; rfl) | (exfalso; rename_i hz; cases hz; done) | (exfalso; (try simp only [LN] at *) <;> omega)
   all_goals first
    | ((refine Z.rndK ((j + 1 + 1)) (fun s => []) rfl rfl rfl rfl ?_ ?_ ?_ ?_); (focus (repeat' (first | exact trivial | exact rfl | apply And.intro))); (focus (repeat' (first | exact trivial))); (focus (exact ⟨by (try dsimp only); omega, HT⟩)); ((try dsimp only); omega))
    | fail
  ·rw [decide_eq_false hlt] at HT hcl
   have hC : 0 ≤ C := of_decide_eq_true (by simpa using hcl)
   rw [Bool.false_and] at HT
   rw [HT]
   repeat' ((conv => whnf); first
    | with_reducible first | refine spB_t ?_
    | ((with_reducible apply spB_cong); (focus (simp only [splQ, Int.reduceBEq, Int.reduceBNe]; rfl)))
    | with_reducible first | refine spB_no (by decide) ?_
    | (with_reducible refine spB_dec ?_ ?_ <;> intro _ <;> (try (exfalso; (first | contradiction | omega | (simp only [LN] at *; omega)))))
    | with_reducible first | refine Z.rowN_known hx ?_ | refine Z.rowN_known hq ?_
    | ((with_reducible refine ixN_mk (j) ?_ ?_ ?_); (focus (first | ((try simp only [LN] at *) <;> omega))); (focus ((try simp only [LN] at *) <;> omega)))
    | ((with_reducible apply ixN_litp); (focus rfl); (focus ((try simp only [LN] at *) <;> omega)))
    | with_reducible refine wr_i64 (by first | omega | (simp only [LN] at *; omega)) ?_
    | ((first | (with_reducible refine Z.conZ_mz ?_ (ck) ?_) | (with_reducible refine Z.conZ_mz ?_ (cc) ?_)); (focus ((repeat' (first | exact trivial | exact rfl | apply And.intro)); done)))
    | with_reducible first | refine Z.drawZ_rule tabOk mixOk ?_ | refine Z.apZ_mk (by kernel_rfl) ?_
    | fail)
   all_goals (try (conv => whnf))
   all_goals try first | (show Nat.ble _ _ = true; rfl) | (exfalso; rename_i hz; cases hz; done) | (exfalso; (try simp only [LN] at *) <;> omega)
   all_goals first
    | ((first | (with_reducible apply Z.retF1)); (focus rfl); (repeat' (first | exact trivial | (with_reducible apply Z.frz_one) | (with_reducible apply Z.fq_bool) | exact rfl | apply And.intro)); (all_goals (try exact (fun _ => none))); all_goals (first | (simp; done)))
    | fail
 have hil : i = l.length := by omega
 subst hil
 rw [List.drop_length] at HT
 have HT3 : nOk none l = true := by rw [HT]; cases nPrev l l.length <;> rfl
 rw [HT3]
 repeat' ((conv => whnf); first
  | (with_reducible refine spB_dec ?_ ?_ <;> intro _ <;> (try (exfalso; (first | (rename_i hz; simp at hz; done)))))
  | fail)
 all_goals (try (conv => whnf))
 all_goals try first | (show Nat.ble _ _ = true; rfl) | (exfalso; rename_i hz; cases hz; done) | (exfalso; (try simp only [LN] at *) <;> omega)
 all_goals first
  | ((first | (with_reducible apply Z.retF1)); (focus rfl); (repeat' (first | exact trivial | (with_reducible apply Z.frz_one) | (with_reducible apply Z.fq_bool) | exact rfl | apply And.intro)); (all_goals (try exact (fun _ => none))); all_goals (first | (simp; done)))
  | fail
end Go.Proofs.Ytopieffkpdlpbaa
namespace Go.Proofs.Ytopieffkpdlpbaa
open Go Go.RowKit Wx
set_option maxHeartbeats 4000000
namespace Tab
theorem mine_in (s k v i w : Int) (c0 c1 c2 c3 c4 c5 c6 c7 : Int) (hk : keyOk s k = true) (hs : okS i w) (cow : Con Try.prog 71 [.one (.v (.int .i64 w))] (fun rx rK rt => rx = .pl (.agg [.v (.int .i64 c0), .v (.int .i64 c1), .v (.int .i64 c2), .v (.int .i64 c3), .v (.int .i64 c4), .v (.int .i64 c5), .v (.int .i64 c6), .v (.int .i64 c7)]) ∧ rK = [] ∧ rt = 0)) : Con Try.prog 29 [.agg [.v (.int .i64 s), .v (.int .i64 k), .v (.int .i64 v)], .one (.v (.int .i64 i)), .one (.v (.int .i64 w))] (fun rx rK rt => rx = .val (.bool (decide ((([c0, c1, c2, c3, c4, c5, c6, c7] : List Int).getD (k % 8).toNat 0) = i))) ∧ rK = [] ∧ rt = 0) := by
 refine Z.con_ofF tabOk 24 Try.f29 _ Try.func29 (by kernel_rfl) rfl rfl rfl rfl ?_
 have ck := rec_con s k v
 have csh := share_con i w
 rw [hk] at ck
 rw [decide_eq_true hs] at csh
 try simp only [cond_true] at ck
 have hk2 := keyOk_iff.1 hk
 have cg := group_con s k v
 rw [show k.tmod 8 = k % 8 from Int.tmod_eq_emod_of_nonneg (by omega)] at cg
 have hj : k % 8 = 0 ∨ k % 8 = 1 ∨ k % 8 = 2 ∨ k % 8 = 3 ∨ k % 8 = 4 ∨ k % 8 = 5 ∨ k % 8 = 6 ∨ k % 8 = 7 := by omega
 rcases hj with hj | hj | hj | hj | hj | hj | hj | hj
 all_goals rw [hj] at cg ⊢
 all_goals (
  repeat' ((conv => whnf); first
   | with_reducible first | refine spB_t ?_
   | ((with_reducible apply spB_cong); (focus (simp only [splQ, Int.reduceBEq, Int.reduceBNe]; rfl)))
   | ((with_reducible apply ixN_lit); (focus rfl); (focus rfl))
   | ((first | (with_reducible refine Z.conZ_mz ?_ (ck) ?_) | (with_reducible refine Z.conZ_mz ?_ (cg) ?_) | (with_reducible refine Z.conZ_mz ?_ (csh) ?_) | (with_reducible refine Z.conZ_mz ?_ (cow) ?_)); (focus ((repeat' (first | exact trivial | exact rfl | apply And.intro)); done)))
   | with_reducible first | refine Z.drawZ_rule tabOk mixOk ?_ | refine Z.apZ_mk (by kernel_rfl) ?_
   | fail)
  all_goals (try (conv => whnf))
  all_goals try first | (show Nat.ble _ _ = true; rfl) | (exfalso; rename_i hz; cases hz; done) | (exfalso; (try simp only [LN] at *) <;> omega)
  all_goals first
   | ((first | (with_reducible apply Z.retF1)); (focus rfl); (repeat' (first | exact trivial | (with_reducible apply Z.frz_one) | (with_reducible apply Z.fq_bool) | exact rfl | apply And.intro)); (all_goals (try exact (fun _ => none))); all_goals (first | (simp_all; done)))
   | fail
  )
theorem mine_rec (s k v i w : Int) (hk : keyOk s k = false) : Con Try.prog 29 [.agg [.v (.int .i64 s), .v (.int .i64 k), .v (.int .i64 v)], .one (.v (.int .i64 i)), .one (.v (.int .i64 w))] (fun rx rK rt => rx = .val (.bool false) ∧ rK = [] ∧ rt = 0) := by
 refine Z.con_ofF tabOk 24 Try.f29 _ Try.func29 (by kernel_rfl) rfl rfl rfl rfl ?_
 have ck := rec_con s k v
 have csh := share_con i w
 rw [hk] at ck
 try simp only [cond_false] at ck
 repeat' ((conv => whnf); first
  | ((with_reducible apply spB_cong); (focus (simp only [splQ, Int.reduceBEq, Int.reduceBNe]; rfl)))
  | with_reducible first | refine spB_no (by decide) ?_
  | ((first | (with_reducible refine Z.conZ_mz ?_ (ck) ?_)); (focus ((repeat' (first | exact trivial | exact rfl | apply And.intro)); done)))
  | with_reducible first | refine Z.drawZ_rule tabOk mixOk ?_ | refine Z.apZ_mk (by kernel_rfl) ?_
  | fail)
 all_goals (try (conv => whnf))
 all_goals try first | (show Nat.ble _ _ = true; rfl) | (exfalso; rename_i hz; cases hz; done) | (exfalso; (try simp only [LN] at *) <;> omega)
 all_goals first
  | ((first | (with_reducible apply Z.retF1)); (focus rfl); (repeat' (first | exact trivial | (with_reducible apply Z.frz_one) | (with_reducible apply Z.fq_bool) | exact rfl | apply And.intro)); (all_goals (try exact (fun _ => none))); all_goals (first | (simp_all; done)))
  | fail
theorem mine_sh (s k v i w : Int) (hk : keyOk s k = true) (hs : ¬ okS i w) : Con Try.prog 29 [.agg [.v (.int .i64 s), .v (.int .i64 k), .v (.int .i64 v)], .one (.v (.int .i64 i)), .one (.v (.int .i64 w))] (fun rx rK rt => rx = .val (.bool false) ∧ rK = [] ∧ rt = 0) := by
 refine Z.con_ofF tabOk 24 Try.f29 _ Try.func29 (by kernel_rfl) rfl rfl rfl rfl ?_
 have ck := rec_con s k v
 have csh := share_con i w
 rw [hk] at ck
 rw [decide_eq_false hs] at csh
 try simp only [cond_true] at ck
 repeat' ((conv => whnf); first
  | with_reducible first | refine spB_t ?_
  | ((with_reducible apply spB_cong); (focus (simp only [splQ, Int.reduceBEq, Int.reduceBNe]; rfl)))
  | with_reducible first | refine spB_no (by decide) ?_
  | ((first | (with_reducible refine Z.conZ_mz ?_ (ck) ?_) | (with_reducible refine Z.conZ_mz ?_ (csh) ?_)); (focus ((repeat' (first | exact trivial | exact rfl | apply And.intro)); done)))
  | with_reducible first | refine Z.drawZ_rule tabOk mixOk ?_ | refine Z.apZ_mk (by kernel_rfl) ?_
  | fail)
 all_goals (try (conv => whnf))
 all_goals try first | (show Nat.ble _ _ = true; rfl) | (exfalso; rename_i hz; cases hz; done) | (exfalso; (try simp only [LN] at *) <;> omega)
 all_goals first
  | ((first | (with_reducible apply Z.retF1)); (focus rfl); (repeat' (first | exact trivial | (with_reducible apply Z.frz_one) | (with_reducible apply Z.fq_bool) | exact rfl | apply And.intro)); (all_goals (try exact (fun _ => none))); all_goals (first | (simp_all; done)))
  | fail
theorem mine_con (s k v i w : Int) : Con Try.prog 29 [.agg [.v (.int .i64 s), .v (.int .i64 k), .v (.int .i64 v)], .one (.v (.int .i64 i)), .one (.v (.int .i64 w))] (fun rx rK rt => rx = .val (.bool (mineB s k i w)) ∧ rK = [] ∧ rt = 0) := by
 unfold mineB
 cases hk : keyOk s k
 ·simp only [Bool.false_and]
  exact mine_rec s k v i w hk
 by_cases hs : okS i w
 rotate_left
 ·rw [decide_eq_false hs]
  simp only [Bool.true_and, Bool.false_and]
  exact mine_sh s k v i w hk hs
 rw [decide_eq_true hs]
 simp only [Bool.true_and]
 have hk2 := keyOk_iff.1 hk
 have hw : w = 1 ∨ w = 2 ∨ w = 3 := by unfold okS at hs; omega
 have hj : k % 8 = 0 ∨ k % 8 = 1 ∨ k % 8 = 2 ∨ k % 8 = 3 ∨ k % 8 = 4 ∨ k % 8 = 5 ∨ k % 8 = 6 ∨ k % 8 = 7 := by omega
 rcases hw with rfl | rfl | rfl
 ·have h := mine_in s k v i 1 _ _ _ _ _ _ _ _ hk hs owners_1
  have e : ([0, 0, 0, 0, 0, 0, 0, 0] : List Int).getD (k % 8).toNat 0 = ownG (k % 8) 1 := by rcases hj with hj | hj | hj | hj | hj | hj | hj | hj <;> rw [hj] <;> decide
  rw [e] at h
  exact h
 ·have h := mine_in s k v i 2 _ _ _ _ _ _ _ _ hk hs owners_2
  have e : ([0, 0, 0, 0, 1, 1, 1, 1] : List Int).getD (k % 8).toNat 0 = ownG (k % 8) 2 := by rcases hj with hj | hj | hj | hj | hj | hj | hj | hj <;> rw [hj] <;> decide
  rw [e] at h
  exact h
 ·have h := mine_in s k v i 3 _ _ _ _ _ _ _ _ hk hs owners_3
  have e : ([0, 0, 0, 1, 1, 1, 2, 2] : List Int).getD (k % 8).toNat 0 = ownG (k % 8) 3 := by rcases hj with hj | hj | hj | hj | hj | hj | hj | hj <;> rw [hj] <;> decide
  rw [e] at h
  exact h
end Tab
end Go.Proofs.Ytopieffkpdlpbaa
namespace Go.Proofs.Ytopieffkpdlpbaa
open Go Go.RowKit Wx
set_option maxHeartbeats 4000000
namespace Tab
theorem part_tab (l : List Kc) (a w : Int) (hl : l.length ≤ 1000) (ht : tabR l = false) : Con Try.prog 87 [.agg [.ro false 4 (l.map eK)], .one (.v (.int .i64 a)), .one (.v (.int .i64 w))] (fun rx rK rt => rx = .tup [.agg [.ro true 4 (([] : List Kc).map eK)], .one (.v (.int .i64 220))] ∧ rK = [] ∧ rt = 0) := by
 refine Z.con_ofF tabOk 41 Try.f87 _ Try.func87 (by kernel_rfl) rfl rfl rfl rfl ?_
 have cc := check_con l (by omega)
 rw [ht] at cc
 simp only [cond_false] at cc
 repeat' ((conv => whnf); first
  | with_reducible first | refine spB_t ?_
  | ((with_reducible apply spB_cong); (focus (simp only [splQ, Int.reduceBEq, Int.reduceBNe]; rfl)))
  | ((first | (with_reducible refine Z.callZ_mk ?_ (cc) ?_)); (focus ((repeat' (first | exact trivial | exact rfl | apply And.intro)); done)))
  | fail)
 all_goals (try (conv => whnf))
 all_goals try first | (show Nat.ble _ _ = true; rfl) | (exfalso; rename_i hz; cases hz; done) | (exfalso; (try simp only [LN] at *) <;> omega)
 all_goals first
  | ((first | (with_reducible apply Z.retF2)); (focus rfl); (repeat' (first | exact trivial | (with_reducible apply Z.frz_agg) | (exact Z.frz_nil) | exact rfl | apply And.intro)); (all_goals (try exact (fun _ => none))); all_goals (first | (simp; done)))
  | fail
theorem part_sh (l : List Kc) (a w : Int) (hl : l.length ≤ 1000) (ht : tabR l = true) (hs : ¬ okS a w) : Con Try.prog 87 [.agg [.ro false 4 (l.map eK)], .one (.v (.int .i64 a)), .one (.v (.int .i64 w))] (fun rx rK rt => rx = .tup [.agg [.ro true 4 (([] : List Kc).map eK)], .one (.v (.int .i64 2))] ∧ rK = [] ∧ rt = 0) := by
 refine Z.con_ofF tabOk 41 Try.f87 _ Try.func87 (by kernel_rfl) rfl rfl rfl rfl ?_
 have cc := check_con l (by omega)
 rw [ht] at cc
 simp only [cond_true] at cc
 have cow := owned_bad a w hs
 repeat' ((conv => whnf); first
  | with_reducible first | refine spB_t ?_
  | ((with_reducible apply spB_cong); (focus (simp only [splQ, Int.reduceBEq, Int.reduceBNe]; rfl)))
  | with_reducible first | refine spB_no (by decide) ?_
  | ((first | (with_reducible refine Z.callZ_mk ?_ (cc) ?_) | (with_reducible refine Z.callZ_mk ?_ (cow) ?_)); (focus ((repeat' (first | exact trivial | exact rfl | apply And.intro)); done)))
  | fail)
 all_goals (try (conv => whnf))
 all_goals try first | (show Nat.ble _ _ = true; rfl) | (exfalso; rename_i hz; cases hz; done) | (exfalso; (try simp only [LN] at *) <;> omega)
 all_goals first
  | ((first | (with_reducible apply Z.retF2)); (focus rfl); (repeat' (first | exact trivial | (with_reducible apply Z.frz_agg) | (exact Z.frz_nil) | exact rfl | apply And.intro)); (all_goals (try exact (fun _ => none))); all_goals (first | (simp; done)))
  | fail
end Tab
end Go.Proofs.Ytopieffkpdlpbaa
namespace Go.Proofs.Ytopieffkpdlpbaa
open Go Go.RowKit Wx
set_option maxHeartbeats 4000000
namespace Tab
theorem part_ok (l : List Kc) (a w : Int) (hl : l.length ≤ 1000) (ht : tabR l = true) (hs : okS a w) : Con Try.prog 87 [.agg [.ro false 4 (l.map eK)], .one (.v (.int .i64 a)), .one (.v (.int .i64 w))] (fun rx rK rt => rx = .tup [.agg [.ro true 4 ((partL l a w : List Kc).map eK)], .one (.v (.int .i64 0))] ∧ rK = [] ∧ rt = 0) := by
 refine Z.con_ofF tabOk 41 Try.f87 _ Try.func87 (by kernel_rfl) rfl rfl rfl rfl ?_
 have cc := check_con l (by omega)
 rw [ht] at cc
 simp only [cond_true] at cc
 obtain ⟨L, cow⟩ := owned_ok a w hs
 repeat' ((conv => whnf); first
  | ((with_reducible apply spB_cong); (focus (simp only [splQ, Int.reduceBEq, Int.reduceBNe]; rfl)))
  | with_reducible first | refine spB_no (by decide) ?_
  | with_reducible first | refine Z.callZ_in tabOk 26 Try.f118 _ Try.func118 (by kernel_rfl) rfl rfl rfl ?_ | refine Z.callZ_in tabOk 8 Try.f109 _ Try.func109 (by kernel_rfl) rfl rfl rfl ?_
  | ((first | (with_reducible refine Z.callZ_mk ?_ (cc) ?_) | (with_reducible refine Z.callZ_mk ?_ (cow) ?_)); (focus ((repeat' (first | exact trivial | exact rfl | apply And.intro)); done)))
  | ((with_reducible apply ex_and); exact rfl)
  | ((with_reducible refine Z.RangeZ.red ?_); (refine Z.range_rule [(6, _), (11, _), (32, _)] rfl ⟨rfl, rfl, rfl, trivial⟩ rfl rfl ?_); intro lb hlb)
  | fail)
 all_goals (try (conv => whnf))
 all_goals try first | (show Nat.ble _ _ = true; rfl) | (exfalso; rename_i hz; cases hz; done) | (exfalso; (try simp only [LN] at *) <;> omega)
 refine Z.loopK tabOk (fun zq : Nat × List Kc => [(10, .val (.int .i64 (zq.1 : Int)))]) (fun zq : Nat × List Kc => ([(2, some (Z.Ob.b ⟨[[.gsl 7 (zq.2.map cK)]], 1, 28, true⟩)), (7, (gB 4 70 (zq.2.map cK)).map Z.Ob.b)] : Z.Kr)) (fun zq => zq.1 ≤ l.length ∧ zq.2 = partL (l.take zq.1) a w) (fun zq => l.length - zq.1) (0, []) 8 [(0, _), (2, _), (3, _), (8, _), (9, _)] ⟨rfl, rfl, rfl, rfl, rfl, trivial⟩ [(0, some _), (1, some _), (3, some _), (4, some _), (5, some _), (6, some _)] ⟨rfl, rfl, rfl, rfl, rfl, rfl, trivial⟩ ?_ ?_ rfl rfl ⟨Nat.zero_le _, by simp [partL]⟩ ?_
 ·repeat' (first | exact trivial | apply And.intro | exact ⟨_, rfl, Z.Imp.refl _⟩)
 ·repeat' (first | exact trivial | (intro b hb; cases hb; done) | (intro b hb; cases hb; refine ⟨_, rfl, ⟨rfl, rfl, rfl⟩, ?_⟩; (repeat' (first | exact trivial | apply And.intro | exact Z.Imp.nilg _)); done) | apply And.intro)
 rintro ⟨i, acc⟩ HINV
 (try dsimp only at HINV); (try dsimp only)
 obtain ⟨HI, HA⟩ := HINV
 have hpl := @part_len (l.take i) a w
 rw [List.length_take, ← HA] at hpl
 by_cases hi2 : i < l.length
 ·obtain ⟨x, hx⟩ := getElem?_some' (xs := l) (i := i) hi2
  have hpa := part_at (i := a) (w := w) hx
  rw [← HA] at hpa
  have cm := mine_con x.src x.key 0 a w
  cases hm : mineB x.src x.key a w
  all_goals rw [hm] at cm hpa
  all_goals simp only [cond_true, cond_false, List.append_nil] at hpa
  ·skip
   repeat' ((conv => whnf); first
    | with_reducible first | refine spB_no (by decide) ?_
    | (with_reducible refine spB_dec ?_ ?_ <;> intro _ <;> (try (exfalso; (first | (simp only [LN] at *; omega)))))
    | with_reducible first | refine Z.rowN_known hx ?_
    | ((with_reducible apply ixN_litp); (focus rfl); (focus ((try simp only [LN] at *) <;> omega)))
    | with_reducible refine wr_i64 (by first | omega | (simp only [LN] at *; omega)) ?_
    | with_reducible first | refine Z.callZ_in tabOk 8 Try.f69 _ Try.func69 (by kernel_rfl) rfl rfl rfl ?_
    | ((first | (with_reducible refine Z.conZ_mz ?_ (cm) ?_)); (focus ((repeat' (first | exact trivial | exact rfl | apply And.intro)); done)))
    | ((with_reducible apply ex_and); exact rfl)
    | with_reducible first | refine Z.drawZ_rule tabOk mixOk ?_ | refine Z.apZ_mk (by kernel_rfl) ?_
    | ((with_reducible refine Z.ConZ.red ?_); (try subst hlb); (apply Z.conZ_all); (focus (repeat (first | exact Z.FK.nil | (apply Z.FK.keep; exact rfl)))); (focus rfl); (focus rfl); (focus (repeat (first | exact trivial | (refine ⟨(fun o ho => (by first | (cases ho; rfl) | (cases ho; exact Z.inL_map fun _ => rfl) | (cases ho; exact Z.inL_mapr fun _ => rfl) | exact Z.inL_gB ho fun _ => rfl)), ?_⟩)))))
    | ((refine ⟨rfl, ?_, rfl⟩); (focus (repeat (first | exact Z.DK.nil | apply Z.DK.cons))))
    | fail)
   all_goals (try (conv => whnf))
   all_goals try first | (show Nat.ble _ _ = true; rfl) | (exfalso; rename_i hz; cases hz; done) | (exfalso; (try simp only [LN] at *) <;> omega)
   all_goals first
    | ((refine Z.rndK ((i + 1, acc)) (fun s => [0, 1, 2, 3, 4, 5, 6, s.idIn 2 0]) rfl rfl rfl rfl ?_ ?_ ?_ ?_); (focus (repeat' (first | exact trivial | exact rfl | apply And.intro))); (focus (repeat' (first | exact trivial | (intro b hb; cases hb; rfl) | exact Z.gB_sub rfl rfl (ren_map fun _ => rfl) | apply And.intro))); (focus (exact ⟨by (try dsimp only); omega, hpa.symm⟩)); ((try dsimp only); omega))
    | fail
  ·skip
   repeat' ((conv => whnf); first
    | with_reducible first | refine spB_t ?_
    | ((with_reducible apply spB_cong); (focus (simp only [splQ, Int.reduceBEq, Int.reduceBNe]; rfl)))
    | with_reducible first | refine spB_no (by decide) ?_
    | (with_reducible refine spB_dec ?_ ?_ <;> intro _ <;> (try (exfalso; (first | (simp only [LN] at *; omega)))))
    | with_reducible first | refine Z.rowN_known hx ?_
    | ((with_reducible refine posE_pos ?_ ?_); (focus ((try simp only [LN] at *) <;> omega)))
    | ((with_reducible apply ixN_litp); (focus rfl); (focus ((try simp only [LN] at *) <;> omega)))
    | ((with_reducible refine apdN.mk ?_ ?_ ?_ ?_ ?_ ?_); (focus (first | rfl)); (focus (first | exact one_all (by rfl))); (focus ((try simp only [LN] at *) <;> omega)); (focus ((try simp only [LN] at *) <;> omega)); (focus ((try simp only [LN] at *) <;> omega)))
    | with_reducible refine wr_i64 (by first | omega | (simp only [LN] at *; omega)) ?_
    | with_reducible first | refine Z.callZ_in tabOk 8 Try.f69 _ Try.func69 (by kernel_rfl) rfl rfl rfl ?_
    | ((first | (with_reducible refine Z.conZ_mz ?_ (cm) ?_)); (focus ((repeat' (first | exact trivial | exact rfl | apply And.intro)); done)))
    | ((with_reducible refine eqN_mk2 ?_ ?_); (focus (exact Z.kb_some rfl)))
    | ((with_reducible apply ex_and); exact rfl)
    | ((with_reducible refine Z.CallZ.yl ?_); refine Z.yield_rule tabOk _ _ rfl rfl rfl rfl ?_)
    | with_reducible first | refine Z.drawZ_rule tabOk mixOk ?_ | refine Z.apZ_mk (by kernel_rfl) ?_
    | ((with_reducible refine Z.ConZ.red ?_); (try subst hlb); (apply Z.conZ_all); (focus (repeat (first | exact Z.FK.nil | (apply Z.FK.keep; exact rfl)))); (focus rfl); (focus rfl); (focus (repeat (first | exact trivial | (refine ⟨(fun o ho => (by first | (cases ho; rfl) | (cases ho; exact Z.inL_map fun _ => rfl) | (cases ho; exact Z.inL_mapr fun _ => rfl) | exact Z.inL_gB ho fun _ => rfl)), ?_⟩)))))
    | ((refine ⟨rfl, ?_, rfl⟩); (focus (repeat (first | exact Z.DK.nil | apply Z.DK.cons))))
    | fail)
   all_goals (try (conv => whnf))
   all_goals try first | (show Nat.ble _ _ = true; rfl) | (exfalso; rename_i hz; cases hz; done) | (exfalso; (try simp only [LN] at *) <;> omega)
   all_goals first
    | ((refine Z.rndK ((i + 1, acc ++ [x])) (fun s => [0, 1, 2, 3, 4, 5, 6, s.idIn 2 0]) rfl rfl rfl rfl ?_ ?_ ?_ ?_); (focus (repeat' (first | exact trivial | exact rfl | apply And.intro))); (focus (repeat' (first | exact trivial | (intro b hb; cases hb; rfl) | (intro b hb; cases hb; rw [List.map_append (f := cK)]; rfl) | exact Z.gB_sub' rfl (by first | rfl | (rw [List.map_append]; rfl) | simp only [List.map_append, List.map_cons, List.map_nil]) (ren_map fun _ => rfl) | apply And.intro))); (focus (exact ⟨by (try dsimp only); omega, hpa.symm⟩)); ((try dsimp only); omega))
    | fail
 have hil : i = l.length := by omega
 subst hil
 rw [List.take_length] at HA
 subst HA
 repeat' ((conv => whnf); first
  | (with_reducible refine spB_dec ?_ ?_ <;> intro _ <;> (try (exfalso; (first | (rename_i hz; simp at hz; done)))))
  | ((with_reducible apply ex_and); exact rfl)
  | ((with_reducible refine Z.rngN.mk ?_); (try subst hlb))
  | fail)
 all_goals (try (conv => whnf))
 all_goals try first | (show Nat.ble _ _ = true; rfl) | (exfalso; rename_i hz; cases hz; done) | (exfalso; (try simp only [LN] at *) <;> omega)
 all_goals first
  | ((first | (with_reducible apply Z.retF2)); (focus rfl); (repeat' (first | exact trivial | (with_reducible apply Z.frz_one) | (with_reducible apply Z.frz_agg) | (with_reducible apply Z.fq_int) | ((with_reducible apply Z.fq_gsl); (focus (first | exact Z.isB_map _)); (focus (exact fun _ => rfl))) | exact rfl | apply And.intro)); (all_goals (try exact (fun _ => none))); all_goals (first | (simp; done)))
  | fail
end Tab
end Go.Proofs.Ytopieffkpdlpbaa
namespace Go.Proofs.Ytopieffkpdlpbaa
open Go Go.RowKit Wx
set_option maxHeartbeats 4000000
namespace Tab
namespace Ops
end Ops
end Tab
end Go.Proofs.Ytopieffkpdlpbaa
namespace Go.Proofs.Ytopieffkpdlpbaa
open Go Go.RowKit Wx
set_option maxHeartbeats 4000000
namespace Tab
end Tab
end Go.Proofs.Ytopieffkpdlpbaa
namespace Go.Proofs.Ytopieffkpdlpbaa
open Go Go.RowKit Wx
set_option maxHeartbeats 4000000
namespace Tab
theorem sort_rule {m i n top : Nat} {c : Option Nat} {R : List (List Ce)} {bx : Bool} {K : Z.Kr} {k : AV → Z.Kr → Nat → Prop} (zs : List Kc) (hb : Z.kz K i = some (Z.Ob.b ⟨R, 4, 70, bx⟩)) (hr : R = zs.map cK) (hn : n = zs.length) (hl : zs.length ≤ 4000)
  (hkk : ∀ zs' : List Kc, zs'.Perm zs → zs'.Pairwise (fun x y => ltOf cfK y x = false) → k (.tup []) ((i, some (Z.Ob.b ⟨zs'.map cK, 4, 70, bx⟩)) :: K) top) : Z.CallZ Try.prog m (.fn 104 []) [.c (.osl i 0 n c), .c (.fn 105 [])] K top k := by
 refine Z.callZ_sortK (enc := ev) (kk := 4) (b := ⟨R, 4, 70, bx⟩) (by kernel_rfl) cK (ltOf cfK) zs [] (fun _ => rfl) (fun _ => rfl) hb rfl (by rw [hr, List.append_nil]) hn ?_ ?_
 ·intro blk cap w hH hblk
  exact AnyQ.slices_SortFunc (ρ := Try.sortK_ren) Try.sortK 4 (fun _ => by kernel_rfl) (fun _ => by kernel_rfl) ev (fun _ => rfl) (fun x v hv => by
   simp only [List.mem_cons, List.not_mem_nil, or_false] at hv
   rcases hv with rfl | rfl | rfl | rfl <;> rfl) cfK cfK_swo 105 #[] blk 0 cap zs.toArray w (Go.Proofs.enters_of Try.func105 (by kernel_rfl) rfl) (Z.con_cmp fun x y => cmpk_con x y) hH hblk (by simp; omega)
 ·intro zs' h1 h2
  rw [List.append_nil]
  exact hkk zs' h1 h2
end Tab
end Go.Proofs.Ytopieffkpdlpbaa
namespace Go.Proofs.Ytopieffkpdlpbaa
open Go Go.RowKit Wx
set_option maxHeartbeats 4000000
namespace Tab
theorem concat_own (a b : List Kc) (ha : a.length ≤ 1000) (hb : b.length ≤ 1000) (h0 : 0 < a.length + b.length) : Con Try.prog 103 [.one (.ro false 1 [[RT.ro 4 (a.map eK)], [RT.ro 4 (b.map eK)]])] (fun rx rK rt => rx = .c (.osl 0 0 (a ++ b).length none) ∧ rK = [(0, some ⟨(a ++ b).map cK, 4, 70, false⟩)] ∧ rt = 1) := by
 refine Z.con_ofZ tabOk 36 Try.f103 _ Try.func103 (by kernel_rfl) rfl rfl rfl rfl ?_
 have hA : List.take (0 + (a.map eK).length) ((a.map eK).map (List.map (RT.ce false))) ++ (b.map eK).map (List.map (RT.ce false)) = (a ++ b).map cK := by rw [Nat.zero_add, List.take_of_length_le (by simp), List.map_append, List.map_map, List.map_map]; rfl
 repeat' ((conv => whnf); first
  | with_reducible first | refine spB_t ?_
  | ((with_reducible apply spB_cong); (focus (simp only [splQ, Int.reduceBEq, Int.reduceBNe]; rfl)))
  | with_reducible first | refine spB_yes (by decide) ?_ | refine spB_no (by decide) ?_ | refine spB_f ?_ | refine spB_not ?_ | refine spB_yes (by assumption) ?_ | refine spB_no (by assumption) ?_
  | (with_reducible refine spB_dec ?_ ?_ <;> intro _ <;> (try (exfalso; first | contradiction | omega | (simp only [LN] at *; omega))))
  | (with_reducible refine spB_beq ?_ ?_ <;> intro _ <;> (try (exfalso; first | contradiction | omega | (simp only [LN] at *; omega))))
  | (with_reducible refine spB_bne ?_ ?_ <;> intro _ <;> (try (exfalso; first | contradiction | omega | (simp only [LN] at *; omega))))
  | (with_reducible refine spB_mk ?_ ?_ <;> intro _ <;> (try (exfalso; first | contradiction | omega | (simp only [LN] at *; omega))))
  | with_reducible first | refine Z.loopZ_unroll tabOk 3 ?_
  | ((with_reducible refine slN_hi 0 ?_ ?_ ?_); (focus rfl); (focus (exact Nat.zero_le _)))
  | ((with_reducible refine apz0N_mk (a.length + b.length) ?_ ?_ ?_ ?_ ?_); (iterate 4 (focus ((try simp only [LN] at *) <;> omega))))
  | ((with_reducible refine apz0N_mk _ ?_ ?_ ?_ ?_ ?_); (focus (first | rfl | exact (Int.toNat_of_nonneg (by omega)).symm)); (focus ((try simp only [LN] at *) <;> omega)); (focus ((try simp only [LN] at *) <;> omega)); (focus ((try simp only [LN] at *) <;> omega)))
  | ((with_reducible refine posE_pos ?_ ?_); (focus ((try simp only [LN] at *) <;> omega)))
  | ((with_reducible refine posE_nil ?_ ?_); (focus rfl))
  | ((with_reducible apply rowN_mk); (focus rfl))
  | ((with_reducible apply ixN_lit); (focus rfl); (focus rfl))
  | ((with_reducible apply ixN_litp); (focus rfl); (focus ((try simp only [LN] at *) <;> omega)))
  | ((with_reducible refine eqN_mk2 ?_ ?_); (focus rfl))
  | ((with_reducible refine posN_mk2 ?_ ?_); (focus (first | decide | ((try simp only [LN] at *) <;> omega))))
  | ((with_reducible refine apdE_r ?_); (with_reducible refine aprN.mk ⟨_, rfl, ?_⟩ ?_ ?_ ?_ ?_); (focus ((try simp only [LN] at *) <;> omega)); (focus (first | rfl | (simp; done) | ((try simp only [LN] at *) <;> omega))); (focus (first | exact one_all (by rfl) | exact one_map (fun _ => rfl) | exact one_map2 (fun _ => rfl) | exact one_drop (fun _ => rfl))); (focus ((try simp only [LN] at *) <;> omega)))
  | ((with_reducible refine apdE_k ?_); (with_reducible refine apkN.mk ⟨_, rfl, ?_⟩ ?_); (focus ((try simp only [LN] at *) <;> omega)))
  | with_reducible first | refine apdE_n ?_
  | ((with_reducible refine slE_a ?_ ?_); (focus ((try simp only [LN] at *) <;> omega)))
  | ((with_reducible refine slE_b ?_ ?_); (focus ((try simp only [LN] at *) <;> omega)))
  | ((with_reducible refine slE_split ?_ ?_ ?_); (focus ((try simp only [LN] at *) <;> omega)); (all_goals intro _))
  | ((with_reducible refine apdN.mk ?_ ?_ ?_ ?_ ?_ ?_); (focus (first | rfl | (simp; done))); (focus (first | exact one_all (by rfl) | exact one_map (fun _ => rfl) | exact one_map2 (fun _ => rfl))); (focus ((try simp only [LN] at *) <;> omega)); (focus ((try simp only [LN] at *) <;> omega)); (focus ((try simp only [LN] at *) <;> omega)))
  | with_reducible refine wr_i64 (by first | omega | (simp only [LN] at *; omega)) ?_
  | with_reducible refine wr_u64 (by omega) ?_
  | with_reducible refine wr_u8 (by omega) ?_
  | with_reducible refine wr_u32 (by omega) ?_
  | with_reducible first | refine wr_mk _ rfl ?_
  | ((with_reducible refine ixN_nat ?_ ?_); (focus ((try simp only [LN] at *) <;> omega)))
  | ((with_reducible refine rowN_map ?_ ?_); (focus ((try simp only [LN] at *) <;> omega)); intro x hx)
  | ((with_reducible refine posE_nil (by rfl) ?_))
  | ((with_reducible refine posE_pos (by decide) ?_))
  | with_reducible refine eqN_dec (by omega) ?_
  | with_reducible first | refine apN_mk (by kernel_rfl) ?_ | refine Z.callZ_in tabOk 27 Try.f113 _ Try.func113 (by kernel_rfl) rfl rfl rfl ?_
  | ((with_reducible refine eqN_mk2 ?_ ?_); (focus (exact Z.kb_some rfl)))
  | ((with_reducible apply ex_and); exact rfl))
 all_goals (try (conv => whnf))
 all_goals try first | (show Nat.ble _ _ = true; rfl) | (exfalso; rename_i hz; cases hz; done) | (exfalso; (try simp only [LN] at *) <;> omega)
 all_goals (refine ret1b 2 (.c (.osl 0 0 (a ++ b).length none)) ((a ++ b).map cK) 4 70 false _ rfl ?_ (by rfl) ?_ (ren_map fun _ => rfl) rfl (own_map fun _ => rfl) ⟨rfl, rfl, rfl⟩)
 ·exact congrArg (fun n => AV.c (Ce.osl 2 0 n none)) (by simp)
 ·first | exact hA | (simp [List.take_of_length_le, Function.comp_def]; done)
end Tab
end Go.Proofs.Ytopieffkpdlpbaa
namespace Go.Proofs.Ytopieffkpdlpbaa
open Go Go.RowKit Wx
set_option maxHeartbeats 4000000
namespace Tab
theorem con_quiet {P : Program} {g : FuncId} {u v : Value} (hfn : fnB P g = true) (h : ∀ w, Calls P g #[u] w fun e w' => e = .returned v ∧ w' = w) : Con P g [.one (.v u)] (fun rx rK rt => rx = .val v ∧ rK = [] ∧ rt = 0) := by
 refine ⟨hfn, fun w vs hvs => ?_⟩
 cases vs with
 | nil => exact hvs.elim
 | cons x vs => cases vs with
  | cons _ _ => exact hvs.2.elim
  | nil =>
   have hx : x = u := hvs.1
   subst hx
   refine Calls.mono (h w) ?_
   rintro e w' ⟨rfl, rfl⟩
   exact ⟨v, .val v, [], 0, fun _ => none, fun _ _ => none, rfl, ⟨fun i b h => by simp [kg] at h, fun i j bi bj p q h => by simp [kg] at h, fun i b p h => by simp [kg] at h, (fun _ _ _ _ hu => nomatch hu), fun i b p f o h => by simp [kg] at h, (fun _ _ _ hu => nomatch hu), (fun _ _ _ hu => nomatch hu), .refl _, (fun _ _ _ _ hu => nomatch hu), fun _ h => h.elim⟩, fun _ _ => rfl, (fun p hp => nomatch hp), rfl, rfl, rfl, rfl⟩
theorem len0_con : Con Try.prog 115 [.one (.v (.int .u64 0))] (fun rx rK rt => rx = .val (.int .i64 0) ∧ rK = [] ∧ rt = 0) := con_quiet (by kernel_rfl) fun w => Any.bits_Len (SlLaysF0.n15.bits (P := Try.prog) (ρ := Try.sortK_ren) { Try.sortK with }) 0 w (by decide) (by decide)
theorem pdq0_con : Con Try.prog 114 [.one (.v (.slice none 0 0)), .one (.v (.int .i64 0)), .one (.v (.int .i64 0)), .one (.v (.int .i64 0)), .one (.fn 105 [])] (fun rx rK rt => rx = .tup [] ∧ rK = [] ∧ rt = 0) := Y.con_eval ftabOk tabOk mixOk 60 12 (by kernel_rfl) (by rfl) (by kernel_rfl)
theorem sortnil_con   : Con Try.prog 104 [.one (.v (.slice none 0 0)), .one (.fn 105 [])] (fun rx rK rt => rx = .tup [] ∧ rK = [] ∧ rt = 0) := by
 refine Z.con_ofF tabOk 14 Try.f104 _ Try.func104 (by kernel_rfl) rfl rfl rfl rfl ?_
 repeat' ((conv => whnf); first
  | with_reducible refine wr_u64 (by omega) ?_
  | ((first | (with_reducible refine Z.callZ_mk ?_ (pdq0_con) ?_) | (with_reducible refine Z.callZ_mk ?_ (len0_con) ?_)); (focus ((repeat' (first | exact trivial | exact rfl | exact .inl rfl | apply And.intro)); done)))
  | fail)
 all_goals (try (conv => whnf))
 all_goals try (show Nat.ble _ _ = true; rfl)
 all_goals first
  | ((first | (with_reducible apply Z.retF0)); (focus rfl); (repeat' (first | exact trivial)); (all_goals (try exact (fun _ => none))); all_goals (first | (simp; done)))
  | fail
theorem concat_nil   : Con Try.prog 103 [.one (.ro false 1 [[RT.ro 4 (([] : List Kc).map eK)], [RT.ro 4 (([] : List Kc).map eK)]])] (fun rx rK rt => rx = .val (.slice none 0 0) ∧ rK = [] ∧ rt = 0) := by
 refine Z.con_ofZ tabOk 36 Try.f103 _ Try.func103 (by kernel_rfl) rfl rfl rfl rfl ?_
 repeat' ((conv => whnf); first
  | with_reducible first | refine spB_yes (by decide) ?_ | refine spB_no (by decide) ?_
  | with_reducible first | refine Z.loopZ_unroll tabOk 3 ?_
  | ((with_reducible refine posE_nil ?_ ?_); (focus rfl))
  | ((with_reducible apply rowN_mk); (focus rfl))
  | ((with_reducible apply ixN_lit); (focus rfl); (focus rfl))
  | with_reducible refine wr_i64 (by first | omega | (simp only [LN] at *; omega)) ?_
  | with_reducible first | refine Z.callZ_in tabOk 27 Try.f113 _ Try.func113 (by kernel_rfl) rfl rfl rfl ?_
  | ((with_reducible apply ex_and); exact rfl)
  | fail)
 all_goals (try (conv => whnf))
 all_goals try first | (show Nat.ble _ _ = true; rfl) | (exfalso; rename_i hz; cases hz; done) | (exfalso; (try simp only [LN] at *) <;> omega)
 all_goals first
 | (refine ret1 [.one (.v (.slice none 0 0))] rfl [] (.val (.slice none 0 0)) [] rfl trivial List.nodup_nil rfl ?_ (fun p hp => nomatch hp) ⟨rfl, rfl, rfl⟩; intro p b hp; cases hp; done)
 | (fail)
end Tab
end Go.Proofs.Ytopieffkpdlpbaa
namespace Go.Proofs.Ytopieffkpdlpbaa
open Go Go.RowKit Wx
set_option maxHeartbeats 4000000
namespace Tab
theorem join_bad (a b : List Kc) (h : tabR a = false ∨ tabR b = false) (hla : a.length ≤ 1000) (hlb : b.length ≤ 1000) : Con Try.prog 79 [.agg [.ro false 4 (a.map eK)], .agg [.ro false 4 (b.map eK)]] (fun rx rK rt => rx = .tup [.agg [.ro true 4 (([] : List Kc).map eK)], .one (.v (.int .i64 220))] ∧ rK = [] ∧ rt = 0) := by
 refine Z.con_ofF tabOk 32 Try.f79 _ Try.func79 (by kernel_rfl) rfl rfl rfl rfl ?_
 have ca := check_con a (by omega)
 have cb := check_con b (by omega)
 cases ha : tabR a
 all_goals rw [ha] at ca
 all_goals simp only [cond_true, cond_false] at ca
 rotate_left
 ·have hb : tabR b = false := by rcases h with h | h; (rw [ha] at h; cases h); exact h
  rw [hb] at cb
  simp only [cond_false] at cb
  repeat' ((conv => whnf); first
   | with_reducible first | refine spB_t ?_
   | ((with_reducible apply spB_cong); (focus (simp only [splQ, Int.reduceBEq, Int.reduceBNe]; rfl)))
   | with_reducible first | refine spB_no (by decide) ?_
   | ((first | (with_reducible refine Z.callZ_mk ?_ (ca) ?_)); (focus ((repeat' (first | exact trivial | exact rfl | apply And.intro)); done)))
   | ((first | (with_reducible refine Z.callZ_mk ?_ (cb) ?_)); (focus ((repeat' (first | exact trivial | exact rfl | apply And.intro)); done)))
   | fail)
  all_goals (try (conv => whnf))
  all_goals try first | (show Nat.ble _ _ = true; rfl) | (exfalso; rename_i hz; cases hz; done) | (exfalso; (try simp only [LN] at *) <;> omega)
  all_goals first
   | ((first | (with_reducible apply Z.retF2)); (focus rfl); (repeat' (first | exact trivial | (with_reducible apply Z.frz_one) | (with_reducible apply Z.frz_agg) | (with_reducible apply Z.fq_int) | (exact Z.frz_nil) | exact rfl | apply And.intro)); (all_goals (try exact (fun _ => none))); all_goals (first | (simp; done)))
   | fail
 repeat' ((conv => whnf); first
  | with_reducible first | refine spB_t ?_
  | ((with_reducible apply spB_cong); (focus (simp only [splQ, Int.reduceBEq, Int.reduceBNe]; rfl)))
  | ((first | (with_reducible refine Z.callZ_mk ?_ (ca) ?_)); (focus ((repeat' (first | exact trivial | exact rfl | apply And.intro)); done)))
  | fail)
 all_goals (try (conv => whnf))
 all_goals try first | (show Nat.ble _ _ = true; rfl) | (exfalso; rename_i hz; cases hz; done) | (exfalso; (try simp only [LN] at *) <;> omega)
 all_goals first
  | ((first | (with_reducible apply Z.retF2)); (focus rfl); (repeat' (first | exact trivial | (with_reducible apply Z.frz_one) | (with_reducible apply Z.frz_agg) | (with_reducible apply Z.fq_int) | (exact Z.frz_nil) | exact rfl | apply And.intro)); (all_goals (try exact (fun _ => none))); all_goals (first | (simp; done)))
  | fail
theorem join_nil   : Con Try.prog 79 [.agg [.ro false 4 (([] : List Kc).map eK)], .agg [.ro false 4 (([] : List Kc).map eK)]] (fun rx rK rt => rx = .tup [.agg [.ro true 4 (([] : List Kc).map eK)], .one (.v (.int .i64 0))] ∧ rK = [] ∧ rt = 0) := by
 refine Z.con_ofF tabOk 32 Try.f79 _ Try.func79 (by kernel_rfl) rfl rfl rfl rfl ?_
 have ca := check_con [] (by simp)
 have cat := concat_nil
 rw [show tabR [] = true from rfl] at ca
 simp only [cond_true] at ca
 repeat' ((conv => whnf); first
  | ((with_reducible apply spB_cong); (focus (simp only [splQ, Int.reduceBEq, Int.reduceBNe]; rfl)))
  | with_reducible first | refine spB_no (by decide) ?_
  | ((first | (with_reducible refine Z.callZ_mk ?_ (ca) ?_) | (with_reducible refine Z.callZ_mk ?_ (cat) ?_) | (with_reducible refine Z.callZ_mk ?_ (sortnil_con) ?_)); (focus ((repeat' (first | exact trivial | exact ⟨_, rfl, rfl, rfl⟩ | exact rfl | exact Z.low_nil | exact .inl rfl | apply And.intro)); done)))
  | fail)
 all_goals (try (conv => whnf))
 all_goals try first | (show Nat.ble _ _ = true; rfl) | (exfalso; rename_i hz; cases hz; done) | (exfalso; (try simp only [LN] at *) <;> omega)
 all_goals first
  | ((first | (with_reducible apply Z.retF2)); (focus rfl); (repeat' (first | exact trivial | (with_reducible apply Z.frz_one) | (with_reducible apply Z.frz_agg) | (with_reducible apply Z.fq_int) | (exact Z.frz_nil) | exact rfl | apply And.intro)); (all_goals (try exact (fun _ => none))); all_goals (first | (simp; done)))
  | fail
end Tab
end Go.Proofs.Ytopieffkpdlpbaa
namespace Go.Proofs.Ytopieffkpdlpbaa
open Go Go.RowKit Wx
set_option maxHeartbeats 4000000
namespace Tab
theorem join_both (a b : List Kc) (ha : tabR a = true) (hb : tabR b = true) (h0 : 0 < a.length + b.length) (hc : comm a b = true) : Con Try.prog 79 [.agg [.ro false 4 (a.map eK)], .agg [.ro false 4 (b.map eK)]] (fun rx rK rt => rx = .tup [.agg [.ro true 4 (([] : List Kc).map eK)], .one (.v (.int .i64 5))] ∧ rK = [] ∧ rt = 0) := by
 refine Z.con_ofF tabOk 32 Try.f79 _ Try.func79 (by kernel_rfl) rfl rfl rfl rfl ?_
 have hla := tab_len ha
 have hlb := tab_len hb
 have ca := check_con a (by omega)
 have cb := check_con b (by omega)
 rw [ha] at ca
 rw [hb] at cb
 simp only [cond_true] at ca cb
 have cat := concat_own a b (by omega) (by omega) h0
 repeat' ((conv => whnf); first
  | with_reducible first | refine spB_t ?_
  | ((with_reducible apply spB_cong); (focus (simp only [splQ, Int.reduceBEq, Int.reduceBNe]; rfl)))
  | with_reducible first | refine spB_no (by decide) ?_
  | ((refine sort_rule (a ++ b) rfl ?_ ?_ ?_ ?_); (focus (first | exact ren_map fun _ => rfl)); (focus (first | rfl)); (focus ((try simp only [LN] at *) <;> omega)); (intro zs hzp hzs; have hzl : zs.length = (a ++ b).length := hzp.length_eq; obtain ⟨hj, hj2⟩ := sort_join ha hb hzp hzs; rw [hc] at hj; have cz := check_con zs (by rw [hzp.length_eq, List.length_append]; omega); rw [hj] at cz; simp only [Bool.not_true, Bool.not_false, cond_true, cond_false] at cz))
  | ((first | (with_reducible refine Z.callZ_mk ?_ (cat) ?_)); (focus ((repeat' (first | exact trivial | exact ⟨_, rfl, rfl, rfl⟩ | apply And.intro)); done)))
  | ((first | (with_reducible refine Z.callZ_mk ?_ (ca) ?_)); (focus ((repeat' (first | exact trivial | exact rfl | apply And.intro)); done)))
  | ((first | (with_reducible refine Z.callZ_mk ?_ (cb) ?_)); (focus ((repeat' (first | exact trivial | exact rfl | apply And.intro)); done)))
  | ((first | (with_reducible refine Z.callZ_mk ?_ (cz) ?_)); (focus ((repeat' (first | exact trivial | (refine Z.low_osln ?_ (fun _ => rfl); (first | exact hzl.symm)) | apply And.intro)); done)))
  | fail)
 all_goals (try (conv => whnf))
 all_goals try first | (show Nat.ble _ _ = true; rfl) | (exfalso; rename_i hz; cases hz; done) | (exfalso; (try simp only [LN] at *) <;> omega)
 all_goals first
  | ((first | (with_reducible apply Z.retF2)); (focus rfl); (repeat' (first | exact trivial | (with_reducible apply Z.frz_one) | (with_reducible apply Z.frz_agg) | (with_reducible apply Z.fq_int) | (exact Z.frz_nil) | exact rfl | apply And.intro)); (all_goals (try exact (fun _ => none))); all_goals (first | (simp; done)))
  | fail
end Tab
end Go.Proofs.Ytopieffkpdlpbaa
namespace Go.Proofs.Ytopieffkpdlpbaa
open Go Go.RowKit Wx
set_option maxHeartbeats 4000000
namespace Tab
theorem join_ok (a b : List Kc) (ha : tabR a = true) (hb : tabR b = true) (h0 : 0 < a.length + b.length) (hc : comm a b = false) : Con Try.prog 79 [.agg [.ro false 4 (a.map eK)], .agg [.ro false 4 (b.map eK)]] (fun rx rK rt => rx = .tup [.agg [.ro true 4 ((mrg a b : List Kc).map eK)], .one (.v (.int .i64 0))] ∧ rK = [] ∧ rt = 0) := by
 refine Z.con_ofF tabOk 32 Try.f79 _ Try.func79 (by kernel_rfl) rfl rfl rfl rfl ?_
 have hla := tab_len ha
 have hlb := tab_len hb
 have ca := check_con a (by omega)
 have cb := check_con b (by omega)
 rw [ha] at ca
 rw [hb] at cb
 simp only [cond_true] at ca cb
 have cat := concat_own a b (by omega) (by omega) h0
 repeat' ((conv => whnf); first
  | ((with_reducible apply spB_cong); (focus (simp only [splQ, Int.reduceBEq, Int.reduceBNe]; rfl)))
  | with_reducible first | refine spB_no (by decide) ?_
  | ((refine sort_rule (a ++ b) rfl ?_ ?_ ?_ ?_); (focus (first | exact ren_map fun _ => rfl)); (focus (first | rfl)); (focus ((try simp only [LN] at *) <;> omega)); (intro zs hzp hzs; have hzl : zs.length = (a ++ b).length := hzp.length_eq; obtain ⟨hj, hj2⟩ := sort_join ha hb hzp hzs; rw [hc] at hj; obtain rfl := hj2 hc; have cz := check_con (mrg a b) (by rw [hzp.length_eq, List.length_append]; omega); rw [hj] at cz; simp only [Bool.not_true, Bool.not_false, cond_true, cond_false] at cz))
  | ((first | (with_reducible refine Z.callZ_mk ?_ (cat) ?_)); (focus ((repeat' (first | exact trivial | exact ⟨_, rfl, rfl, rfl⟩ | apply And.intro)); done)))
  | ((first | (with_reducible refine Z.callZ_mk ?_ (ca) ?_)); (focus ((repeat' (first | exact trivial | exact rfl | apply And.intro)); done)))
  | ((first | (with_reducible refine Z.callZ_mk ?_ (cb) ?_)); (focus ((repeat' (first | exact trivial | exact rfl | apply And.intro)); done)))
  | ((first | (with_reducible refine Z.callZ_mk ?_ (cz) ?_)); (focus ((repeat' (first | exact trivial | (refine Z.low_osln ?_ (fun _ => rfl); (first | exact hzl.symm)) | apply And.intro)); done)))
  | fail)
 all_goals (try (conv => whnf))
 all_goals try first | (show Nat.ble _ _ = true; rfl) | (exfalso; rename_i hz; cases hz; done) | (exfalso; (try simp only [LN] at *) <;> omega)
 all_goals first
  | ((first | (with_reducible apply Z.retF2)); (focus rfl); (repeat' (first | exact trivial | (refine Z.frz_oslw (l := mrg a b) (f := cK) (ty := 70) (bx := false) rfl ?_ ?_ (fun _ => rfl); (focus (first | exact hzl.symm)); (focus (first | exact List.take_of_length_le (by rw [List.length_map]; exact Nat.le_of_eq hzl)))) | (with_reducible apply Z.frz_one) | (with_reducible apply Z.frz_agg) | (with_reducible apply Z.fq_int) | exact rfl | apply And.intro)); (all_goals (try exact (fun _ => none))); all_goals (first | (simp; done)))
  | fail
end Tab
end Go.Proofs.Ytopieffkpdlpbaa
namespace Go.Proofs.Ytopieffkpdlpbaa
open Go Go.RowKit Wx
set_option maxHeartbeats 4000000
namespace Tab
end Tab
end Go.Proofs.Ytopieffkpdlpbaa
namespace Go.Proofs.Ytopieffkpdlpbaa
open Go Go.RowKit Wx
set_option maxHeartbeats 4000000
namespace Tab
theorem tpart_con (l : List Kc) (a w : Int) (hl : l.length ≤ 1000) : Con Try.prog 87 [.agg [.ro false 4 (l.map eK)], .one (.v (.int .i64 a)), .one (.v (.int .i64 w))] (fun rx rK rt => rx = .tup [.agg [.ro true 4 ((partT l a w).1.map eK)], .one (.v (.int .i64 (partT l a w).2))] ∧ rK = [] ∧ rt = 0) := by
 unfold partT
 cases ht : tabR l
 ·rw [if_pos rfl]; exact part_tab l a w hl ht
 ·rw [if_neg (by decide)]
  by_cases hs : okS a w
  ·rw [if_pos hs]; exact part_ok l a w hl ht hs
  ·rw [if_neg hs]; exact part_sh l a w hl ht hs
theorem tjoin_con (a b : List Kc) (hla : a.length ≤ 1000) (hlb : b.length ≤ 1000) : Con Try.prog 79 [.agg [.ro false 4 (a.map eK)], .agg [.ro false 4 (b.map eK)]] (fun rx rK rt => rx = .tup [.agg [.ro true 4 ((joinT a b).1.map eK)], .one (.v (.int .i64 (joinT a b).2))] ∧ rK = [] ∧ rt = 0) := by
 unfold joinT
 by_cases h : tabR a = false ∨ tabR b = false
 ·rw [if_pos h]; exact join_bad a b h hla hlb
 ·rw [if_neg h]
  have ha : tabR a = true := by cases hz : tabR a with
   | true => rfl
   | false => exact absurd (.inl hz) h
  have hb : tabR b = true := by cases hz : tabR b with
   | true => rfl
   | false => exact absurd (.inr hz) h
  by_cases h0 : 0 < a.length + b.length
  ·cases hc : comm a b
   ·rw [if_neg (by decide)]; exact join_ok a b ha hb h0 hc
   ·rw [if_pos rfl]; exact join_both a b ha hb h0 hc
  ·have e1 : a = [] := List.length_eq_zero_iff.1 (by omega)
   have e2 : b = [] := List.length_eq_zero_iff.1 (by omega)
   subst e1 e2
   exact join_nil
end Tab
end Go.Proofs.Ytopieffkpdlpbaa
namespace Go.Proofs.Ytopieffkpdlpbaa
open Go Go.RowKit Wx
set_option maxHeartbeats 4000000
namespace Tab
theorem kc_eq {x y : Kc} (h : (x.src == y.src && (x.key == y.key && (x.cnt == y.cnt && (x.sum == y.sum && true)))) = true) : x = y := by
 cases x; cases y; simp_all
theorem eqk_con (a b : List Kc) (hla : a.length ≤ 9223372036854775807)  : Con Try.prog 98 [.one (.ro false 4 (a.map eK)), .one (.ro false 4 (b.map eK))] (fun rx rK rt => rx = .val (.bool (decide (a = b))) ∧ rK = [] ∧ rt = 0) := by
 refine Z.con_ofF tabOk 26 Try.f98 _ Try.func98 (by kernel_rfl) rfl rfl rfl rfl ?_
 repeat' ((conv => whnf); first
  | (with_reducible refine spB_bne ?_ ?_ <;> intro _ <;> (try (exfalso; (first | (rename_i hz; with_reducible exact absurd rfl hz)))))
  | fail)
 all_goals (try (conv => whnf))
 all_goals try ((first | (with_reducible apply Z.retF1)); (focus rfl); (repeat' (first | exact trivial | (with_reducible apply Z.frz_one) | (with_reducible apply Z.fq_bool) | apply And.intro)); (all_goals (try exact (fun _ => none))); all_goals (exact bool_f (ne_len (by simp only [LN] at *; omega))))
 refine Z.loopK tabOk (fun zq : Nat => [(13, .val (.int .i64 (zq : Int)))]) (fun zq : Nat => ([] : Z.Kr)) (fun zq => zq ≤ a.length ∧ a.length = b.length ∧ a.take zq = b.take zq) (fun zq => a.length - zq) 0 0 [(0, _), (1, _), (12, _)] ⟨rfl, rfl, rfl, trivial⟩ [] trivial ?_ ?_ rfl rfl ⟨Nat.zero_le _, by simp only [LN] at *; omega, rfl⟩ ?_
 ·repeat' (first | exact trivial | apply And.intro | exact ⟨_, rfl, Z.Imp.refl _⟩)
 ·repeat' (first | exact trivial)
 rintro i HINV
 dsimp only at HINV ⊢
 obtain ⟨HI, HL, HT⟩ := HINV
 repeat' ((conv => whnf); first
  | with_reducible first | refine spB_not ?_
  | (with_reducible refine spB_dec ?_ ?_ <;> intro _ <;> (try (exfalso; (first | (rename_i hz; with_reducible exact absurd rfl hz)))))
  | (with_reducible refine spB_mk ?_ ?_ <;> intro _ <;> (try (exfalso; (first | (rename_i hz; with_reducible exact absurd rfl hz)))))
  | ((with_reducible apply ixN_litp); (focus rfl); (focus ((try simp only [LN] at *) <;> omega)))
  | with_reducible refine wr_i64 (by first | omega | (simp only [LN] at *; omega)) ?_
  | ((with_reducible refine rowN_map ?_ ?_); (focus ((try simp only [LN] at *) <;> omega)); intro x hx)
  | with_reducible first | refine Z.drawZ_rule tabOk mixOk ?_ | refine Z.apZ_mk (by kernel_rfl) ?_
  | fail)
 all_goals (try (conv => whnf))
 all_goals first
  | ((refine Z.rndK (i + 1) (fun s => []) rfl rfl rfl rfl ?_ ?_ ?_ ?_); (focus (repeat' (first | exact trivial | exact rfl | apply And.intro))); (focus (repeat' (first | exact trivial))); (focus (refine ⟨by simp only [LN] at *; omega, HL, eq_step HT (by assumption) (by assumption) ?_⟩; (first | exact kc_eq (by assumption)))); (try simp only [LN] at *); (try dsimp only); omega)
  | ((first | (with_reducible apply Z.retF1)); (focus rfl); (repeat' (first | exact trivial | (with_reducible apply Z.frz_one) | (with_reducible apply Z.fq_bool) | apply And.intro)); (all_goals (try exact (fun _ => none))); all_goals (first | exact bool_t (eq_end HL HT (by simp only [LN] at *; omega)) | (refine bool_f (ne_at (by assumption) (by assumption) ?_); intro e; subst e; first | contradiction | (simp_all; done))))
  | fail
theorem same_con (a b : List Kc) (hla : a.length ≤ 9223372036854775807) : Con Try.prog 62 [.agg [.ro false 4 (a.map eK)], .agg [.ro false 4 (b.map eK)]] (fun rx rK rt => rx = .val (.bool (decide (a = b))) ∧ rK = [] ∧ rt = 0) := by
 refine Z.con_ofF tabOk 10 Try.f62 _ Try.func62 (by kernel_rfl) rfl rfl rfl rfl ?_
 repeat' ((conv => whnf); first
  | ((first | (with_reducible apply Z.callZ_mk ?_ (eqk_con _ _ ?_) ?_)); (rotate_left 2); (focus ((repeat' (first | exact trivial | exact rfl | apply And.intro)); done)); (iterate 1 (focus (first | assumption))))
  | fail)
 all_goals (try (conv => whnf))
 all_goals try (show Nat.ble _ _ = true; rfl)
 all_goals first
  | ((first | (with_reducible apply Z.retF1)); (focus rfl); (repeat' (first | exact trivial | exact rfl | apply And.intro)); (all_goals (try exact (fun _ => none))); all_goals (rfl))
  | fail
end Tab
end Go.Proofs.Ytopieffkpdlpbaa
namespace Go.Proofs.Ytopieffkpdlpbaa
open Go Go.RowKit Wx
set_option maxHeartbeats 4000000
def snapR (x : Sn) : Bool := decide ((0 ≤ x.op ∧ x.op < 8) ∧ Tab.okS x.ix x.w) && (offR x.o0 x.o1 x.o2 x.o3 x.o4 x.o5 x.o6 x.o7 x.ix x.w && (namesR x.txs && (Tab.tabR x.rows && decide (Tab.partL x.rows x.ix x.w = x.rows))))
theorem maybe_con (x : Sn) (hr : x.rows.length ≤ 1000) (ht : x.txs.length ≤ 9223372036854775807) : Con Try.prog 48 [.agg [.v (.int .i64 x.op), .v (.int .i64 x.ix), .v (.int .i64 x.w), .v (.bool x.en), .ro false 4 (x.rows.map Tab.eK), .v (.int .i64 x.o0), .v (.int .i64 x.o1), .v (.int .i64 x.o2), .v (.int .i64 x.o3), .v (.int .i64 x.o4), .v (.int .i64 x.o5), .v (.int .i64 x.o6), .v (.int .i64 x.o7), .ro false 3 (x.txs.map eN)]] (fun rx rK rt => rx = .val (.bool (snapR x)) ∧ rK = [] ∧ rt = 0) := by
 refine Z.con_ofF tabOk 51 Try.f48 _ Try.func48 (by kernel_rfl) rfl rfl rfl rfl ?_
 unfold snapR
 by_cases ho : 0 ≤ x.op ∧ x.op < 8
 rotate_left
 ·rw [decide_eq_false (fun h => ho h.1), Bool.false_and]
  repeat' ((conv => whnf); first
   | with_reducible first | refine spB_t ?_
   | ((with_reducible apply spB_cong); (focus (simp only [splQ, Int.reduceBEq, Int.reduceBNe]; rfl)))
   | with_reducible first | refine spB_no (by decide) ?_ | refine spB_not ?_
   | (with_reducible refine spB_dec ?_ ?_ <;> intro _ <;> (try (exfalso; (first | omega))))
   | with_reducible first | refine Z.callZ_in tabOk 9 Try.f31 _ Try.func31 (by kernel_rfl) rfl rfl rfl ?_
   | ((with_reducible apply ex_and); exact rfl)
   | fail)
  all_goals (try (conv => whnf))
  all_goals try first | (show Nat.ble _ _ = true; rfl) | (exfalso; rename_i hz; cases hz; done) | (exfalso; (try simp only [LN] at *) <;> omega)
  all_goals first
   | ((first | (with_reducible apply Z.retF1)); (focus rfl); (repeat' (first | exact trivial | (with_reducible apply Z.frz_one) | (with_reducible apply Z.fq_bool) | exact rfl | apply And.intro)); (all_goals (try exact (fun _ => none))); all_goals (first | (simp; done)))
   | fail
 by_cases hs : Tab.okS x.ix x.w
 rotate_left
 ·have cow := Tab.owned_bad x.ix x.w hs
  rw [decide_eq_false (fun h => hs h.2), Bool.false_and]
  repeat' ((conv => whnf); first
   | with_reducible first | refine spB_t ?_
   | ((with_reducible apply spB_cong); (focus (simp only [splQ, Int.reduceBEq, Int.reduceBNe]; rfl)))
   | with_reducible first | refine spB_no (by decide) ?_ | refine spB_not ?_
   | (with_reducible refine spB_dec ?_ ?_ <;> intro _ <;> (try (exfalso; (first | omega))))
   | with_reducible first | refine Z.callZ_in tabOk 9 Try.f31 _ Try.func31 (by kernel_rfl) rfl rfl rfl ?_ | refine Z.callZ_in tabOk 15 Try.f32 _ Try.func32 (by kernel_rfl) rfl rfl rfl ?_
   | ((first | (with_reducible refine Z.callZ_mk ?_ (cow) ?_)); (focus ((repeat' (first | exact trivial | exact rfl | apply And.intro)); done)))
   | ((with_reducible apply ex_and); exact rfl)
   | fail)
  all_goals (try (conv => whnf))
  all_goals try first | (show Nat.ble _ _ = true; rfl) | (exfalso; rename_i hz; cases hz; done) | (exfalso; (try simp only [LN] at *) <;> omega)
  all_goals first
   | ((first | (with_reducible apply Z.retF1)); (focus rfl); (repeat' (first | exact trivial | (with_reducible apply Z.frz_one) | (with_reducible apply Z.fq_bool) | exact rfl | apply And.intro)); (all_goals (try exact (fun _ => none))); all_goals (first | (simp; done)))
   | fail
 obtain ⟨L, cow⟩ := Tab.owned_ok x.ix x.w hs
 rw [decide_eq_true ⟨ho, hs⟩, Bool.true_and]
 have cof := areoff_con x.o0 x.o1 x.o2 x.o3 x.o4 x.o5 x.o6 x.o7 x.ix x.w hs
 cases hof : offR x.o0 x.o1 x.o2 x.o3 x.o4 x.o5 x.o6 x.o7 x.ix x.w
 all_goals rw [hof] at cof
 ·rw [Bool.false_and]
  repeat' ((conv => whnf); first
   | with_reducible first | refine spB_t ?_
   | ((with_reducible apply spB_cong); (focus (simp only [splQ, Int.reduceBEq, Int.reduceBNe]; rfl)))
   | with_reducible first | refine spB_no (by decide) ?_ | refine spB_not ?_
   | (with_reducible refine spB_dec ?_ ?_ <;> intro _ <;> (try (exfalso; (first | omega))))
   | with_reducible first | refine Z.callZ_in tabOk 9 Try.f31 _ Try.func31 (by kernel_rfl) rfl rfl rfl ?_ | refine Z.callZ_in tabOk 15 Try.f32 _ Try.func32 (by kernel_rfl) rfl rfl rfl ?_
   | ((first | (with_reducible refine Z.callZ_mk ?_ (cof) ?_) | (with_reducible refine Z.callZ_mk ?_ (cow) ?_)); (focus ((repeat' (first | exact trivial | exact rfl | apply And.intro)); done)))
   | ((with_reducible apply ex_and); exact rfl)
   | fail)
  all_goals (try (conv => whnf))
  all_goals try first | (show Nat.ble _ _ = true; rfl) | (exfalso; rename_i hz; cases hz; done) | (exfalso; (try simp only [LN] at *) <;> omega)
  all_goals first
   | ((first | (with_reducible apply Z.retF1)); (focus rfl); (repeat' (first | exact trivial | (with_reducible apply Z.frz_one) | (with_reducible apply Z.fq_bool) | exact rfl | apply And.intro)); (all_goals (try exact (fun _ => none))); all_goals (first | (simp; done)))
   | fail
 rw [Bool.true_and]
 have cnm := namesok_con x.txs ht
 cases hnm : namesR x.txs
 all_goals rw [hnm] at cnm
 ·rw [Bool.false_and]
  repeat' ((conv => whnf); first
   | with_reducible first | refine spB_t ?_
   | ((with_reducible apply spB_cong); (focus (simp only [splQ, Int.reduceBEq, Int.reduceBNe]; rfl)))
   | with_reducible first | refine spB_no (by decide) ?_ | refine spB_not ?_
   | (with_reducible refine spB_dec ?_ ?_ <;> intro _ <;> (try (exfalso; (first | omega))))
   | with_reducible first | refine Z.callZ_in tabOk 9 Try.f31 _ Try.func31 (by kernel_rfl) rfl rfl rfl ?_ | refine Z.callZ_in tabOk 15 Try.f32 _ Try.func32 (by kernel_rfl) rfl rfl rfl ?_
   | ((first | (with_reducible refine Z.callZ_mk ?_ (cnm) ?_) | (with_reducible refine Z.callZ_mk ?_ (cof) ?_) | (with_reducible refine Z.callZ_mk ?_ (cow) ?_)); (focus ((repeat' (first | exact trivial | exact rfl | apply And.intro)); done)))
   | ((with_reducible apply ex_and); exact rfl)
   | fail)
  all_goals (try (conv => whnf))
  all_goals try first | (show Nat.ble _ _ = true; rfl) | (exfalso; rename_i hz; cases hz; done) | (exfalso; (try simp only [LN] at *) <;> omega)
  all_goals first
   | ((first | (with_reducible apply Z.retF1)); (focus rfl); (repeat' (first | exact trivial | (with_reducible apply Z.frz_one) | (with_reducible apply Z.fq_bool) | exact rfl | apply And.intro)); (all_goals (try exact (fun _ => none))); all_goals (first | (simp; done)))
   | fail
 rw [Bool.true_and]
 have cpa := Tab.tpart_con x.rows x.ix x.w hr
 unfold Tab.partT at cpa
 cases htb : Tab.tabR x.rows
 all_goals rw [htb] at cpa
 ·rw [if_pos rfl] at cpa
  rw [Bool.false_and]
  repeat' ((conv => whnf); first
   | with_reducible first | refine spB_t ?_
   | ((with_reducible apply spB_cong); (focus (simp only [splQ, Int.reduceBEq, Int.reduceBNe]; rfl)))
   | with_reducible first | refine spB_no (by decide) ?_ | refine spB_not ?_
   | (with_reducible refine spB_dec ?_ ?_ <;> intro _ <;> (try (exfalso; (first | omega))))
   | with_reducible first | refine Z.callZ_in tabOk 9 Try.f31 _ Try.func31 (by kernel_rfl) rfl rfl rfl ?_ | refine Z.callZ_in tabOk 15 Try.f32 _ Try.func32 (by kernel_rfl) rfl rfl rfl ?_
   | ((first | (with_reducible refine Z.callZ_mk ?_ (cnm) ?_) | (with_reducible refine Z.callZ_mk ?_ (cof) ?_) | (with_reducible refine Z.callZ_mk ?_ (cpa) ?_) | (with_reducible refine Z.callZ_mk ?_ (cow) ?_)); (focus ((repeat' (first | exact trivial | exact rfl | apply And.intro)); done)))
   | ((with_reducible apply ex_and); exact rfl)
   | fail)
  all_goals (try (conv => whnf))
  all_goals try first | (show Nat.ble _ _ = true; rfl) | (exfalso; rename_i hz; cases hz; done) | (exfalso; (try simp only [LN] at *) <;> omega)
  all_goals first
   | ((first | (with_reducible apply Z.retF1)); (focus rfl); (repeat' (first | exact trivial | (with_reducible apply Z.frz_one) | (with_reducible apply Z.fq_bool) | exact rfl | apply And.intro)); (all_goals (try exact (fun _ => none))); all_goals (first | (simp; done)))
   | fail
 rw [if_neg (by decide), if_pos hs] at cpa
 dsimp only at cpa
 rw [Bool.true_and]
 have hpl := @Tab.part_len x.rows x.ix x.w
 have cs := Tab.same_con (Tab.partL x.rows x.ix x.w) x.rows (by omega)
 generalize Tab.partL x.rows x.ix x.w = Q at *
 generalize decide (Q = x.rows) = B at *
 repeat' ((conv => whnf); first
  | with_reducible first | refine spB_t ?_
  | ((with_reducible apply spB_cong); (focus (simp only [splQ, Int.reduceBEq, Int.reduceBNe]; rfl)))
  | with_reducible first | refine spB_no (by decide) ?_ | refine spB_not ?_
  | (with_reducible refine spB_dec ?_ ?_ <;> intro _ <;> (try (exfalso; (first | omega))))
  | with_reducible first | refine Z.callZ_in tabOk 9 Try.f31 _ Try.func31 (by kernel_rfl) rfl rfl rfl ?_ | refine Z.callZ_in tabOk 15 Try.f32 _ Try.func32 (by kernel_rfl) rfl rfl rfl ?_
  | ((first | (with_reducible refine Z.callZ_mk ?_ (cnm) ?_) | (with_reducible refine Z.callZ_mk ?_ (cs) ?_) | (with_reducible refine Z.callZ_mk ?_ (cof) ?_) | (with_reducible refine Z.callZ_mk ?_ (cpa) ?_) | (with_reducible refine Z.callZ_mk ?_ (cow) ?_)); (focus ((repeat' (first | exact trivial | exact rfl | apply And.intro)); done)))
  | ((with_reducible apply ex_and); exact rfl)
  | fail)
 all_goals (try (conv => whnf))
 all_goals try first | (show Nat.ble _ _ = true; rfl) | (exfalso; rename_i hz; cases hz; done) | (exfalso; (try simp only [LN] at *) <;> omega)
 all_goals first
  | ((first | (with_reducible apply Z.retF1)); (focus rfl); (repeat' (first | exact trivial | exact rfl | apply And.intro)); (all_goals (try exact (fun _ => none))); all_goals (first | (simp; done)))
  | fail
theorem scheck_con (x : Sn) (hr : x.rows.length ≤ 1000) (ht : x.txs.length ≤ 9223372036854775807) : Con Try.prog 40 [.agg [.v (.int .i64 x.op), .v (.int .i64 x.ix), .v (.int .i64 x.w), .v (.bool x.en), .ro false 4 (x.rows.map Tab.eK), .v (.int .i64 x.o0), .v (.int .i64 x.o1), .v (.int .i64 x.o2), .v (.int .i64 x.o3), .v (.int .i64 x.o4), .v (.int .i64 x.o5), .v (.int .i64 x.o6), .v (.int .i64 x.o7), .ro false 3 (x.txs.map eN)]] (fun rx rK rt => rx = .val (.int .i64 (bif snapR x then 0 else 280)) ∧ rK = [] ∧ rt = 0) := by
 refine Z.con_ofF tabOk 6 Try.f40 _ Try.func40 (by kernel_rfl) rfl rfl rfl rfl ?_
 have cm := maybe_con x hr ht
 cases hz : snapR x
 all_goals rw [hz] at cm
 all_goals try simp only [cond_true, cond_false]
 ·skip
  repeat' ((conv => whnf); first
   | with_reducible first | refine spB_t ?_
   | ((with_reducible apply spB_cong); (focus (simp only [splQ, Int.reduceBEq, Int.reduceBNe]; rfl)))
   | ((first | (with_reducible refine Z.callZ_mk ?_ (cm) ?_)); (focus ((repeat' (first | exact trivial | exact rfl | apply And.intro)); done)))
   | fail)
  all_goals (try (conv => whnf))
  all_goals try first | (show Nat.ble _ _ = true; rfl) | (exfalso; rename_i hz; cases hz; done) | (exfalso; (try simp only [LN] at *) <;> omega)
  all_goals first
   | ((first | (with_reducible apply Z.retF1)); (focus rfl); (repeat' (first | exact trivial | (with_reducible apply Z.frz_one) | (with_reducible apply Z.fq_int) | exact rfl | apply And.intro)); (all_goals (try exact (fun _ => none))); all_goals (first | (simp; done)))
   | fail
 ·skip
  repeat' ((conv => whnf); first
   | ((with_reducible apply spB_cong); (focus (simp only [splQ, Int.reduceBEq, Int.reduceBNe]; rfl)))
   | with_reducible first | refine spB_no (by decide) ?_
   | ((first | (with_reducible refine Z.callZ_mk ?_ (cm) ?_)); (focus ((repeat' (first | exact trivial | exact rfl | apply And.intro)); done)))
   | fail)
  all_goals (try (conv => whnf))
  all_goals try first | (show Nat.ble _ _ = true; rfl) | (exfalso; rename_i hz; cases hz; done) | (exfalso; (try simp only [LN] at *) <;> omega)
  all_goals first
   | ((first | (with_reducible apply Z.retF1)); (focus rfl); (repeat' (first | exact trivial | (with_reducible apply Z.frz_one) | (with_reducible apply Z.fq_int) | exact rfl | apply And.intro)); (all_goals (try exact (fun _ => none))); all_goals (first | (simp; done)))
   | fail
end Go.Proofs.Ytopieffkpdlpbaa
namespace Go.Proofs.Ytopieffkpdlpbaa
open Go Go.RowKit Wx
set_option maxHeartbeats 4000000
def zeroS : Sn := ⟨0, 0, 0, false, [], 0, 0, 0, 0, 0, 0, 0, 0, []⟩
end Go.Proofs.Ytopieffkpdlpbaa
namespace Go.Proofs.Ytopieffkpdlpbaa
open Go Go.RowKit Wx
set_option maxHeartbeats 4000000
namespace Tab
theorem loopZ_unr1 {P : Program} {T : Tab} {n m : Nat} {rd : Option Nat} {s : Z.S} {c : Code} {Q : Exit → Z.S → Prop} (hT : TabOk P T) (hs : Wx.get s.F 5 = some (.val (.int .i64 1))) (h : Z.loopU P T n m rd c Q 2 s) : Z.LoopZ P n m rd c s Q := Z.loopZ_unroll hT 2 h
theorem wr_shl8 {x : Int} {A : Int → Prop} (h : 0 ≤ x ∧ x < 72057594037927936) (k : A (x * 256)) : wr .u64 (x * 2 ^ (min (Int.toNat 8) IntKind.u64.bits)) A := ⟨x * 256, by
 show IntKind.u64.wrap (x * 2 ^ 8) = _
 rw [u64_in _ (by omega)]; omega, k⟩
theorem or_add {x b : Int} (h : 0 ≤ x ∧ x < 72057594037927936) (hb : 0 ≤ b ∧ b ≤ 255) : IntKind.u64.wrap ((BitVec.ofInt IntKind.u64.bits (x * 256) ||| BitVec.ofInt IntKind.u64.bits b).toNat : Int) = x * 256 + b := by
 have e := or256 h hb
 rw [u64_in (x * 2 ^ 8) (by omega), u64_in b (by omega), show x * 2 ^ 8 = x * 256 by omega] at e
 exact e
theorem wr_or0 {b : Int} {A : Int → Prop} (hb : 0 ≤ b ∧ b ≤ 255) (k : A b) : wr .u8 (IntKind.u64.wrap ((BitVec.ofInt IntKind.u64.bits (0 * 256) ||| BitVec.ofInt IntKind.u64.bits b).toNat : Int)) A := ⟨b, by
 rw [or_add (by decide) hb, u8_mod]; omega, k⟩
theorem copy_rows {l : List Int} {m k n : Nat} {z : List Ce} {fl : Bool} (hm : m = l.length) (hk : l.length ≤ k) (hn : n = l.length) : (lay (List.replicate m z) 0 (List.take k ((l.map eB).map (List.map (RT.ce fl))))).take n = l.map cB := by
 subst hn
 rw [Z.lay_copy hm hk (fun _ => rfl)]
 exact List.take_of_length_le (by simp)
theorem tk_map {r : List Int} : List.take r.length (List.map eB r) = List.map eB r := List.take_of_length_le (by simp)
theorem loopQ3 {P : Program} {n m : Nat} {rd : Option Nat} {s : Z.S} {c : Code} {Q : Exit → Z.S → Prop} {s9 : Z.S} (h : ∀ Q0 : Exit → Z.S → Prop, Q0 (.exit 0) s9 → Z.LoopZ P n m rd c s Q0) (k : Q (.exit 0) s9) : Z.LoopZ P n m rd c s Q := h Q k
theorem copied_con (l : List Int) (hl : l.length ≤ 1099511627776) : Con Try.prog 93 [.one (.ro false 1 (l.map eB))] (fun rx rK rt => rx = .c (.ro true 1 (l.map eB)) ∧ rK = [] ∧ rt = 0) := by
 refine Z.con_ofF tabOk 11 Try.f93 _ Try.func93 (by kernel_rfl) rfl rfl rfl rfl ?_
 repeat' ((conv => whnf); first
  | with_reducible first | refine spB_t ?_
  | ((with_reducible apply spB_cong); (focus (simp only [splQ, Int.reduceBEq, Int.reduceBNe]; rfl)))
  | with_reducible first | refine spB_yes (by decide) ?_ | refine spB_no (by decide) ?_ | refine spB_f ?_ | refine spB_not ?_ | refine spB_yes (by assumption) ?_ | refine spB_no (by assumption) ?_
  | (with_reducible refine spB_dec ?_ ?_ <;> intro _ <;> (try (exfalso; first | contradiction | omega | (rename_i hz; refine hz ?_; simp; done) | (rename_i hz; simp at hz; done) | (simp only [LN] at *; omega))))
  | (with_reducible refine spB_beq ?_ ?_ <;> intro _ <;> (try (exfalso; first | contradiction | omega | (rename_i hz; refine hz ?_; simp; done) | (rename_i hz; simp at hz; done) | (simp only [LN] at *; omega))))
  | (with_reducible refine spB_bne ?_ ?_ <;> intro _ <;> (try (exfalso; first | contradiction | omega | (rename_i hz; refine hz ?_; simp; done) | (rename_i hz; simp at hz; done) | (simp only [LN] at *; omega))))
  | (with_reducible refine spB_mk ?_ ?_ <;> intro _ <;> (try (exfalso; first | contradiction | omega | (rename_i hz; refine hz ?_; simp; done) | (rename_i hz; simp at hz; done) | (simp only [LN] at *; omega))))
  | ((with_reducible apply rowN_mk); (focus rfl))
  | ((with_reducible apply ixN_lit); (focus rfl); (focus rfl))
  | ((with_reducible apply ixN_litp); (focus rfl); (focus ((try simp only [LN] at *) <;> omega)))
  | ((with_reducible refine eqN_mk2 ?_ ?_); (focus rfl))
  | ((with_reducible refine cpyN.mk ?_ ?_ ?_ ?_); (focus (first | rfl | (simp; done))); (focus (first | exact one_all (by rfl) | exact one_map (fun _ => rfl) | exact one_map2 (fun _ => rfl))); (focus ((try simp only [LN] at *) <;> omega)))
  | with_reducible refine wr_i64 (by first | omega | (simp only [LN] at *; omega)) ?_
  | with_reducible refine wr_u64 (by omega) ?_
  | with_reducible first | refine wr_mk _ rfl ?_
  | ((with_reducible refine ixN_nat ?_ ?_); (focus ((try simp only [LN] at *) <;> omega)))
  | ((with_reducible refine rowN_map ?_ ?_); (focus ((try simp only [LN] at *) <;> omega)); intro x hx)
  | with_reducible refine eqN_dec (by omega) ?_
  | with_reducible first | refine apN_mk (by kernel_rfl) ?_
  | ((with_reducible refine eqN_mk2 ?_ ?_); (focus (exact Z.kb_some rfl)))
  | ((with_reducible apply ex_and); exact rfl)
  | ((with_reducible refine Z.mkN_nat ?_ ?_ ?_ ?_); (focus ((try simp only [LN] at *) <;> omega)); (focus ((try simp only [LN] at *) <;> omega)); (focus ((try simp only [LN] at *) <;> omega))))
 all_goals (try (conv => whnf))
 all_goals try first | (show Nat.ble _ _ = true; rfl) | (exfalso; rename_i hz; cases hz; done) | (exfalso; (try simp only [LN] at *) <;> omega)
 all_goals first
  | ((first | (with_reducible apply Z.retF1) | (with_reducible apply Z.retF2) | (with_reducible apply Z.retF0)); (focus rfl); (repeat' (first | exact trivial | (refine Z.frz_oslw (l := l) (f := cB) (ty := 5) (bx := false) rfl ?_ ?_ (fun _ => rfl); (focus (simp; done)); exact copy_rows (by simp) (by simp) (by simp)) | (with_reducible apply Z.frz_one) | (with_reducible apply Z.frz_agg) | (with_reducible apply Z.fq_int) | (with_reducible apply Z.fq_bool) | (exact Z.frz_nil) | (exact Z.frz_osl0 rfl rfl rfl) | (with_reducible apply Z.fq_nil) | (with_reducible apply Z.fq_ro) | ((with_reducible apply Z.fq_gsl); (focus (first | rfl | exact Z.isB_map _ | exact Z.gB_snoc.symm)); (focus (exact fun _ => rfl))) | ((with_reducible apply Z.fq_osl); (focus rfl); (focus (first | exact rfl | (simp only [List.length_map, Nat.zero_add]; done) | ((try simp only [LN] at *) <;> omega))); (focus (exact fun _ => rfl))) | ((with_reducible apply Z.fq_src); (focus rfl); (focus (first | exact rfl | (simp only [List.length_map, Nat.zero_add]; done) | ((try simp only [LN] at *) <;> omega))); (focus (exact fun _ => rfl))) | exact rfl | ((apply Z.fq_osl); (focus rfl); (focus (first | exact rfl | (simp only [List.length_map, Nat.zero_add]; done) | ((try simp only [LN] at *) <;> omega))); (focus (exact fun _ => rfl))) | ((apply Z.fq_src); (focus rfl); (focus (first | exact rfl | (simp only [List.length_map, Nat.zero_add]; done) | ((try simp only [LN] at *) <;> omega))); (focus (exact fun _ => rfl))) | (apply Z.fq_ro) | (apply Z.fq_int) | (apply Z.fq_bool) | apply And.intro)); (all_goals (try exact (fun _ => none))); all_goals (first | rfl | (simp; done)))
  | (exfalso; rename_i hz; cases hz; done)
  | (exfalso; (try simp only [LN] at *) <;> omega)
  | (fail)
end Tab
end Go.Proofs.Ytopieffkpdlpbaa
namespace Go.Proofs.Ytopieffkpdlpbaa
open Go Go.RowKit Wx
set_option maxHeartbeats 4000000
namespace Tab
theorem encT_isB {l : List Kc} (h : tabR l = true) : isB (encT l) := by
 intro x hx
 unfold encT at hx
 rcases List.mem_append.1 hx with hx | hx
 ·exact be_isB x hx
 ·obtain ⟨o, hm, hx⟩ := List.mem_flatMap.1 hx
  have hk := keyOk_iff.1 (okT_all h o hm).1
  unfold encK at hx
  simp only [List.mem_append, List.mem_cons, List.not_mem_nil, or_false] at hx
  rcases hx with (rfl | rfl) | hx | hx
  ·omega
  ·omega
  ·exact be_isB x hx
  ·exact be_isB x hx
end Tab
open Tab
theorem num4_le {l : List Int} (hB : isB l) (hl : l.length ≤ 4) : 0 ≤ numR l ∧ numR l ≤ 4294967295 := by
 have h := numR_lt (n := l.length) rfl hB
 have h2 : (256 : Int) ^ l.length ≤ 256 ^ 4 := by
  have : ∀ j : Fin 5, (256 : Int) ^ j.1 ≤ 256 ^ 4 := by decide
  exact this ⟨l.length, by omega⟩
 have h3 : (256 : Int) ^ 4 = 4294967296 := by decide
 omega
def encN (x : Nm) : List Int := x.s :: (be 4 x.a ++ be 4 x.n)
def encS (x : Sn) : List Int := x.op :: x.ix :: x.w :: (bif x.en then 1 else 0) :: (encT x.rows ++ (x.o0 :: x.o1 :: x.o2 :: x.o3 :: x.o4 :: x.o5 :: x.o6 :: x.o7 :: (x.txs.length : Int) :: x.txs.flatMap encN))
def encSR (x : Sn) : List Int × Int := if snapR x = true then (encS x, 0) else ([], 280)
theorem encN_len (x : Nm) : (encN x).length = 9 := by unfold encN; simp [be_len]
theorem encNs_len : ∀ l : List Nm, (l.flatMap encN).length = 9 * l.length
 | [] => rfl
 | x :: l => by rw [List.flatMap_cons, List.length_append, encN_len, encNs_len l, List.length_cons]; omega
theorem encNs_snoc {l : List Nm} {k : Nat} {x : Nm} (h : l[k]? = some x) : (l.take (k + 1)).flatMap encN = (l.take k).flatMap encN ++ encN x := by rw [take_snoc h, List.flatMap_append]; simp
theorem encS_len (x : Sn) : (encS x).length = 15 + 18 * x.rows.length + 9 * x.txs.length := by
 unfold encS
 simp only [List.length_cons, List.length_append, encT_len, encNs_len]
 omega
def nmD (b : List Int) : Nm := ⟨(b.take 1).headD 0, numR ((b.drop 1).take 4), numR ((b.drop 5).take 4)⟩
def decN : Nat → List Int → List Nm × Int × List Int
 | 0, b => ([], 0, b)
 | n + 1, b => if b.length < 9 then ([], 7, []) else if (decN n (b.drop 9)).2.1 = 0 then (nmD b :: (decN n (b.drop 9)).1, 0, (decN n (b.drop 9)).2.2) else ([], 7, [])
def okN (x : Nm) : Prop := (0 ≤ x.s ∧ x.s ≤ 255) ∧ (0 ≤ x.a ∧ x.a ≤ 4294967295) ∧ (0 ≤ x.n ∧ x.n ≤ 4294967295)
theorem p44 : (256 : Int) ^ 4 = 4294967296 := by decide
theorem nmD_enc {x : Nm} (h : okN x) (T : List Int) : nmD (encN x ++ T) = x := by
 obtain ⟨h1, h2, h3⟩ := h
 unfold encN
 have l1 : (be 4 x.a).length = 4 := be_len
 have l2 : (be 4 x.n).length = 4 := be_len
 have n1 : numR (be 4 x.a) = x.a := numR_be (by omega) (by rw [p44]; omega)
 have n2 : numR (be 4 x.n) = x.n := numR_be (by omega) (by rw [p44]; omega)
 generalize be 4 x.a = A at *
 generalize be 4 x.n = B at *
 have e : (x.s :: (A ++ B)) ++ T = x.s :: (A ++ (B ++ T)) := by simp
 rw [e]
 unfold nmD
 have e1 : ((x.s :: (A ++ (B ++ T))).drop 1).take 4 = A := List.take_left' l1
 have e2 : ((x.s :: (A ++ (B ++ T))).drop 5).take 4 = B := by
  show ((A ++ (B ++ T)).drop 4).take 4 = B
  rw [List.drop_left' l1, List.take_left' l2]
 rw [e1, e2, n1, n2]
 rfl
theorem decN_enc : ∀ {L : List Nm}, (∀ x ∈ L, okN x) → ∀ T : List Int, decN L.length (L.flatMap encN ++ T) = (L, 0, T)
 | [], _, T => rfl
 | x :: L, h, T => by
  have hd : (encN x ++ (L.flatMap encN ++ T)).drop 9 = L.flatMap encN ++ T := List.drop_left' (encN_len x)
  rw [List.flatMap_cons, List.append_assoc, List.length_cons, decN, if_neg (by rw [List.length_append, encN_len]; omega), hd, decN_enc (fun p hp => h p (by simp [hp])) T, nmD_enc (h x (by simp))]
  rfl
theorem decN_err : ∀ (n : Nat) (b : List Int), (decN n b).2.1 = if b.length < 9 * n then 7 else 0
 | 0, b => by simp [decN]
 | n + 1, b => by
  rw [decN]
  by_cases h : b.length < 9
  ·rw [if_pos h, if_pos (by omega)]
  ·rw [if_neg h, decN_err n, List.length_drop]
   by_cases h2 : b.length - 9 < 9 * n
   ·rw [if_pos h2, if_neg (by decide), if_pos (by omega)]
   ·rw [if_neg h2, if_pos rfl, if_neg (by omega)]
theorem num4 {l : List Int} (hl : l.length = 4) (hB : isB l) : be 4 (numR l) = l := be_numR hl hB
theorem ap4 {r : List Int} : r = r.take 4 ++ ((r.drop 4).take 4 ++ r.drop 8) := by
 conv => lhs; rw [← List.take_append_drop 4 r, ← List.take_append_drop 4 (r.drop 4), List.drop_drop]
theorem nmD_inv {b : List Int} (hB : isB b) (hl : 9 ≤ b.length) : b = encN (nmD b) ++ b.drop 9 ∧ okN (nmD b) := by
 match b, hl with
 | t :: r, hl =>
  have ht := hB t (by simp)
  have hBr : isB r := fun x hx => hB x (by simp [hx])
  simp only [List.length_cons] at hl
  have e : nmD (t :: r) = ⟨t, numR (r.take 4), numR ((r.drop 4).take 4)⟩ := rfl
  have r1 := num4_le (isB_take (n := 4) hBr) (by rw [List.length_take]; omega)
  have r2 := num4_le (isB_take (n := 4) (isB_drop (n := 4) hBr)) (by rw [List.length_take]; omega)
  refine ⟨?_, by rw [e]; exact ⟨ht, r1, r2⟩⟩
  rw [e]
  unfold encN
  simp only
  rw [num4 (by rw [List.length_take]; omega) (isB_take hBr), num4 (by rw [List.length_take, List.length_drop]; omega) (isB_take (isB_drop hBr))]
  show t :: r = (t :: (r.take 4 ++ (r.drop 4).take 4)) ++ r.drop 8
  conv => lhs; rw [@ap4 r]
  simp
theorem decN_inv : ∀ {n : Nat} {b : List Int} {L : List Nm} {r : List Int}, isB b → decN n b = (L, 0, r) → b = L.flatMap encN ++ r ∧ L.length = n ∧ ∀ x ∈ L, okN x
 | 0, b, L, r, _, h => by
  simp only [decN, Prod.mk.injEq, true_and] at h
  obtain ⟨rfl, rfl⟩ := h
  exact ⟨rfl, rfl, fun x hx => nomatch hx⟩
 | n + 1, b, L, r, hB, h => by
  rw [decN] at h
  split at h
  ·simp at h
  ·rename_i hl
   split at h
   ·rename_i h2
    simp only [Prod.mk.injEq, true_and] at h
    obtain ⟨rfl, rfl⟩ := h
    obtain ⟨e1, e2⟩ := nmD_inv hB (by omega)
    obtain ⟨i1, i2, i3⟩ := decN_inv (isB_drop (n := 9) hB) (L := (decN n (b.drop 9)).1) (r := (decN n (b.drop 9)).2.2) (by rw [← h2])
    refine ⟨?_, by rw [List.length_cons, i2], fun x hx => ?_⟩
    ·rw [List.flatMap_cons, List.append_assoc, ← i1]
     exact e1
    ·rcases List.mem_cons.1 hx with rfl | hx
     ·exact e2
     ·exact i3 x hx
   ·simp at h
theorem decN_rest : ∀ {n : Nat} {b : List Int}, (decN n b).2.1 = 0 → (decN n b).2.2 = b.drop (9 * n)
 | 0, b, _ => by simp [decN]
 | n + 1, b, h => by
  rw [decN] at h ⊢
  split at h
  ·simp at h
  ·rename_i hl
   split at h
   ·rename_i h2
    rw [if_neg hl, if_pos h2, decN_rest h2, List.drop_drop, show 9 + 9 * n = 9 * (n + 1) by omega]
   ·simp at h
def eS (b : List Int) : Nat := 6 + 18 * (numR ((b.drop 4).take 2)).toNat
def mS (b : List Int) : Nat := (b.getD (eS b + 8) 0).toNat
def snD (b : List Int) : Sn := ⟨b.getD 0 0, b.getD 1 0, b.getD 2 0, decide (b.getD 3 0 = 1), (decT ((b.drop 4).take (eS b - 4))).1, b.getD (eS b) 0, b.getD (eS b + 1) 0, b.getD (eS b + 2) 0, b.getD (eS b + 3) 0, b.getD (eS b + 4) 0, b.getD (eS b + 5) 0, b.getD (eS b + 6) 0, b.getD (eS b + 7) 0, (decN (mS b) (b.drop (eS b + 9))).1⟩
def shS (b : List Int) : Prop := b.length < 6 ∨ b.length < eS b + 9 ∨ b.length < eS b + 9 + 9 * mS b
instance (b : List Int) : Decidable (shS b) := by unfold shS; infer_instance
def okB (b : List Int) : Prop := ((decT ((b.drop 4).take (eS b - 4))).2 = 0 ∧ b.getD 3 0 ≤ 1) ∧ b.length = eS b + 9 + 9 * mS b ∧ snapR (snD b) = true
instance (b : List Int) : Decidable (okB b) := by unfold okB; infer_instance
def decS (b : List Int) : Sn × Int := if shS b then (zeroS, 7) else if okB b then (snD b, 0) else (zeroS, 280)
theorem drp_cons {α : Type} {A : List α} {x : α} {B : List α} {k : Nat} (h : A.length = k) (d : α) : (A ++ x :: B).getD k d = x := by
 subst h; simp [List.getD_eq_getElem?_getD]
theorem decS_parts {t0 t1 t2 t3 p0 p1 p2 p3 p4 p5 p6 p7 m : Int} {R1 R3 b : List Int} {N : Nat} (hb : b = t0 :: t1 :: t2 :: t3 :: (R1 ++ (p0 :: p1 :: p2 :: p3 :: p4 :: p5 :: p6 :: p7 :: m :: R3))) (hN : numR (R1.take 2) = (N : Int)) (h1 : R1.length = 2 + 18 * N) : eS b = 6 + 18 * N ∧ mS b = m.toNat ∧ b.length = 15 + 18 * N + R3.length ∧ (b.drop 4).take (eS b - 4) = R1 ∧ b.drop (eS b + 9) = R3 ∧ snD b = ⟨t0, t1, t2, decide (t3 = 1), (decT R1).1, p0, p1, p2, p3, p4, p5, p6, p7, (decN m.toNat R3).1⟩ := by
 have e1 : (b.drop 4).take 2 = R1.take 2 := by
  rw [hb]; show (R1 ++ _).take 2 = _
  rw [List.take_append_of_le_length (by omega)]
 have hE : eS b = 6 + 18 * N := by unfold eS; rw [e1, hN, Int.toNat_natCast]
 have hg : ∀ (A : List Int) (x : Int) (B : List Int), R1 ++ (p0 :: p1 :: p2 :: p3 :: p4 :: p5 :: p6 :: p7 :: m :: R3) = R1 ++ (A ++ x :: B) → b.getD (6 + 18 * N + A.length) 0 = x := fun A x B hA => by
  rw [hb, hA, show t0 :: t1 :: t2 :: t3 :: (R1 ++ (A ++ x :: B)) = (t0 :: t1 :: t2 :: t3 :: (R1 ++ A)) ++ x :: B by simp]
  exact drp_cons (by simp only [List.length_cons, List.length_append]; omega) 0
 have g0 : b.getD (6 + 18 * N) 0 = p0 := hg [] p0 _ rfl
 have g1 : b.getD (6 + 18 * N + 1) 0 = p1 := hg [p0] p1 _ rfl
 have g2 : b.getD (6 + 18 * N + 2) 0 = p2 := hg [p0, p1] p2 _ rfl
 have g3 : b.getD (6 + 18 * N + 3) 0 = p3 := hg [p0, p1, p2] p3 _ rfl
 have g4 : b.getD (6 + 18 * N + 4) 0 = p4 := hg [p0, p1, p2, p3] p4 _ rfl
 have g5 : b.getD (6 + 18 * N + 5) 0 = p5 := hg [p0, p1, p2, p3, p4] p5 _ rfl
 have g6 : b.getD (6 + 18 * N + 6) 0 = p6 := hg [p0, p1, p2, p3, p4, p5] p6 _ rfl
 have g7 : b.getD (6 + 18 * N + 7) 0 = p7 := hg [p0, p1, p2, p3, p4, p5, p6] p7 _ rfl
 have g8 : b.getD (6 + 18 * N + 8) 0 = m := hg [p0, p1, p2, p3, p4, p5, p6, p7] m _ rfl
 have hM : mS b = m.toNat := by unfold mS; rw [hE, g8]
 have hR : (b.drop 4).take (6 + 18 * N - 4) = R1 := by rw [hb]; show (R1 ++ _).take _ = _; exact List.take_left' (by omega)
 have hD : b.drop (6 + 18 * N + 9) = R3 := by
  rw [hb, show t0 :: t1 :: t2 :: t3 :: (R1 ++ (p0 :: p1 :: p2 :: p3 :: p4 :: p5 :: p6 :: p7 :: m :: R3)) = (t0 :: t1 :: t2 :: t3 :: (R1 ++ [p0, p1, p2, p3, p4, p5, p6, p7, m])) ++ R3 by simp]
  exact List.drop_left' (by simp only [List.length_cons, List.length_append, List.length_nil]; omega)
 refine ⟨hE, hM, by rw [hb]; simp only [List.length_cons, List.length_append]; omega, by rw [hE]; exact hR, by rw [hE]; exact hD, ?_⟩
 unfold snD
 rw [hE, hM, hR, hD, g0, g1, g2, g3, g4, g5, g6, g7, hb]
 rfl
theorem decS_eq {t0 t1 t2 t3 p0 p1 p2 p3 p4 p5 p6 p7 m : Int} {R1 R3 : List Int} {N : Nat} (hN : numR (R1.take 2) = (N : Int)) (h1 : R1.length = 2 + 18 * N) : decS (t0 :: t1 :: t2 :: t3 :: (R1 ++ (p0 :: p1 :: p2 :: p3 :: p4 :: p5 :: p6 :: p7 :: m :: R3))) = if R3.length < 9 * m.toNat then (zeroS, 7) else if ((decT R1).2 = 0 ∧ t3 ≤ 1) ∧ R3.length = 9 * m.toNat ∧ snapR ⟨t0, t1, t2, decide (t3 = 1), (decT R1).1, p0, p1, p2, p3, p4, p5, p6, p7, (decN m.toNat R3).1⟩ = true then (⟨t0, t1, t2, decide (t3 = 1), (decT R1).1, p0, p1, p2, p3, p4, p5, p6, p7, (decN m.toNat R3).1⟩, 0) else (zeroS, 280) := by
 obtain ⟨b, hb⟩ : ∃ b, b = t0 :: t1 :: t2 :: t3 :: (R1 ++ (p0 :: p1 :: p2 :: p3 :: p4 :: p5 :: p6 :: p7 :: m :: R3)) := ⟨_, rfl⟩
 obtain ⟨hE, hM, hL, hR, hD, hS⟩ := decS_parts hb hN h1
 have h3 : b.getD 3 0 = t3 := by rw [hb]; rfl
 rw [← hb]
 have i1 : shS b ↔ R3.length < 9 * m.toNat := by unfold shS; rw [hM, hL, hE]; omega
 have i2 : okB b ↔ ((decT R1).2 = 0 ∧ t3 ≤ 1) ∧ R3.length = 9 * m.toNat ∧ snapR ⟨t0, t1, t2, decide (t3 = 1), (decT R1).1, p0, p1, p2, p3, p4, p5, p6, p7, (decN m.toNat R3).1⟩ = true := by
  unfold okB
  rw [hR, hS, h3, hM, hL, hE]
  constructor
  ·rintro ⟨k1, k2, k3⟩; exact ⟨k1, by omega, k3⟩
  ·rintro ⟨k1, k2, k3⟩; exact ⟨k1, by omega, k3⟩
 unfold decS
 rw [hS]
 by_cases hs : R3.length < 9 * m.toNat
 ·rw [if_pos (i1.2 hs), if_pos hs]
 ·rw [if_neg (fun q => hs (i1.1 q)), if_neg hs]
  by_cases hq : okB b
  ·rw [if_pos hq, if_pos (i2.1 hq)]
  ·rw [if_neg hq, if_neg (fun q => hq (i2.2 q))]
theorem decS_sh {b : List Int} (h : shS b) : decS b = (zeroS, 7) := by unfold decS; rw [if_pos h]
theorem sh_six {b : List Int} (h : b.length < 6) : decS b = (zeroS, 7) := decS_sh (.inl h)
theorem sh_raw {t0 t1 t2 t3 t4 t5 : Int} {r : List Int} {N : Nat} (hN : numR [t4, t5] = (N : Int)) (h : r.length < 18 * N + 9) : decS (t0 :: t1 :: t2 :: t3 :: t4 :: t5 :: r) = (zeroS, 7) := by
 refine decS_sh (.inr (.inl ?_))
 have e : eS (t0 :: t1 :: t2 :: t3 :: t4 :: t5 :: r) = 6 + 18 * N := by
  show 6 + 18 * (numR [t4, t5]).toNat = _
  rw [hN, Int.toNat_natCast]
 rw [e]
 simp only [List.length_cons]
 omega
theorem offs_rng {o0 o1 o2 o3 o4 o5 o6 o7 i w : Int} (h : offR o0 o1 o2 o3 o4 o5 o6 o7 i w = true) : RNG o0 o1 o2 o3 o4 o5 o6 o7 := by
 unfold offR at h
 rw [Bool.and_eq_true] at h
 exact of_decide_eq_true h.1
theorem nOk_all : ∀ {l : List Nm} {p : Option Nm}, nOk p l = true → ∀ x ∈ l, nmOk x = true
 | [], _, _, x, hx => nomatch hx
 | y :: l, p, h, x, hx => by
  have h' : nmOk y = true ∧ nOk (some y) l = true := by
   cases p with
   | none => simp only [nOk, Bool.and_eq_true] at h; exact h
   | some p => simp only [nOk, Bool.and_eq_true] at h; exact ⟨h.1.1, h.2⟩
  rcases List.mem_cons.1 hx with rfl | hx
  ·exact h'.1
  ·exact nOk_all h'.2 x hx
theorem snapR_all {x : Sn} (h : snapR x = true) : ((0 ≤ x.op ∧ x.op < 8) ∧ (0 ≤ x.ix ∧ x.ix < 3) ∧ 1 ≤ x.w ∧ x.w ≤ 3) ∧ RNG x.o0 x.o1 x.o2 x.o3 x.o4 x.o5 x.o6 x.o7 ∧ tabR x.rows = true ∧ x.txs.length ≤ 24 ∧ ∀ n ∈ x.txs, nmOk n = true := by
 unfold snapR at h
 simp only [Bool.and_eq_true] at h
 obtain ⟨h1, h2, h3, h4, _⟩ := h
 have h1 := of_decide_eq_true h1
 unfold namesR at h3
 rw [Bool.and_eq_true] at h3
 have h5 := h1.2
 unfold Tab.okS at h5
 exact ⟨⟨h1.1, by omega, by omega⟩, offs_rng h2, h4, of_decide_eq_true h3.1, nOk_all h3.2⟩
theorem nm_okN {x : Nm} (h : nmOk x = true) : okN x := by
 have := of_decide_eq_true h
 unfold okN
 omega
theorem encS_parts {x : Sn} (h : snapR x = true) (ho : ∀ y ∈ x.rows, okK y) : eS (encS x) = 6 + 18 * x.rows.length ∧ mS (encS x) = x.txs.length ∧ snD (encS x) = x ∧ decS (encS x) = (x, 0) := by
 obtain ⟨_, _, ht, hn, hm⟩ := snapR_all h
 have hl := tab_len ht
 have hN : numR ((encT x.rows).take 2) = (x.rows.length : Int) := by rw [(encT_two _).1]; exact num2 (by omega)
 have h1 := encT_len x.rows
 have hd := decN_enc (fun z hz => nm_okN (hm z hz)) []
 rw [List.append_nil] at hd
 have hen : decide ((bif x.en then (1 : Int) else 0) = 1) = x.en := by cases x.en <;> rfl
 have hle : (bif x.en then (1 : Int) else 0) ≤ 1 := by cases x.en <;> decide
 obtain ⟨hE, hM, hL, hR, hD, hS⟩ := decS_parts (b := encS x) rfl hN h1
 have hq := @decS_eq x.op x.ix x.w (bif x.en then 1 else 0) x.o0 x.o1 x.o2 x.o3 x.o4 x.o5 x.o6 x.o7 (x.txs.length : Int) (encT x.rows) (x.txs.flatMap encN) x.rows.length hN h1
 rw [decT_back ht ho, Int.toNat_natCast, hd, hen] at hS hq
 rw [Int.toNat_natCast] at hM
 refine ⟨hE, hM, hS, ?_⟩
 show decS (encS x) = _
 refine hq.trans ?_
 rw [if_neg (by rw [encNs_len]; omega), if_pos ⟨⟨rfl, hle⟩, encNs_len _, h⟩]
theorem getD_tk {b : List Int} {k i : Nat} (h : i < k) : (b.take k).getD i 0 = b.getD i 0 := by
 rw [List.getD_eq_getElem?_getD, List.getD_eq_getElem?_getD, List.getElem?_take, if_pos h]
theorem decS_less {x : Sn} (h : snapR x = true) (ho : ∀ y ∈ x.rows, okK y) {k : Nat} (hk : k < (encS x).length) : decS ((encS x).take k) = (zeroS, 7) := by
 obtain ⟨hE, hM, _, _⟩ := encS_parts h ho
 have hL := encS_len x
 generalize encS x = b at *
 have hl : (b.take k).length = k := by rw [List.length_take]; omega
 by_cases h6 : k < 6
 ·exact sh_six (by omega)
 have e1 : ((b.take k).drop 4).take 2 = (b.drop 4).take 2 := by rw [List.drop_take, List.take_take, Nat.min_eq_left (by omega)]
 have hE2 : eS (b.take k) = eS b := by unfold eS; rw [e1]
 by_cases h9 : k < eS b + 9
 ·exact decS_sh (.inr (.inl (by rw [hl, hE2]; exact h9)))
 have hM2 : mS (b.take k) = mS b := by unfold mS; rw [hE2, getD_tk (by omega)]
 exact decS_sh (.inr (.inr (by rw [hl, hE2, hM2]; omega)))
theorem split6 {b : List Int} (h : 6 ≤ b.length) : ∃ t0 t1 t2 t3 t4 t5 r, b = t0 :: t1 :: t2 :: t3 :: t4 :: t5 :: r := by
 match b, h with
 | t0 :: t1 :: t2 :: t3 :: t4 :: t5 :: r, _ => exact ⟨t0, t1, t2, t3, t4, t5, r, rfl⟩
theorem split9 {b : List Int} (h : 9 ≤ b.length) : ∃ p0 p1 p2 p3 p4 p5 p6 p7 m r, b = p0 :: p1 :: p2 :: p3 :: p4 :: p5 :: p6 :: p7 :: m :: r := by
 match b, h with
 | p0 :: p1 :: p2 :: p3 :: p4 :: p5 :: p6 :: p7 :: m :: r, _ => exact ⟨p0, p1, p2, p3, p4, p5, p6, p7, m, r, rfl⟩
theorem numR2 {a c : Int} : numR [a, c] = a * 256 + c := by simp [numR]
theorem shapeS {b : List Int} (hB : isB b) : b.length < 6 ∨ (∃ t0 t1 t2 t3 t4 t5 r, ∃ N : Nat, b = t0 :: t1 :: t2 :: t3 :: t4 :: t5 :: r ∧ numR [t4, t5] = (N : Int) ∧ N ≤ 65535 ∧ r.length < 18 * N + 9) ∨ ∃ t0 t1 t2 t3 p0 p1 p2 p3 p4 p5 p6 p7 m R1 R3, ∃ N : Nat, b = t0 :: t1 :: t2 :: t3 :: (R1 ++ (p0 :: p1 :: p2 :: p3 :: p4 :: p5 :: p6 :: p7 :: m :: R3)) ∧ numR (R1.take 2) = (N : Int) ∧ N ≤ 65535 ∧ R1.length = 2 + 18 * N := by
 by_cases h6 : b.length < 6
 ·exact .inl h6
 obtain ⟨t0, t1, t2, t3, t4, t5, r, rfl⟩ := split6 (Nat.le_of_not_lt h6)
 have h4 := hB t4 (by simp)
 have h5 := hB t5 (by simp)
 obtain ⟨N, hN⟩ : ∃ N : Nat, numR [t4, t5] = (N : Int) := ⟨(numR [t4, t5]).toNat, by rw [numR2]; omega⟩
 have hN9 : N ≤ 65535 := by rw [numR2] at hN; omega
 by_cases hr : r.length < 18 * N + 9
 ·exact .inr (.inl ⟨t0, t1, t2, t3, t4, t5, r, N, rfl, hN, hN9, hr⟩)
 obtain ⟨p0, p1, p2, p3, p4, p5, p6, p7, m, R3, hp⟩ := split9 (b := r.drop (18 * N)) (by rw [List.length_drop]; omega)
 refine .inr (.inr ⟨t0, t1, t2, t3, p0, p1, p2, p3, p4, p5, p6, p7, m, t4 :: t5 :: r.take (18 * N), R3, N, ?_, hN, hN9, by simp only [List.length_cons, List.length_take]; omega⟩)
 rw [← hp, List.cons_append, List.cons_append, List.take_append_drop]
theorem decS_any {b : List Int} (hB : isB b) : ((decS b).2 = 0 ∧ snapR (decS b).1 = true ∧ encS (decS b).1 = b ∧ (decS b).1.rows.length ≤ 256 ∧ (decS b).1.txs.length ≤ 24 ∧ ∀ y ∈ (decS b).1.rows, okK y) ∨ ((decS b).1 = zeroS ∧ ((decS b).2 = 7 ∨ (decS b).2 = 280)) := by
 rcases shapeS hB with h6 | ⟨t0, t1, t2, t3, t4, t5, r, N, rfl, hN, _, hr⟩ | ⟨t0, t1, t2, t3, p0, p1, p2, p3, p4, p5, p6, p7, m, R1, R3, N, rfl, hN, _, h1⟩
 ·rw [sh_six h6]; exact .inr ⟨rfl, .inl rfl⟩
 ·rw [sh_raw hN hr]; exact .inr ⟨rfl, .inl rfl⟩
 have hBR : isB R1 := fun z hz => hB z (by simp [hz])
 have hB3 : isB R3 := fun z hz => hB z (by simp [hz])
 have h3 := hB t3 (by simp)
 have hm := hB m (by simp)
 rw [decS_eq hN h1]
 by_cases hs : R3.length < 9 * m.toNat
 ·rw [if_pos hs]; exact .inr ⟨rfl, .inl rfl⟩
 rw [if_neg hs]
 split
 ·rename_i hk
  obtain ⟨⟨k1, k2⟩, k3, k4⟩ := hk
  have ht := decT_any hBR
  rcases ht with ⟨_, hE, _, hok⟩ | ⟨_, h | h⟩
  rotate_left
  ·rw [h] at k1; cases k1
  ·rw [h] at k1; cases k1
  have hr := snapR_all k4
  have hT : encT (decT R1).1 = R1 := by
   have h9 := hr.2.2.1
   dsimp only at h9
   unfold encTR at hE
   rw [if_pos h9] at hE
   exact congrArg Prod.fst hE
  have he := decN_err m.toNat R3
  rw [if_neg hs] at he
  have hre := decN_rest he
  rw [show R3.drop (9 * m.toNat) = [] by rw [← k3]; simp] at hre
  obtain ⟨i1, i2, i3⟩ := decN_inv (L := (decN m.toNat R3).1) (r := []) hB3 (by rw [← he, ← hre])
  rw [List.append_nil] at i1
  refine .inl ⟨rfl, k4, ?_, tab_len hr.2.2.1, hr.2.2.2.1, hok⟩
  unfold encS
  dsimp only
  rw [hT, ← i1, i2, show (bif decide (t3 = 1) then (1 : Int) else 0) = t3 by
   by_cases h : t3 = 1
   ·rw [decide_eq_true h, h]; rfl
   ·rw [decide_eq_false h]; show (0 : Int) = t3; omega, Int.toNat_of_nonneg hm.1]
 ·exact .inr ⟨rfl, .inr rfl⟩
theorem encS_isB {x : Sn} (h : snapR x = true) : isB (encS x) := by
 obtain ⟨⟨a1, a2, a3⟩, hr, ht, hn, hm⟩ := snapR_all h
 have hT := encT_isB ht
 intro z hz
 unfold encS at hz
 have hen : 0 ≤ (bif x.en then (1 : Int) else 0) ∧ (bif x.en then (1 : Int) else 0) ≤ 255 := by cases x.en <;> decide
 simp only [List.mem_cons, List.mem_append] at hz
 rcases hz with rfl | rfl | rfl | rfl | hz | rfl | rfl | rfl | rfl | rfl | rfl | rfl | rfl | rfl | hz
 ·omega
 ·omega
 ·omega
 ·exact hen
 ·exact hT z hz
 all_goals try (unfold RNG at hr; omega)
 obtain ⟨n, hn2, hz⟩ := List.mem_flatMap.1 hz
 have hk := of_decide_eq_true (hm n hn2)
 unfold encN at hz
 rw [List.mem_cons, List.mem_append] at hz
 rcases hz with rfl | hz | hz
 ·omega
 ·exact be_isB z hz
 ·exact be_isB z hz
end Go.Proofs.Ytopieffkpdlpbaa
namespace Go.Proofs.Ytopieffkpdlpbaa
open Go Go.RowKit Wx
set_option maxHeartbeats 4000000
namespace Tab
theorem tk_drop {α : Type} (l : List α) (k : Nat) : List.take (l.length - k) (l.drop k) = l.drop k := List.take_of_length_le (by simp)
theorem loopZ_unr2 {P : Program} {T : Tab} {n m : Nat} {rd : Option Nat} {s : Z.S} {c : Code} {Q : Exit → Z.S → Prop} (hT : TabOk P T) (hs : Wx.get s.F 5 = some (.val (.int .i64 2))) (h : Z.loopU P T n m rd c Q 3 s) : Z.LoopZ P n m rd c s Q := Z.loopZ_unroll hT 3 h
theorem wr_n16 {a b : Int} {A : Int → Prop} (ha : 0 ≤ a ∧ a ≤ 255) (hb : 0 ≤ b ∧ b ≤ 255) (k : A (a * 256 + b)) : wr .u16 (IntKind.u64.wrap ((BitVec.ofInt IntKind.u64.bits (IntKind.u64.wrap (IntKind.u64.wrap ((BitVec.ofInt IntKind.u64.bits (0 * 256) ||| BitVec.ofInt IntKind.u64.bits a).toNat : Int) * 2 ^ min (Int.toNat 8) IntKind.u64.bits)) ||| BitVec.ofInt IntKind.u64.bits b).toNat : Int)) A := ⟨a * 256 + b, by
 rw [or_add (x := 0) (b := a) (by decide) ha, Int.zero_mul, Int.zero_add]
 have e : IntKind.u64.wrap (a * 2 ^ min (Int.toNat 8) IntKind.u64.bits) = a * 256 := by
  show IntKind.u64.wrap (a * 2 ^ 8) = _
  rw [u64_in _ (by omega)]; omega
 rw [e, or_add (by omega) hb]
 simp [IntKind.wrap, IntKind.bits, IntKind.signed]; omega, k⟩
end Tab
end Go.Proofs.Ytopieffkpdlpbaa
namespace Go.Proofs.Ytopieffkpdlpbaa
open Go Go.RowKit Wx
set_option maxHeartbeats 4000000
namespace Tab
def lbs : Code → List Code
 | .loop b => b :: lbs b
 | .seq a b => lbs a ++ lbs b
 | .cond _ a b => lbs a ++ lbs b
 | .block _ b => lbs b
 | .rangeFunc _ _ a b => lbs a ++ lbs b
 | .scope b => lbs b
 | _ => []
def lbody (f : Func) : Code := ((f.body.map lbs).getD []).headD .skip
def loopPost (R : Z.S → Prop) (Q : Exit → Z.S → Prop) : Exit → Z.S → Prop := fun e s' => match e with
 | .normal => R s'
 | e => Q e s'
abbrev dG := Nat × List Int × List Kc × Int
abbrev dCH (zq : dG) : Fr := [(6, .val (.int .i64 (zq.1 : Int)))]
abbrev dCK (zq : dG) : Z.Kr := [(1, some (Z.Ob.b ⟨[[.ro true 1 (zq.2.1.map eB), .v (.int .i64 zq.2.2.2)]], 2, 138, true⟩)), (2, some (Z.Ob.b ⟨[[.gsl 5 (zq.2.2.1.map cK)]], 1, 28, true⟩)), (5, (gB 4 70 (zq.2.2.1.map cK)).map Z.Ob.b)]
abbrev dFk : Fr := [(2, .c (.own 0 0 0)), (4, .c (.own 1 0 0)), (5, .c (.own 2 0 0))]
abbrev dKk : Z.Kr := [(0, some (Z.Ob.b ⟨[[.v (.slice none 0 0)]], 1, 28, true⟩))]
def preK (acc : List Kc) (x : List Kc × Int × List Int) : List Kc × Int × List Int := if x.2.1 = 0 then (acc ++ x.1, 0, x.2.2) else ([], 7, [])
theorem preK_nil (n : Nat) (b : List Int) : decK n b = preK [] (decK n b) := by
 unfold preK
 cases n with
 | zero => simp [decK]
 | succ n =>
  rw [decK]
  split
  ·simp
  ·split
   ·simp
   ·simp
theorem preK_step {acc : List Kc} {n : Nat} {b : List Int} {x : Kc} (hl : ¬ b.length < 18) (h : rowD b = x) : preK acc (decK (n + 1) b) = preK (acc ++ [x]) (decK n (b.drop 18)) := by
 unfold preK
 simp only [decK, if_neg hl, h]
 by_cases h2 : (decK n (b.drop 18)).2.1 = 0
 ·simp [h2]
 ·simp [h2]
theorem preK_bad {acc : List Kc} {n : Nat} {b : List Int} (hl : b.length < 18) : preK acc (decK (n + 1) b) = ([], 7, []) := by
 unfold preK
 simp only [decK, if_pos hl]
 rfl
abbrev dInv (b : List Int) (N : Nat) (zq : dG) : Prop := zq.1 ≤ N ∧ (isB zq.2.1 ∧ zq.2.1.length ≤ 1099511627776) ∧ zq.2.2.1.length + zq.1 = N ∧ ((zq.2.2.2 = 0 ∧ decK N b = preK zq.2.2.1 (decK zq.1 zq.2.1)) ∨ (zq.2.2.2 = 7 ∧ decK N b = ([], 7, [])))
abbrev dRnd (b : List Int) (N : Nat) (p : dG) (s' : Z.S) : Prop := Z.rndZ 0 (fun zq => (⟨dCH zq ++ dFk, dCK zq ++ dKk, 6⟩ : Z.S)) (dInv b N) (fun zq => zq.1) p s'
end Tab
end Go.Proofs.Ytopieffkpdlpbaa
