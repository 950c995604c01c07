import Derived.Test.YtopieffkpdlpbaaGreatLib3
import Derived.Test.YtopieffkpdlpbaaGreatLib4
import Derived.Shelf.SlGeneric
import Derived.Shelf.SlSortCmp.WholeK
import Derived.Ground.SlsfProg
import Derived.Test.YtopieffkpdlpbaaGreatProg
import Derived.Test.YtopieffkpdlpbaaGreatLib5
set_option linter.unusedVariables false
set_option linter.unusedSimpArgs false
namespace Go.Proofs.YtopieffkpdlpbaaGreat
open Go Go.RowKit Wx
set_option maxHeartbeats 4000000
def okZ (o i w : Int) : Prop := (0 ≤ o ∧ o < 8) ∧ (1 ≤ w ∧ w ≤ 3) ∧ 0 ≤ i ∧ i < w
instance (o i w : Int) : Decidable (okZ o i w) := by unfold okZ; infer_instance
end Go.Proofs.YtopieffkpdlpbaaGreat
namespace Go.Proofs.YtopieffkpdlpbaaGreat
open Go Go.RowKit Wx
set_option maxHeartbeats 4000000
namespace Tab
abbrev eB (z : Int) : List RT := [RT.v (.int .u8 z)]
abbrev cB (z : Int) : List Ce := [Ce.v (.int .u8 z)]
def be : Nat → Int → List Int
 | 0, _ => []
 | n + 1, x => be n (x / 256) ++ [x % 256]
theorem be_len : ∀ {n : Nat} {x : Int}, (be n x).length = n
 | 0, _ => rfl
 | n + 1, x => by rw [be, List.length_append, be_len]; rfl
def numR (l : List Int) : Int := l.foldl (fun x b => x * 256 + b) 0
theorem numR_snoc {l : List Int} {b : Int} : numR (l ++ [b]) = numR l * 256 + b := by unfold numR; rw [List.foldl_append]; rfl
def isB (l : List Int) : Prop := ∀ b ∈ l, 0 ≤ b ∧ b ≤ 255
theorem numR_lt : ∀ {n : Nat} {l : List Int}, l.length = n → isB l → 0 ≤ numR l ∧ numR l < 256 ^ n
 | 0, l, h, _ => by rw [List.length_eq_zero_iff.1 h]; decide
 | n + 1, l, h, hb => by
  rcases List.eq_nil_or_concat l with e | ⟨l', b, e⟩
  ·subst e; simp at h
  ·rw [List.concat_eq_append] at e
   subst e
   have h1 := numR_lt (n := n) (l := l') (by simpa using h) (fun x hx => hb x (List.mem_append_left _ hx))
   have h2 := hb b (by simp)
   rw [numR_snoc, Int.pow_succ]
   omega
theorem be_numR : ∀ {n : Nat} {l : List Int}, l.length = n → isB l → be n (numR l) = l
 | 0, l, h, _ => by rw [List.length_eq_zero_iff.1 h]; rfl
 | n + 1, l, h, hb => by
  rcases List.eq_nil_or_concat l with e | ⟨l', b, e⟩
  ·subst e; simp at h
  ·rw [List.concat_eq_append] at e
   subst e
   have h2 := hb b (by simp)
   rw [be, numR_snoc, show (numR l' * 256 + b) / 256 = numR l' by omega, show (numR l' * 256 + b) % 256 = b by omega, be_numR (by simpa using h) (fun x hx => hb x (List.mem_append_left _ hx))]
theorem u8_mod (z : Int) : IntKind.u8.wrap z = z % 256 := by
 simp [IntKind.wrap, IntKind.bits, IntKind.signed]
theorem wr_mod8 {z : Int} {A : Int → Prop} (h : A (z % 256)) : wr .u8 z A := ⟨_, u8_mod z, h⟩
theorem u64_mod (z : Int) : IntKind.u64.wrap z = z % 18446744073709551616 := by
 simp [IntKind.wrap, IntKind.bits, IntKind.signed]
theorem u64_rng (z : Int) : 0 ≤ IntKind.u64.wrap z ∧ IntKind.u64.wrap z < 18446744073709551616 := by rw [u64_mod]; omega
theorem u64_i64 {z : Int} (h : 0 ≤ z ∧ z < 18446744073709551616) : IntKind.u64.wrap (IntKind.i64.wrap z) = z := by
 rw [u64_mod]
 simp [IntKind.wrap, IntKind.bits, IntKind.signed]
 omega
theorem and255 {x : Int} (h : 0 ≤ x ∧ x < 18446744073709551616) : IntKind.u64.wrap ((BitVec.ofInt IntKind.u64.bits x &&& BitVec.ofInt IntKind.u64.bits 255).toNat : Int) = x % 256 := by
 obtain ⟨n, rfl⟩ := Int.eq_ofNat_of_zero_le h.1
 have h2 : n < 18446744073709551616 := by omega
 rw [u64_mod]
 show ((BitVec.ofInt 64 (n : Int) &&& BitVec.ofInt 64 255).toNat : Int) % 18446744073709551616 = _
 rw [BitVec.toNat_and]
 have e1 : (BitVec.ofInt 64 (n : Int)).toNat = n := by simp [BitVec.toNat_ofInt]; omega
 have e2 : (BitVec.ofInt 64 255).toNat = 255 := by decide
 rw [e1, e2, show n &&& 255 = n % 256 from Nat.and_two_pow_sub_one_eq_mod n 8]
 omega
theorem or256 {x b : Int} (h : 0 ≤ x ∧ x < 72057594037927936) (hb : 0 ≤ b ∧ b ≤ 255) : IntKind.u64.wrap ((BitVec.ofInt IntKind.u64.bits (IntKind.u64.wrap (x * 2 ^ 8)) ||| BitVec.ofInt IntKind.u64.bits (IntKind.u64.wrap b)).toNat : Int) = x * 256 + b := by
 obtain ⟨n, rfl⟩ := Int.eq_ofNat_of_zero_le h.1
 obtain ⟨c, rfl⟩ := Int.eq_ofNat_of_zero_le hb.1
 rw [u64_mod, u64_mod, u64_mod]
 have a1 : ((n : Int) * 2 ^ 8) % 18446744073709551616 = ((n * 256 : Nat) : Int) := by omega
 have a2 : (c : Int) % 18446744073709551616 = ((c : Nat) : Int) := by omega
 rw [a1, a2]
 show ((BitVec.ofInt 64 ((n * 256 : Nat) : Int) ||| BitVec.ofInt 64 (c : Int)).toNat : Int) % 18446744073709551616 = _
 rw [BitVec.toNat_or]
 have e1 : (BitVec.ofInt 64 ((n * 256 : Nat) : Int)).toNat = n * 256 := by simp [BitVec.toNat_ofInt]; omega
 have e2 : (BitVec.ofInt 64 (c : Int)).toNat = c := by simp [BitVec.toNat_ofInt]; omega
 have e3 : n * 256 ||| c = n * 256 + c := by
  rw [show n * 256 = n <<< 8 by rw [Nat.shiftLeft_eq]]
  exact (Nat.shiftLeft_add_eq_or_of_lt (by omega) n).symm
 rw [e1, e2, e3]
 omega
theorem put_set {b T : List Int} {m : Nat} {z : Int} : ((b ++ List.replicate (m + 1) 0 ++ T).map cB).set (0 + (b.length + m)) (cB z) = (b ++ List.replicate m 0 ++ (z :: T)).map cB := by
 rw [Nat.zero_add, List.replicate_succ', show b ++ (List.replicate m (0 : Int) ++ [0]) ++ T = (b ++ List.replicate m 0) ++ 0 :: T by simp, List.map_append, List.map_cons, Z.set_mid (by simp)]
 simp
theorem put_lay {b : List Int} {n k : Nat} {fl : Bool} (hk : b.length ≤ k) : lay (List.replicate (b.length + n) (cB 0)) 0 (List.take k ((b.map eB).map (List.map (RT.ce fl)))) = (b ++ List.replicate n 0 ++ []).map cB := by
 rw [List.take_of_length_le (by simpa using hk)]
 have h1 : ((b.map eB).map (List.map (RT.ce fl))) = b.map cB := map_ce fun _ => rfl
 rw [h1, List.append_nil, List.map_append, List.map_replicate]
 unfold lay
 simp
theorem mkN_any {lz cz : Int} (l : Nat) {bt : Nat} {A : Nat → Nat → Prop} (e1 : lz = (l : Int)) (e2 : cz = (l : Int)) (h2 : l ≤ maxLen) (h3 : bt * l ≤ 140737488355328) (k : A l l) : mkN lz cz bt A := ⟨l, l, e1, e2, Nat.le_refl _, h2, h3, k⟩
theorem put_row {b T : List Int} {m : Nat} : ((b ++ List.replicate (m + 1) 0 ++ T).map cB)[0 + (b.length + m)]? = some (cB 0) := by
 rw [Nat.zero_add, List.replicate_succ', show b ++ (List.replicate m (0 : Int) ++ [0]) ++ T = (b ++ List.replicate m 0) ++ 0 :: T by simp, List.map_append, List.map_cons, Z.get_mid (by simp)]
theorem vN_shr8 {p : Int} {A : Int → Prop} (hp : 0 ≤ p) (h : A (p / 256)) : vN (p.fdiv (2 ^ (min (Int.toNat 8) IntKind.u64.bits))) A := ⟨_, Int.fdiv_eq_ediv_of_nonneg _ (by decide), h⟩
theorem ce_cB {fl : Bool} {l : List Int} : (l.map eB).map (List.map (RT.ce fl)) = l.map cB := map_ce fun _ => rfl
theorem ret1g {T : Tab} {rs : List ResultVar} {s : S} {post : AV → Kr → Nat → Prop} (i : Nat) (rows : List (List Ce)) (sz : Nat) (ty : TypeId) (xs : List A0) (h : resL T s rs = some xs) {rows' rows2 : List (List Ce)} (hx : retV xs = .c (.gsl i rows')) (hK : kg s.K i = some ⟨rows2, sz, ty, false⟩) (e : rows' = rows) (e2 : rows2 = rows) (hf : rows.map (List.map (Ce.ren (rn [i] s.top))) = rows) (ho2 : ∀ r ∈ rows, ∀ c ∈ r, c.own' = true) (hp : post (.c (.gsl 0 rows)) [(0, some ⟨rows, sz, ty, false⟩)] 1) : retN T rs s post := by
 subst e e2
 exact ret1 xs h [i] (.c (.gsl 0 rows2)) [(0, some ⟨rows2, sz, ty, false⟩)] hx ⟨blk_sub (r := rn [i] s.top) (j := 0) hK rfl hf, trivial⟩ (by simp) rfl (own_one ho2) (by simp) hp
theorem and8 {x : Int} (h : 0 ≤ x ∧ x < 18446744073709551616) : IntKind.u8.wrap (IntKind.u64.wrap ((BitVec.ofInt IntKind.u64.bits x &&& BitVec.ofInt IntKind.u64.bits 255).toNat : Int)) = x % 256 := by
 rw [and255 h, u8_mod]; omega
theorem ren_cB {l : List Int} {r : Nat → Nat} : (l.map cB).map (List.map (Ce.ren r)) = l.map cB := ren_map fun _ => rfl
theorem gB_r {l : List Int} {r : Nat → Nat} (hne : l ≠ []) : (some ⟨(l.map cB).map (List.map (Ce.ren r)), 1, 5, false⟩ : Option Blk) = gB 1 5 (l.map cB) := by
 rw [ren_cB, gB_ne (by simpa using hne)]
theorem app_lit {A C : List Int} {S : List (List Ce)} {B : List Int} (hS : S = B.map cB) (h : C = A ++ B) : A.map cB ++ S = C.map cB := by
 rw [hS, h, List.map_append]
theorem low_int {K : Nat → Option Blk} {k : IntKind} {a b : Int} (h : a = b) : lowV K (.val (.int k a)) (.one (.v (.int k b))) := by subst h; rfl
theorem isB_take {l : List Int} {n : Nat} (h : isB l) : isB (l.take n) := fun b hb => h b (List.mem_of_mem_take hb)
theorem isB_drop {l : List Int} {n : Nat} (h : isB l) : isB (l.drop n) := fun b hb => h b (List.mem_of_mem_drop hb)
theorem rest_at {R : List (List RT)} {l : List Int} {j : Nat} {z : Int} (hR : R = l.map eB) (h : l[j]? = some z) : R[j]? = some (eB z) := by
 rw [hR, List.getElem?_map, h]; rfl
theorem pow_le7 {j : Nat} (h : j ≤ 7) : (256 : Int) ^ j ≤ 256 ^ 7 := by
 have : ∀ j : Fin 8, (256 : Int) ^ j.1 ≤ 256 ^ 7 := by decide
 exact this ⟨j, by omega⟩
theorem num_lt {l : List Int} {i : Nat} (hi : i < 8) (hl : i ≤ l.length) (hB : isB l) : 0 ≤ numR (l.take i) ∧ numR (l.take i) < 72057594037927936 := by
 have h1 := numR_lt (n := i) (l := l.take i) (by simp; omega) (isB_take hB)
 have h2 := pow_le7 (j := i) (by omega)
 have h3 : (256 : Int) ^ 7 = 72057594037927936 := by decide
 rw [h3] at h2
 exact ⟨h1.1, Int.lt_of_lt_of_le h1.2 h2⟩
theorem ap3 {r : List Int} : r = r.take 8 ++ ((r.drop 8).take 8 ++ r.drop 16) := by
 conv => lhs; rw [← List.take_append_drop 8 r, ← List.take_append_drop 8 (r.drop 8), List.drop_drop]
theorem num8 {l : List Int} (hl : l.length = 8) (hB : isB l) : be 8 (IntKind.u64.wrap (IntKind.i64.wrap (numR l))) = l := by
 have h := numR_lt hl hB
 rw [u64_i64 ⟨h.1, by have := h.2; simpa using this⟩, be_numR hl hB]
theorem i64_rng (z : Int) : -9223372036854775808 ≤ IntKind.i64.wrap z ∧ IntKind.i64.wrap z ≤ 9223372036854775807 := by
 simp [IntKind.wrap, IntKind.bits, IntKind.signed]
 omega
def cmpI (a b : Int) : Int := if a < b then -1 else if b < a then 1 else 0
def cmpR (s k s2 k2 : Int) : Int := if cmpI s s2 ≠ 0 then cmpI s s2 else cmpI k k2
structure Kc where
 src : Int
 key : Int
 cnt : Int
 sum : Int
deriving DecidableEq
def keyOk (s k : Int) : Bool := decide ((0 ≤ s ∧ s < 8) ∧ 0 ≤ k ∧ k < 32)
def kLt (s k s2 k2 : Int) : Prop := s < s2 ∨ (s = s2 ∧ k < k2)
instance (s k s2 k2 : Int) : Decidable (kLt s k s2 k2) := by unfold kLt; infer_instance
def okT : Option Kc → List Kc → Bool
 | _, [] => true
 | none, x :: r => keyOk x.src x.key && decide (0 < x.cnt) && okT (some x) r
 | some p, x :: r => keyOk x.src x.key && decide (0 < x.cnt) && decide (kLt p.src p.key x.src x.key) && okT (some x) r
def tabR (l : List Kc) : Bool := okT none l
theorem okT_all : ∀ {l : List Kc} {p : Option Kc}, okT p l = true → ∀ x ∈ l, keyOk x.src x.key = true ∧ 0 < x.cnt
 | [], _, _, x, hx => nomatch hx
 | y :: l, p, h, x, hx => by
  have h' : (keyOk y.src y.key = true ∧ 0 < y.cnt) ∧ okT (some y) l = true := by
   cases p with
   | none => simp only [okT, Bool.and_eq_true, decide_eq_true_eq] at h; exact ⟨h.1, h.2⟩
   | some p => simp only [okT, Bool.and_eq_true, decide_eq_true_eq] at h; exact ⟨h.1.1, h.2⟩
  rcases List.mem_cons.1 hx with rfl | hx
  ·exact h'.1
  ·exact okT_all h'.2 x hx
theorem keyOk_iff {s k : Int} : keyOk s k = true ↔ (0 ≤ s ∧ s < 8) ∧ 0 ≤ k ∧ k < 32 := by unfold keyOk; exact decide_eq_true_iff
theorem okT_len : ∀ {l : List Kc} {p : Kc}, keyOk p.src p.key = true → okT (some p) l = true → (l.length : Int) ≤ 255 - (p.src * 32 + p.key)
 | [], p, hp, _ => by rw [keyOk_iff] at hp; simp; omega
 | x :: l, p, hp, h => by
  simp only [okT, Bool.and_eq_true, decide_eq_true_eq] at h
  have ih := okT_len h.1.1.1 h.2
  have hx := keyOk_iff.1 h.1.1.1
  have hp' := keyOk_iff.1 hp
  have hk := h.1.2
  unfold kLt at hk
  simp only [List.length_cons]
  omega
theorem tab_len {l : List Kc} (h : tabR l = true) : l.length ≤ 256 := by
 cases l with
 | nil => simp
 | cons x l =>
  unfold tabR at h
  simp only [okT, Bool.and_eq_true, decide_eq_true_eq] at h
  have ih := okT_len h.1.1 h.2
  have hx := keyOk_iff.1 h.1.1
  simp only [List.length_cons]
  omega
def encK (x : Kc) : List Int := [x.src % 256, x.key % 256] ++ (be 8 (IntKind.u64.wrap x.cnt) ++ be 8 (IntKind.u64.wrap x.sum))
def encT (l : List Kc) : List Int := be 2 (IntKind.u16.wrap (l.length : Int)) ++ l.flatMap encK
theorem encK_len (x : Kc) : (encK x).length = 18 := by unfold encK; simp [be_len]
theorem encKs_len : ∀ l : List Kc, (l.flatMap encK).length = 18 * l.length
 | [] => rfl
 | x :: l => by rw [List.flatMap_cons, List.length_append, encK_len, encKs_len l, List.length_cons]; omega
theorem encKs_snoc {l : List Kc} {k : Nat} {x : Kc} (h : l[k]? = some x) : (l.take (k + 1)).flatMap encK = (l.take k).flatMap encK ++ encK x := by rw [take_snoc h, List.flatMap_append]; simp
def rowD (b : List Int) : Kc := ⟨(b.take 1).headD 0, ((b.drop 1).take 1).headD 0, IntKind.i64.wrap (numR ((b.drop 2).take 8)), IntKind.i64.wrap (numR ((b.drop 10).take 8))⟩
def decK : Nat → List Int → List Kc × Int × List Int
 | 0, b => ([], 0, b)
 | n + 1, b => if b.length < 18 then ([], 7, []) else if (decK n (b.drop 18)).2.1 = 0 then (rowD b :: (decK n (b.drop 18)).1, 0, (decK n (b.drop 18)).2.2) else ([], 7, [])
def decT (b : List Int) : List Kc × Int :=
 if b.length < 2 then ([], 7) else
 if (decK (numR (b.take 2)).toNat (b.drop 2)).2.1 = 0 then (if tabR (decK (numR (b.take 2)).toNat (b.drop 2)).1 = true ∧ (decK (numR (b.take 2)).toNat (b.drop 2)).2.2 = [] then ((decK (numR (b.take 2)).toNat (b.drop 2)).1, 0) else ([], 220)) else ([], 7)
def okK (x : Kc) : Prop := (0 ≤ x.src ∧ x.src ≤ 255) ∧ (0 ≤ x.key ∧ x.key ≤ 255) ∧ (-9223372036854775808 ≤ x.cnt ∧ x.cnt ≤ 9223372036854775807) ∧ (-9223372036854775808 ≤ x.sum ∧ x.sum ≤ 9223372036854775807)
theorem decK_err : ∀ (n : Nat) (b : List Int), (decK n b).2.1 = if b.length < 18 * n then 7 else 0
 | 0, b => by simp [decK]
 | n + 1, b => by
  rw [decK]
  by_cases h : b.length < 18
  ·rw [if_pos h, if_pos (by omega)]
  ·rw [if_neg h, decK_err n, List.length_drop]
   by_cases h2 : b.length - 18 < 18 * n
   ·rw [if_pos h2, if_neg (by decide), if_pos (by omega)]
   ·rw [if_neg h2, if_pos rfl, if_neg (by omega)]
theorem rowD_inv {b : List Int} (hB : isB b) (hl : 18 ≤ b.length) : b = encK (rowD b) ++ b.drop 18 ∧ okK (rowD b) := by
 match b, hl with
 | t :: w :: r, hl =>
  have ht := hB t (by simp)
  have hw := hB w (by simp)
  have hBr : isB r := fun x hx => hB x (by simp [hx])
  simp only [List.length_cons] at hl
  have e : rowD (t :: w :: r) = ⟨t, w, IntKind.i64.wrap (numR (r.take 8)), IntKind.i64.wrap (numR ((r.drop 8).take 8))⟩ := rfl
  have hok : okK (rowD (t :: w :: r)) := by rw [e]; exact ⟨ht, hw, i64_rng _, i64_rng _⟩
  refine ⟨?_, hok⟩
  rw [e]
  unfold encK
  simp only
  rw [num8 (by rw [List.length_take]; omega) (isB_take hBr), num8 (by rw [List.length_take, List.length_drop]; omega) (isB_take (isB_drop hBr)), show t % 256 = t by omega, show w % 256 = w by omega]
  show t :: w :: r = ([t, w] ++ (r.take 8 ++ (r.drop 8).take 8)) ++ r.drop 16
  conv => lhs; rw [@ap3 r]
  simp
theorem decK_inv : ∀ {n : Nat} {b : List Int} {L : List Kc} {r : List Int}, isB b → decK n b = (L, 0, r) → b = L.flatMap encK ++ r ∧ L.length = n ∧ ∀ x ∈ L, okK x
 | 0, b, L, r, _, h => by
  simp only [decK, Prod.mk.injEq, true_and] at h
  obtain ⟨rfl, rfl⟩ := h
  exact ⟨rfl, rfl, fun x hx => nomatch hx⟩
 | n + 1, b, L, r, hB, h => by
  rw [decK] at h
  split at h
  ·simp at h
  ·rename_i hl
   split at h
   ·rename_i h2
    simp only [Prod.mk.injEq, true_and] at h
    obtain ⟨rfl, rfl⟩ := h
    obtain ⟨e1, e2⟩ := rowD_inv hB (by omega)
    obtain ⟨i1, i2, i3⟩ := decK_inv (isB_drop (n := 18) hB) (L := (decK n (b.drop 18)).1) (r := (decK n (b.drop 18)).2.2) (by rw [← h2])
    refine ⟨?_, by rw [List.length_cons, i2], fun x hx => ?_⟩
    ·rw [List.flatMap_cons, List.append_assoc, ← i1]
     exact e1
    ·rcases List.mem_cons.1 hx with rfl | hx
     ·exact e2
     ·exact i3 x hx
   ·simp at h
theorem u16_in {n : Nat} (h : n ≤ 65535) : IntKind.u16.wrap (n : Int) = (n : Int) := by
 simp [IntKind.wrap, IntKind.bits, IntKind.signed]; omega
def encTR (l : List Kc) : List Int × Int := if tabR l = true then (encT l, 0) else ([], 220)
theorem encT_len (l : List Kc) : (encT l).length = 2 + 18 * l.length := by unfold encT; rw [List.length_append, be_len, encKs_len]
theorem decT_any {b : List Int} (hB : isB b) : ((decT b).2 = 0 ∧ encTR (decT b).1 = (b, 0) ∧ (decT b).1.length ≤ 256 ∧ ∀ x ∈ (decT b).1, okK x) ∨ ((decT b).1 = [] ∧ ((decT b).2 = 7 ∨ (decT b).2 = 220)) := by
 unfold decT
 by_cases h2 : b.length < 2
 ·rw [if_pos h2]; exact .inr ⟨rfl, .inl rfl⟩
 ·rw [if_neg h2]
  have hn := numR_lt (n := 2) (l := b.take 2) (by rw [List.length_take]; omega) (isB_take hB)
  by_cases h3 : (decK (numR (b.take 2)).toNat (b.drop 2)).2.1 = 0
  ·rw [if_pos h3]
   by_cases h4 : tabR (decK (numR (b.take 2)).toNat (b.drop 2)).1 = true ∧ (decK (numR (b.take 2)).toNat (b.drop 2)).2.2 = []
   ·rw [if_pos h4]
    obtain ⟨e1, e2, e3⟩ := decK_inv (isB_drop (n := 2) hB) (L := (decK (numR (b.take 2)).toNat (b.drop 2)).1) (r := (decK (numR (b.take 2)).toNat (b.drop 2)).2.2) (by rw [← h3])
    rw [h4.2, List.append_nil] at e1
    refine .inl ⟨rfl, ?_, tab_len h4.1, e3⟩
    unfold encTR encT
    simp only
    rw [if_pos h4.1, e2, ← e1, Int.toNat_of_nonneg hn.1, show IntKind.u16.wrap (numR (b.take 2)) = numR (b.take 2) by (have := hn.2; simp [IntKind.wrap, IntKind.bits, IntKind.signed]; omega), be_numR (by rw [List.length_take]; omega) (isB_take hB), List.take_append_drop]
   ·rw [if_neg h4]; exact .inr ⟨rfl, .inr rfl⟩
  ·rw [if_neg h3]; exact .inr ⟨rfl, .inl rfl⟩
theorem kLt_trans {a b c d e f : Int} (h1 : kLt a b c d) (h2 : kLt c d e f) : kLt a b e f := by unfold kLt at *; omega
theorem kLt_irr {a b : Int} : ¬ kLt a b a b := by unfold kLt; omega
theorem kLt_asym {a b c d : Int} (h : kLt a b c d) : ¬ kLt c d a b := by unfold kLt at *; omega
theorem kLt_tri {a b c d : Int} : kLt a b c d ∨ (a = c ∧ b = d) ∨ kLt c d a b := by unfold kLt; omega
abbrev kLtK (x y : Kc) : Prop := kLt x.src x.key y.src y.key
theorem okT_pw : ∀ {l : List Kc} {p : Kc}, okT (some p) l = true → (∀ x ∈ l, kLtK p x) ∧ l.Pairwise kLtK
 | [], _, _ => ⟨(fun x hx => nomatch hx), List.Pairwise.nil⟩
 | y :: l, p, h => by
  simp only [okT, Bool.and_eq_true, decide_eq_true_eq] at h
  obtain ⟨h1, h2⟩ := okT_pw h.2
  refine ⟨fun x hx => ?_, List.Pairwise.cons h1 h2⟩
  rcases List.mem_cons.1 hx with rfl | hx
  ·exact h.1.2
  ·exact kLt_trans h.1.2 (h1 x hx)
theorem okT_of : ∀ {l : List Kc} {p : Kc}, (∀ x ∈ l, keyOk x.src x.key = true ∧ 0 < x.cnt) → (∀ x ∈ l, kLtK p x) → l.Pairwise kLtK → okT (some p) l = true
 | [], _, _, _, _ => rfl
 | y :: l, p, h, hp, hw => by
  rw [List.pairwise_cons] at hw
  simp only [okT, Bool.and_eq_true, decide_eq_true_eq]
  exact ⟨⟨h y (by simp), hp y (by simp)⟩, okT_of (fun x hx => h x (by simp [hx])) hw.1 hw.2⟩
theorem tab_iff {l : List Kc} : tabR l = true ↔ (∀ x ∈ l, keyOk x.src x.key = true ∧ 0 < x.cnt) ∧ l.Pairwise kLtK := by
 constructor
 ·intro h
  refine ⟨okT_all h, ?_⟩
  cases l with
  | nil => exact List.Pairwise.nil
  | cons y l =>
   unfold tabR at h
   simp only [okT, Bool.and_eq_true] at h
   exact List.Pairwise.cons (okT_pw h.2).1 (okT_pw h.2).2
 ·rintro ⟨h1, h2⟩
  cases l with
  | nil => rfl
  | cons y l =>
   rw [List.pairwise_cons] at h2
   unfold tabR
   simp only [okT, Bool.and_eq_true, decide_eq_true_eq]
   exact ⟨h1 y (by simp), okT_of (fun x hx => h1 x (by simp [hx])) h2.1 h2.2⟩
def ltK (s k : Int) (x : Kc) : Bool := decide (kLt x.src x.key s k)
def gtK (s k : Int) (x : Kc) : Bool := decide (kLt s k x.src x.key)
def eqK (s k : Int) (x : Kc) : Bool := decide (x.src = s ∧ x.key = k)
def ownK (s k : Int) (c : Int × Int) : List Kc := if c = (0, 0) then [] else [⟨s, k, c.1, c.2⟩]
def putR (l : List Kc) (s k : Int) (c : Int × Int) : List Kc := l.filter (ltK s k) ++ ownK s k c ++ l.filter (gtK s k)
def getR (l : List Kc) (s k : Int) : Int × Int := match l.find? (eqK s k) with
 | none => (0, 0)
 | some x => (x.cnt, x.sum)
theorem put_tab {l : List Kc} {s k : Int} {c : Int × Int} (h : tabR l = true) (hk : keyOk s k = true) (hc : c = (0, 0) ∨ 0 < c.1) : tabR (putR l s k c) = true := by
 rw [tab_iff] at h ⊢
 obtain ⟨h1, h2⟩ := h
 have hown : ∀ x ∈ ownK s k c, x.src = s ∧ x.key = k ∧ 0 < x.cnt := fun x hx => by
  unfold ownK at hx
  split at hx
  ·cases hx
  ·rename_i h0
   rw [List.mem_singleton.1 hx]
   exact ⟨rfl, rfl, hc.resolve_left h0⟩
 refine ⟨fun x hx => ?_, ?_⟩
 ·unfold putR at hx
  simp only [List.mem_append, List.mem_filter] at hx
  rcases hx with (hx | hx) | hx
  ·exact h1 x hx.1
  ·obtain ⟨e1, e2, e3⟩ := hown x hx
   rw [e1, e2]; exact ⟨hk, e3⟩
  ·exact h1 x hx.1
 ·unfold putR
  rw [List.pairwise_append, List.pairwise_append]
  refine ⟨⟨h2.filter _, ?_, fun x hx y hy => ?_⟩, h2.filter _, fun x hx y hy => ?_⟩
  ·unfold ownK; split
   ·exact List.Pairwise.nil
   ·exact List.pairwise_singleton _ _
  ·obtain ⟨e1, e2, _⟩ := hown y hy
   have := of_decide_eq_true (List.mem_filter.1 hx).2
   unfold kLtK; rw [e1, e2]; exact this
  ·have hy' := of_decide_eq_true (List.mem_filter.1 hy).2
   rcases List.mem_append.1 hx with hx | hx
   ·exact kLt_trans (of_decide_eq_true (List.mem_filter.1 hx).2) hy'
   ·obtain ⟨e1, e2, _⟩ := hown x hx
    unfold kLtK; rw [e1, e2]; exact hy'
def posR (l : List Kc) (s k : Int) : Nat := (l.filter (ltK s k)).length
theorem filter_none {α : Type} {p : α → Bool} {l : List α} (h : ∀ x ∈ l, p x = false) : l.filter p = [] := List.filter_eq_nil_iff.2 fun x hx => by simp [h x hx]
theorem filter_all {α : Type} {p : α → Bool} {l : List α} (h : ∀ x ∈ l, p x = true) : l.filter p = l := List.filter_eq_self.2 h
theorem cut_lt : ∀ {l : List Kc} {s k : Int}, l.Pairwise kLtK → l.filter (ltK s k) = l.take (posR l s k) ∧ l.filter (gtK s k) = l.drop (posR l s k + (l.filter (eqK s k)).length)
 | [], _, _, _ => ⟨rfl, rfl⟩
 | x :: l, s, k, h => by
  rw [List.pairwise_cons] at h
  obtain ⟨i1, i2⟩ := cut_lt (s := s) (k := k) h.2
  rcases @kLt_tri x.src x.key s k with h1 | ⟨h1, h2⟩ | h1
  ·have e1 : ltK s k x = true := decide_eq_true h1
   have e2 : gtK s k x = false := decide_eq_false (kLt_asym h1)
   have e3 : eqK s k x = false := decide_eq_false fun e => by rw [e.1, e.2] at h1; exact kLt_irr h1
   have hp : posR (x :: l) s k = posR l s k + 1 := by unfold posR; rw [List.filter_cons_of_pos e1]; rfl
   rw [hp, List.filter_cons_of_pos e1, List.filter_cons_of_neg (by simp [e2]), List.filter_cons_of_neg (by simp [e3]), List.take_succ_cons, i1, show posR l s k + 1 + (l.filter (eqK s k)).length = (posR l s k + (l.filter (eqK s k)).length) + 1 by omega, List.drop_succ_cons, i2]
   exact ⟨rfl, rfl⟩
  ·have hg : ∀ y ∈ l, kLt s k y.src y.key := fun y hy => by have := h.1 y hy; unfold kLtK at this; rw [h1, h2] at this; exact this
   have e1 : ltK s k x = false := decide_eq_false (by rw [h1, h2]; exact kLt_irr)
   have e2 : gtK s k x = false := decide_eq_false (by rw [h1, h2]; exact kLt_irr)
   have e3 : eqK s k x = true := decide_eq_true ⟨h1, h2⟩
   have f1 : l.filter (ltK s k) = [] := filter_none fun y hy => decide_eq_false (kLt_asym (hg y hy))
   have f2 : l.filter (gtK s k) = l := filter_all fun y hy => decide_eq_true (hg y hy)
   have f3 : l.filter (eqK s k) = [] := filter_none fun y hy => decide_eq_false fun e => by have := hg y hy; rw [e.1, e.2] at this; exact kLt_irr this
   have hp : posR (x :: l) s k = 0 := by unfold posR; rw [List.filter_cons_of_neg (by simp [e1]), f1]; rfl
   rw [hp, List.filter_cons_of_neg (by simp [e1]), List.filter_cons_of_neg (by simp [e2]), List.filter_cons_of_pos e3, f1, f2, f3]
   exact ⟨rfl, rfl⟩
  ·have hg : ∀ y ∈ l, kLt s k y.src y.key := fun y hy => kLt_trans h1 (h.1 y hy)
   have e1 : ltK s k x = false := decide_eq_false (kLt_asym h1)
   have e2 : gtK s k x = true := decide_eq_true h1
   have e3 : eqK s k x = false := decide_eq_false fun e => by rw [e.1, e.2] at h1; exact kLt_irr h1
   have f1 : l.filter (ltK s k) = [] := filter_none fun y hy => decide_eq_false (kLt_asym (hg y hy))
   have f2 : l.filter (gtK s k) = l := filter_all fun y hy => decide_eq_true (hg y hy)
   have f3 : l.filter (eqK s k) = [] := filter_none fun y hy => decide_eq_false fun e => by have := hg y hy; rw [e.1, e.2] at this; exact kLt_irr this
   have hp : posR (x :: l) s k = 0 := by unfold posR; rw [List.filter_cons_of_neg (by simp [e1]), f1]; rfl
   rw [hp, List.filter_cons_of_neg (by simp [e1]), List.filter_cons_of_pos e2, List.filter_cons_of_neg (by simp [e3]), f1, f2, f3]
   exact ⟨rfl, rfl⟩
theorem eq_at : ∀ {l : List Kc} {s k : Int}, l.Pairwise kLtK → (l.filter (eqK s k)).length ≤ 1 ∧ ((l.filter (eqK s k)).length = 1 ↔ ∃ x, l[posR l s k]? = some x ∧ x.src = s ∧ x.key = k)
 | [], _, _, _ => by simp
 | x :: l, s, k, h => by
  rw [List.pairwise_cons] at h
  obtain ⟨i1, i2⟩ := eq_at (s := s) (k := k) h.2
  rcases @kLt_tri x.src x.key s k with h1 | ⟨h1, h2⟩ | h1
  ·have e1 : ltK s k x = true := decide_eq_true h1
   have e3 : eqK s k x = false := decide_eq_false fun e => by rw [e.1, e.2] at h1; exact kLt_irr h1
   have hp : posR (x :: l) s k = posR l s k + 1 := by unfold posR; rw [List.filter_cons_of_pos e1]; rfl
   rw [hp, List.filter_cons_of_neg (by simp [e3]), List.getElem?_cons_succ]
   exact ⟨i1, i2⟩
  ·have hg : ∀ y ∈ l, kLt s k y.src y.key := fun y hy => by have := h.1 y hy; unfold kLtK at this; rw [h1, h2] at this; exact this
   have e1 : ltK s k x = false := decide_eq_false (by rw [h1, h2]; exact kLt_irr)
   have e3 : eqK s k x = true := decide_eq_true ⟨h1, h2⟩
   have f1 : l.filter (ltK s k) = [] := filter_none fun y hy => decide_eq_false (kLt_asym (hg y hy))
   have f3 : l.filter (eqK s k) = [] := filter_none fun y hy => decide_eq_false fun e => by have := hg y hy; rw [e.1, e.2] at this; exact kLt_irr this
   have hp : posR (x :: l) s k = 0 := by unfold posR; rw [List.filter_cons_of_neg (by simp [e1]), f1]; rfl
   rw [hp, List.filter_cons_of_pos e3, f3]
   exact ⟨Nat.le_refl _, fun _ => ⟨x, rfl, h1, h2⟩, fun _ => rfl⟩
  ·have hg : ∀ y ∈ l, kLt s k y.src y.key := fun y hy => kLt_trans h1 (h.1 y hy)
   have e1 : ltK s k x = false := decide_eq_false (kLt_asym h1)
   have e3 : eqK s k x = false := decide_eq_false fun e => by rw [e.1, e.2] at h1; exact kLt_irr h1
   have f1 : l.filter (ltK s k) = [] := filter_none fun y hy => decide_eq_false (kLt_asym (hg y hy))
   have f3 : l.filter (eqK s k) = [] := filter_none fun y hy => decide_eq_false fun e => by have := hg y hy; rw [e.1, e.2] at this; exact kLt_irr this
   have hp : posR (x :: l) s k = 0 := by unfold posR; rw [List.filter_cons_of_neg (by simp [e1]), f1]; rfl
   rw [hp, List.filter_cons_of_neg (by simp [e3]), f3]
   refine ⟨Nat.zero_le _, fun h => by simp at h, ?_⟩
   rintro ⟨y, hy, h2, h3⟩
   cases hy
   rw [h2, h3] at h1
   exact absurd h1 kLt_irr
theorem put_no {l : List Kc} {s k : Int} {c : Int × Int} (h : tabR l = true) (hn : ∀ x, l[posR l s k]? = some x → ¬ (x.src = s ∧ x.key = k)) : putR l s k c = l.take (posR l s k) ++ ownK s k c ++ l.drop (posR l s k) := by
 have hw := (tab_iff.1 h).2
 have h1 : (l.filter (eqK s k)).length = 0 := by
  have := (eq_at (s := s) (k := k) hw).1
  have h2 : ¬ (l.filter (eqK s k)).length = 1 := fun e => by
   obtain ⟨x, hx, he⟩ := ((eq_at hw).2).1 e
   exact hn x hx he
  omega
 unfold putR
 rw [(cut_lt hw).1, (cut_lt hw).2, h1, Nat.add_zero]
theorem cmp_lt {s k s2 k2 : Int} : decide (0 ≤ cmpR s k s2 k2) = !decide (kLt s k s2 k2) := by
 unfold cmpR cmpI kLt
 by_cases h1 : s < s2
 ·simp [h1]
 ·by_cases h2 : s2 < s
  ·have h3 : ¬ s = s2 := by omega
   simp [h1, h2, h3]
  ·have h3 : s = s2 := by omega
   by_cases h4 : k < k2
   ·simp [h3, h4]
   ·by_cases h5 : k2 < k
    ·simp [h3, h4, h5]
    ·simp [h3, h4, h5]
abbrev eK (x : Kc) : List RT := [RT.v (.int .i64 x.src), RT.v (.int .i64 x.key), RT.v (.int .i64 x.cnt), RT.v (.int .i64 x.sum)]
abbrev cK (x : Kc) : List Ce := [Ce.v (.int .i64 x.src), Ce.v (.int .i64 x.key), Ce.v (.int .i64 x.cnt), Ce.v (.int .i64 x.sum)]
def prevR (l : List Kc) : Nat → Option Kc
 | 0 => none
 | i + 1 => l[i]?
theorem okT_at {l : List Kc} {i : Nat} {x : Kc} (h : l[i]? = some x) : okT (prevR l i) (l.drop i) = (keyOk x.src x.key && decide (0 < x.cnt) && (match prevR l i with | none => true | some q => decide (kLt q.src q.key x.src x.key)) && okT (prevR l (i + 1)) (l.drop (i + 1))) := by
 rw [drop_cons h]
 have e : prevR l (i + 1) = some x := h
 rw [e]
 cases hp : prevR l i with
 | none => simp [okT]
 | some q => simp [okT]
end Tab
end Go.Proofs.YtopieffkpdlpbaaGreat
namespace Go.Proofs.YtopieffkpdlpbaaGreat
open Go Go.RowKit Wx
set_option maxHeartbeats 4000000
namespace Tab
theorem nan_con (a : Int)  : Con Tryz.prog 124 [.one (.v (.int .i64 a))] (fun rx rK rt => rx = .val (.bool false) ∧ rK = [] ∧ rt = 0) := by
 refine Z.con_ofF tabOk 6 Tryz.f124 _ Tryz.func124 (by kernel_rfl) rfl rfl rfl rfl ?_
 repeat' ((conv => whnf); first
  | with_reducible first | refine spB_t ?_
  | fail)
 all_goals (try (conv => whnf))
 all_goals first
  | ((first | (with_reducible apply Z.retF1)); (focus rfl); (repeat' (first | exact trivial | (with_reducible apply Z.frz_one) | (with_reducible apply Z.fq_bool) | apply And.intro)); (all_goals (try exact (fun _ => none))); all_goals (simp))
  | fail
theorem cmp_con (a b : Int)  : Con Tryz.prog 112 [.one (.v (.int .i64 a)), .one (.v (.int .i64 b))] (fun rx rK rt => rx = .val (.int .i64 (cmpI a b)) ∧ rK = [] ∧ rt = 0) := by
 refine Z.con_ofF tabOk 20 Tryz.f112 _ Tryz.func112 (by kernel_rfl) rfl rfl rfl rfl ?_
 repeat' ((conv => whnf); first
  | with_reducible first | refine spB_no (by decide) ?_
  | (with_reducible refine spB_dec ?_ ?_ <;> intro _ <;> (try (exfalso; first | contradiction | omega | (rename_i hz; with_reducible exact absurd rfl hz))))
  | ((first | (with_reducible apply Z.callZ_mk ?_ (nan_con _) ?_)); (rotate_left 1); (focus ((repeat' (first | exact trivial | exact rfl | apply And.intro)); done)))
  | fail)
 all_goals (try (conv => whnf))
 all_goals first
  | ((first | (with_reducible apply Z.retF1)); (focus rfl); (repeat' (first | exact trivial | (with_reducible apply Z.frz_one) | (with_reducible apply Z.fq_int) | apply And.intro)); (all_goals (try exact (fun _ => none))); all_goals (first | (unfold cmpI; first | rw [if_pos (by omega)] | rw [if_neg (by omega), if_pos (by omega)] | rw [if_neg (by omega), if_neg (by omega)])))
  | fail
theorem or_con (a b : Int)  : Con Tryz.prog 111 [.one (.ro false 1 [[.v (.int .i64 a)], [.v (.int .i64 b)]])] (fun rx rK rt => rx = .val (.int .i64 (if a ≠ 0 then a else b)) ∧ rK = [] ∧ rt = 0) := by
 refine Z.con_ofF tabOk 18 Tryz.f111 _ Tryz.func111 (by kernel_rfl) rfl rfl rfl rfl ?_
 repeat' ((conv => whnf); first
  | (with_reducible refine spB_dec ?_ ?_ <;> intro _ <;> (try (exfalso; first | contradiction | omega | (rename_i hz; refine hz ?_; simp; done) | (rename_i hz; simp at hz; done) | (simp only [LN] at *; omega))))
  | (with_reducible refine spB_bne ?_ ?_ <;> intro _ <;> (try (exfalso; first | contradiction | omega | (rename_i hz; refine hz ?_; simp; done) | (rename_i hz; simp at hz; done) | (simp only [LN] at *; omega))))
  | with_reducible first | refine Z.loopZ_unroll tabOk 3 ?_
  | ((with_reducible apply rowN_mk); (focus rfl))
  | ((with_reducible apply ixN_lit); (focus rfl); (focus rfl))
  | with_reducible refine wr_i64 (by first | omega | (simp only [LN] at *; omega)) ?_
  | fail)
 all_goals (try (conv => whnf))
 all_goals try first | (show Nat.ble _ _ = true; rfl) | (exfalso; rename_i hz; cases hz; done) | (exfalso; (try simp only [LN] at *) <;> omega)
 all_goals first
  | ((first | (with_reducible apply Z.retF1)); (focus rfl); (repeat' (first | exact trivial | (with_reducible apply Z.frz_one) | (with_reducible apply Z.fq_int) | (apply Z.fq_int) | apply And.intro)); (all_goals (try exact (fun _ => none))); all_goals (first | (simp_all; done)))
  | fail
theorem compare_con (s k v s2 k2 v2 : Int)  : Con Tryz.prog 96 [.agg [.v (.int .i64 s), .v (.int .i64 k), .v (.int .i64 v)], .agg [.v (.int .i64 s2), .v (.int .i64 k2), .v (.int .i64 v2)]] (fun rx rK rt => rx = .val (.int .i64 (cmpR s k s2 k2)) ∧ rK = [] ∧ rt = 0) := by
 refine Z.con_ofF tabOk 17 Tryz.f96 _ Tryz.func96 (by kernel_rfl) rfl rfl rfl rfl ?_
 repeat' ((conv => whnf); first
  | ((first | (with_reducible apply Z.conZ_mz ?_ (or_con _ _) ?_) | (with_reducible apply Z.conZ_mz ?_ (cmp_con _ _) ?_)); (rotate_left 2); (focus ((repeat' (first | exact trivial | exact ⟨_, rfl, rfl, rfl⟩ | exact rfl | apply And.intro)); done)))
  | with_reducible first | refine Z.drawZ_rule tabOk mixOk ?_ | refine Z.apZ_mk (by kernel_rfl) ?_
  | fail)
 all_goals (try (conv => whnf))
 all_goals first
  | ((first | (with_reducible apply Z.retF1)); (focus rfl); (repeat' (first | exact trivial | exact rfl | apply And.intro)); (all_goals (try exact (fun _ => none))); all_goals (rfl))
  | fail
theorem rec_con (s k v : Int)  : Con Tryz.prog 95 [.agg [.v (.int .i64 s), .v (.int .i64 k), .v (.int .i64 v)]] (fun rx rK rt => rx = .val (.int .i64 (bif keyOk s k then 0 else 150)) ∧ rK = [] ∧ rt = 0) := by
 refine Z.con_ofF tabOk 21 Tryz.f95 _ Tryz.func95 (by kernel_rfl) rfl rfl rfl rfl ?_
 repeat' ((conv => whnf); first
  | with_reducible first | refine spB_t ?_
  | with_reducible first | refine spB_no (by decide) ?_
  | (with_reducible refine spB_dec ?_ ?_ <;> intro _ <;> (try (exfalso; first | contradiction | omega | (rename_i hz; refine hz ?_; simp; done) | (rename_i hz; simp at hz; done) | (simp only [LN] at *; omega))))
  | fail)
 all_goals (try (conv => whnf))
 all_goals try first | (show Nat.ble _ _ = true; rfl) | (exfalso; rename_i hz; cases hz; done) | (exfalso; (try simp only [LN] at *) <;> omega)
 all_goals first
  | ((first | (with_reducible apply Z.retF1)); (focus rfl); (repeat' (first | exact trivial | (with_reducible apply Z.frz_one) | (with_reducible apply Z.fq_int) | apply And.intro)); (all_goals (try exact (fun _ => none))); all_goals (first | (rw [show keyOk s k = true from keyOk_iff.2 (by omega)]; rfl) | (rw [show keyOk s k = false by (cases hz : keyOk s k with | false => rfl | true => exact absurd (keyOk_iff.1 hz) (by omega))]; rfl)))
  | fail
theorem rrec_con (s k v : Int)  : Con Tryz.prog 57 [.agg [.v (.int .i64 s), .v (.int .i64 k), .v (.int .i64 v)]] (fun rx rK rt => rx = .val (.bool (keyOk s k)) ∧ rK = [] ∧ rt = 0) := by
 refine Z.con_ofF tabOk 21 Tryz.f57 _ Tryz.func57 (by kernel_rfl) rfl rfl rfl rfl ?_
 repeat' ((conv => whnf); first
  | with_reducible first | refine spB_t ?_
  | with_reducible first | refine spB_no (by decide) ?_
  | (with_reducible refine spB_dec ?_ ?_ <;> intro _ <;> (try (exfalso; first | contradiction | omega | (rename_i hz; refine hz ?_; simp; done) | (rename_i hz; simp at hz; done) | (simp only [LN] at *; omega))))
  | fail)
 all_goals (try (conv => whnf))
 all_goals try first | (show Nat.ble _ _ = true; rfl) | (exfalso; rename_i hz; cases hz; done) | (exfalso; (try simp only [LN] at *) <;> omega)
 all_goals first
  | ((first | (with_reducible apply Z.retF1)); (focus rfl); (repeat' (first | exact trivial | (with_reducible apply Z.frz_one) | (with_reducible apply Z.fq_bool) | apply And.intro)); (all_goals (try exact (fun _ => none))); all_goals (first | (unfold keyOk; exact decide_eq_decide.2 (by omega)) | (rw [show keyOk s k = false by (cases hz : keyOk s k with | false => rfl | true => exact absurd (keyOk_iff.1 hz) (by omega))])))
  | fail
theorem rcompare_con (s k v s2 k2 v2 : Int)  : Con Tryz.prog 59 [.agg [.v (.int .i64 s), .v (.int .i64 k), .v (.int .i64 v)], .agg [.v (.int .i64 s2), .v (.int .i64 k2), .v (.int .i64 v2)]] (fun rx rK rt => rx = .val (.int .i64 (cmpR s k s2 k2)) ∧ rK = [] ∧ rt = 0) := by
 refine Z.con_ofF tabOk 36 Tryz.f59 _ Tryz.func59 (by kernel_rfl) rfl rfl rfl rfl ?_
 repeat' ((conv => whnf); first
  | with_reducible first | refine spB_t ?_
  | with_reducible first | refine spB_no (by decide) ?_
  | (with_reducible refine spB_dec ?_ ?_ <;> intro _ <;> (try (exfalso; first | contradiction | omega | (rename_i hz; refine hz ?_; simp; done) | (rename_i hz; simp at hz; done) | (simp only [LN] at *; omega))))
  | (with_reducible refine spB_beq ?_ ?_ <;> intro _ <;> (try (exfalso; first | contradiction | omega | (rename_i hz; refine hz ?_; simp; done) | (rename_i hz; simp at hz; done) | (simp only [LN] at *; omega))))
  | fail)
 all_goals (try (conv => whnf))
 all_goals try first | (show Nat.ble _ _ = true; rfl) | (exfalso; rename_i hz; cases hz; done) | (exfalso; (try simp only [LN] at *) <;> omega)
 all_goals first
  | ((first | (with_reducible apply Z.retF1)); (focus rfl); (repeat' (first | exact trivial | (with_reducible apply Z.frz_one) | (with_reducible apply Z.fq_int) | apply And.intro)); (all_goals (try exact (fun _ => none))); all_goals ((unfold cmpR cmpI; repeat' split) <;> first | rfl | omega))
  | fail
end Tab
end Go.Proofs.YtopieffkpdlpbaaGreat
namespace Go.Proofs.YtopieffkpdlpbaaGreat
open Go Go.RowKit Wx
set_option maxHeartbeats 4000000
namespace Tab
def thereR (l : List Kc) (s k : Int) : Bool := match l[posR l s k]? with
 | none => false
 | some x => x.src == s && x.key == k
end Tab
end Go.Proofs.YtopieffkpdlpbaaGreat
namespace Go.Proofs.YtopieffkpdlpbaaGreat
open Go Go.RowKit Wx
set_option maxHeartbeats 4000000
namespace Tab
end Tab
end Go.Proofs.YtopieffkpdlpbaaGreat
namespace Go.Proofs.YtopieffkpdlpbaaGreat
open Go Go.RowKit Wx
set_option maxHeartbeats 4000000
namespace Tab
theorem check_con (l : List Kc) (hl : l.length ≤ 9223372036854775807) : Con Tryz.prog 69 [.agg [.ro false 4 (l.map eK)]] (fun rx rK rt => rx = .val (.int .i64 (bif tabR l then 0 else 220)) ∧ rK = [] ∧ rt = 0) := by
 refine Z.con_ofF tabOk 42 Tryz.f69 _ Tryz.func69 (by kernel_rfl) rfl rfl rfl rfl ?_
 repeat' ((conv => whnf); first
  | with_reducible first | refine spB_t ?_
  | fail)
 all_goals (try (conv => whnf))
 all_goals try first | (show Nat.ble _ _ = true; rfl) | (exfalso; rename_i hz; cases hz; done) | (exfalso; (try simp only [LN] at *) <;> omega)
 refine Z.loopK tabOk (fun zq : Nat => [(9, .val (.int .i64 (zq : Int)))]) (fun zq : Nat => ([(0, some (Z.Ob.b ⟨[[.ro false 4 (l.map eK)]], 1, 30, true⟩))] : Z.Kr)) (fun zq => zq ≤ l.length ∧ tabR l = okT (prevR l zq) (l.drop zq)) (fun zq => l.length - zq) 0 1 [(1, _), (7, _), (8, _)] ⟨rfl, rfl, rfl, trivial⟩ [] trivial ?_ ?_ rfl rfl ⟨Nat.zero_le _, rfl⟩ ?_
 ·repeat' (first | exact trivial | apply And.intro | exact ⟨_, rfl, Z.Imp.refl _⟩)
 ·repeat' (first | exact trivial | exact (fun b hb => ⟨b, hb, Z.ImpO.refl b⟩) | apply And.intro)
 rintro i HINV
 (try dsimp only at HINV); (try dsimp only)
 obtain ⟨HI, HT⟩ := HINV
 by_cases hi : i < l.length
 ·obtain ⟨x, hx⟩ := getElem?_some' (xs := l) (i := i) hi
  rw [okT_at hx] at HT
  have ck := rec_con x.src x.key 0
  cases hk : keyOk x.src x.key
  ·rw [hk] at ck HT
   simp only [Bool.false_and, cond_false] at ck HT
   rw [HT]
   try simp only [cond_false]
   repeat' ((conv => whnf); first
    | with_reducible first | refine spB_t ?_
    | ((with_reducible apply spB_cong); (focus (simp only [splQ, Int.reduceBEq, Int.reduceBNe]; rfl)))
    | (with_reducible refine spB_dec ?_ ?_ <;> intro _ <;> (try (exfalso; first | contradiction | omega | (rename_i hz; refine hz ?_; simp; done) | (rename_i hz; simp at hz; done) | (simp only [LN] at *; omega))))
    | with_reducible first | refine Z.rowN_known hx ?_
    | ((with_reducible apply ixN_litp); (focus rfl); (focus ((try simp only [LN] at *) <;> omega)))
    | with_reducible first | refine Z.callZ_in tabOk 8 Tryz.f94 _ Tryz.func94 (by kernel_rfl) rfl rfl rfl ?_
    | ((first | (with_reducible refine Z.conZ_mz ?_ (ck) ?_)); (focus ((repeat' (first | exact trivial | exact rfl | apply And.intro)); done)))
    | ((with_reducible apply ex_and); exact rfl)
    | with_reducible first | refine Z.drawZ_rule tabOk mixOk ?_ | refine Z.apZ_mk (by kernel_rfl) ?_
    | fail)
   all_goals (try (conv => whnf))
   all_goals try first | (show Nat.ble _ _ = true; rfl) | (exfalso; rename_i hz; cases hz; done) | (exfalso; (try simp only [LN] at *) <;> omega)
   all_goals first
    | ((first | (with_reducible apply Z.retF1)); (focus rfl); (repeat' (first | exact trivial | (with_reducible apply Z.frz_one) | (with_reducible apply Z.fq_int) | exact rfl | apply And.intro)); (all_goals (try exact (fun _ => none))); all_goals (first | (simp; done)))
    | fail
  rw [hk] at ck HT
  simp only [Bool.true_and, cond_true] at ck HT
  by_cases hc : 0 < x.cnt
  rotate_left
  ·rw [decide_eq_false hc, Bool.false_and, Bool.false_and] at HT
   rw [HT]
   try simp only [cond_false]
   repeat' ((conv => whnf); first
    | with_reducible first | refine spB_t ?_
    | ((with_reducible apply spB_cong); (focus (simp only [splQ, Int.reduceBEq, Int.reduceBNe]; rfl)))
    | with_reducible first | refine spB_no (by decide) ?_
    | (with_reducible refine spB_dec ?_ ?_ <;> intro _ <;> (try (exfalso; first | contradiction | omega | (rename_i hz; refine hz ?_; simp; done) | (rename_i hz; simp at hz; done) | (simp only [LN] at *; omega))))
    | with_reducible first | refine Z.rowN_known hx ?_
    | ((with_reducible apply ixN_litp); (focus rfl); (focus ((try simp only [LN] at *) <;> omega)))
    | with_reducible first | refine Z.callZ_in tabOk 8 Tryz.f94 _ Tryz.func94 (by kernel_rfl) rfl rfl rfl ?_
    | ((first | (with_reducible refine Z.conZ_mz ?_ (ck) ?_)); (focus ((repeat' (first | exact trivial | exact rfl | apply And.intro)); done)))
    | ((with_reducible apply ex_and); exact rfl)
    | with_reducible first | refine Z.drawZ_rule tabOk mixOk ?_ | refine Z.apZ_mk (by kernel_rfl) ?_
    | fail)
   all_goals (try (conv => whnf))
   all_goals try first | (show Nat.ble _ _ = true; rfl) | (exfalso; rename_i hz; cases hz; done) | (exfalso; (try simp only [LN] at *) <;> omega)
   all_goals first
    | ((first | (with_reducible apply Z.retF1)); (focus rfl); (repeat' (first | exact trivial | (with_reducible apply Z.frz_one) | (with_reducible apply Z.fq_int) | exact rfl | apply And.intro)); (all_goals (try exact (fun _ => none))); all_goals (first | (simp; done)))
    | fail
  rw [decide_eq_true hc, Bool.true_and] at HT
  rcases i with _ | j
  ·have HT2 : tabR l = okT (prevR l 1) (l.drop 1) := by rw [HT]; rfl
   repeat' ((conv => whnf); first
    | ((with_reducible apply spB_cong); (focus (simp only [splQ, Int.reduceBEq, Int.reduceBNe]; rfl)))
    | with_reducible first | refine spB_no (by decide) ?_
    | (with_reducible refine spB_dec ?_ ?_ <;> intro _ <;> (try (exfalso; first | contradiction | omega | (rename_i hz; refine hz ?_; simp; done) | (rename_i hz; simp at hz; done) | (simp only [LN] at *; omega))))
    | with_reducible first | refine Z.rowN_known hx ?_
    | ((with_reducible apply ixN_litp); (focus rfl); (focus ((try simp only [LN] at *) <;> omega)))
    | with_reducible refine wr_i64 (by first | omega | (simp only [LN] at *; omega)) ?_
    | with_reducible first | refine Z.callZ_in tabOk 8 Tryz.f94 _ Tryz.func94 (by kernel_rfl) rfl rfl rfl ?_
    | ((first | (with_reducible refine Z.conZ_mz ?_ (ck) ?_)); (focus ((repeat' (first | exact trivial | exact rfl | apply And.intro)); done)))
    | ((with_reducible apply ex_and); exact rfl)
    | with_reducible first | refine Z.drawZ_rule tabOk mixOk ?_ | refine Z.apZ_mk (by kernel_rfl) ?_
    | fail)
   all_goals (try (conv => whnf))
   all_goals try first | (show Nat.ble _ _ = true; rfl) | (exfalso; rename_i hz; cases hz; done) | (exfalso; (try simp only [LN] at *) <;> omega)
   all_goals first
    | ((refine Z.rndK (1) (fun s => [0]) rfl rfl rfl rfl ?_ ?_ ?_ ?_); (focus (repeat' (first | exact trivial | exact rfl | apply And.intro))); (focus (repeat' (first | exact trivial | (intro b hb; cases hb; rfl) | apply And.intro))); (focus (exact ⟨by (try dsimp only); omega, HT2⟩)); ((try dsimp only); omega))
    | fail
  obtain ⟨q, hq⟩ := getElem?_some' (xs := l) (i := j) (by omega)
  have hpr : prevR l (j + 1) = some q := hq
  rw [hpr] at HT
  simp only at HT
  have cc := compare_con q.src q.key 0 x.src x.key 0
  have hcl := @cmp_lt q.src q.key x.src x.key
  generalize cmpR q.src q.key x.src x.key = C at *
  by_cases hlt : kLt q.src q.key x.src x.key
  ·rw [decide_eq_true hlt] at HT hcl
   have hC : ¬ 0 ≤ C := of_decide_eq_false (by simpa using hcl)
   rw [Bool.true_and] at HT
   repeat' ((conv => whnf); first
    | with_reducible first | refine spB_t ?_
    | ((with_reducible apply spB_cong); (focus (simp only [splQ, Int.reduceBEq, Int.reduceBNe]; rfl)))
    | with_reducible first | refine spB_no (by decide) ?_
    | (with_reducible refine spB_dec ?_ ?_ <;> intro _ <;> (try (exfalso; first | contradiction | omega | (rename_i hz; refine hz ?_; simp; done) | (rename_i hz; simp at hz; done) | (simp only [LN] at *; omega))))
    | with_reducible first | refine Z.rowN_known hx ?_ | refine Z.rowN_known hq ?_
    | ((with_reducible refine ixN_mk (j) ?_ ?_ ?_); (focus (first | ((try simp only [LN] at *) <;> omega))); (focus ((try simp only [LN] at *) <;> omega)))
    | ((with_reducible apply ixN_litp); (focus rfl); (focus ((try simp only [LN] at *) <;> omega)))
    | with_reducible refine wr_i64 (by first | omega | (simp only [LN] at *; omega)) ?_
    | with_reducible first | refine Z.callZ_in tabOk 8 Tryz.f94 _ Tryz.func94 (by kernel_rfl) rfl rfl rfl ?_
    | ((first | (with_reducible refine Z.conZ_mz ?_ (ck) ?_) | (with_reducible refine Z.conZ_mz ?_ (cc) ?_)); (focus ((repeat' (first | exact trivial | exact rfl | apply And.intro)); done)))
    | ((with_reducible apply ex_and); exact rfl)
    | with_reducible first | refine Z.drawZ_rule tabOk mixOk ?_ | refine Z.apZ_mk (by kernel_rfl) ?_
    | ((with_reducible refine Z.ConZ.red ?_); (try subst hlb); (apply Z.conZ_all); (focus (repeat (first | exact Z.FK.nil | (apply Z.FK.keep; exact rfl)))); (focus rfl); (focus rfl); (focus (repeat (first | exact trivial | (refine ⟨(fun o ho => (by first | (cases ho; rfl) | (cases ho; exact Z.inL_map fun _ => rfl) | (cases ho; exact Z.inL_mapr fun _ => rfl) | exact Z.inL_gB ho fun _ => rfl)), ?_⟩)))))
    | ((refine ⟨rfl, ?_, rfl⟩); (focus (repeat (first | exact Z.DK.nil | apply Z.DK.cons))))
    | fail)
   all_goals (try (conv => whnf))
   all_goals try first | (show Nat.ble _ _ = true; rfl) | (exfalso; rename_i hz; cases hz; done) | (exfalso; (try simp only [LN] at *) <;> omega)
   all_goals first
    | ((refine Z.rndK ((j + 1 + 1)) (fun s => [0]) rfl rfl rfl rfl ?_ ?_ ?_ ?_); (focus (repeat' (first | exact trivial | exact rfl | apply And.intro))); (focus (repeat' (first | exact trivial | (intro b hb; cases hb; rfl) | apply And.intro))); (focus (exact ⟨by (try dsimp only); omega, HT⟩)); ((try dsimp only); omega))
    | fail
  ·rw [decide_eq_false hlt] at HT hcl
   have hC : 0 ≤ C := of_decide_eq_true (by simpa using hcl)
   rw [Bool.false_and] at HT
   rw [HT]
   try simp only [cond_false]
   repeat' ((conv => whnf); first
    | with_reducible first | refine spB_t ?_
    | ((with_reducible apply spB_cong); (focus (simp only [splQ, Int.reduceBEq, Int.reduceBNe]; rfl)))
    | with_reducible first | refine spB_no (by decide) ?_
    | (with_reducible refine spB_dec ?_ ?_ <;> intro _ <;> (try (exfalso; first | contradiction | omega | (rename_i hz; refine hz ?_; simp; done) | (rename_i hz; simp at hz; done) | (simp only [LN] at *; omega))))
    | with_reducible first | refine Z.rowN_known hx ?_ | refine Z.rowN_known hq ?_
    | ((with_reducible refine ixN_mk (j) ?_ ?_ ?_); (focus (first | ((try simp only [LN] at *) <;> omega))); (focus ((try simp only [LN] at *) <;> omega)))
    | ((with_reducible apply ixN_litp); (focus rfl); (focus ((try simp only [LN] at *) <;> omega)))
    | with_reducible refine wr_i64 (by first | omega | (simp only [LN] at *; omega)) ?_
    | with_reducible first | refine Z.callZ_in tabOk 8 Tryz.f94 _ Tryz.func94 (by kernel_rfl) rfl rfl rfl ?_
    | ((first | (with_reducible refine Z.conZ_mz ?_ (ck) ?_) | (with_reducible refine Z.conZ_mz ?_ (cc) ?_)); (focus ((repeat' (first | exact trivial | exact rfl | apply And.intro)); done)))
    | ((with_reducible apply ex_and); exact rfl)
    | with_reducible first | refine Z.drawZ_rule tabOk mixOk ?_ | refine Z.apZ_mk (by kernel_rfl) ?_
    | ((with_reducible refine Z.ConZ.red ?_); (try subst hlb); (apply Z.conZ_all); (focus (repeat (first | exact Z.FK.nil | (apply Z.FK.keep; exact rfl)))); (focus rfl); (focus rfl); (focus (repeat (first | exact trivial | (refine ⟨(fun o ho => (by first | (cases ho; rfl) | (cases ho; exact Z.inL_map fun _ => rfl) | (cases ho; exact Z.inL_mapr fun _ => rfl) | exact Z.inL_gB ho fun _ => rfl)), ?_⟩)))))
    | ((refine ⟨rfl, ?_, rfl⟩); (focus (repeat (first | exact Z.DK.nil | apply Z.DK.cons))))
    | fail)
   all_goals (try (conv => whnf))
   all_goals try first | (show Nat.ble _ _ = true; rfl) | (exfalso; rename_i hz; cases hz; done) | (exfalso; (try simp only [LN] at *) <;> omega)
   all_goals first
    | ((first | (with_reducible apply Z.retF1)); (focus rfl); (repeat' (first | exact trivial | (with_reducible apply Z.frz_one) | (with_reducible apply Z.fq_int) | exact rfl | apply And.intro)); (all_goals (try exact (fun _ => none))); all_goals (first | (simp; done)))
    | fail
 have hil : i = l.length := by omega
 subst hil
 rw [List.drop_length] at HT
 have HT3 : tabR l = true := by rw [HT]; cases prevR l l.length <;> rfl
 rw [HT3]
 try simp only [cond_true]
 repeat' ((conv => whnf); first
  | (with_reducible refine spB_dec ?_ ?_ <;> intro _ <;> (try (exfalso; first | contradiction | omega | (rename_i hz; refine hz ?_; simp; done) | (rename_i hz; simp at hz; done) | (simp only [LN] at *; omega))))
  | fail)
 all_goals (try (conv => whnf))
 all_goals try first | (show Nat.ble _ _ = true; rfl) | (exfalso; rename_i hz; cases hz; done) | (exfalso; (try simp only [LN] at *) <;> omega)
 all_goals first
  | ((first | (with_reducible apply Z.retF1)); (focus rfl); (repeat' (first | exact trivial | (with_reducible apply Z.frz_one) | (with_reducible apply Z.fq_int) | exact rfl | apply And.intro)); (all_goals (try exact (fun _ => none))); all_goals (first | (simp; done)))
  | fail
end Tab
end Go.Proofs.YtopieffkpdlpbaaGreat
namespace Go.Proofs.YtopieffkpdlpbaaGreat
open Go Go.RowKit Wx
set_option maxHeartbeats 4000000
namespace Tab
theorem there_no {l : List Kc} {s k : Int} (h : thereR l s k = false) : ∀ x, l[posR l s k]? = some x → ¬ (x.src = s ∧ x.key = k) := fun x hx he => by
 unfold thereR at h
 rw [hx] at h
 simp [he.1, he.2] at h
theorem there_at {l : List Kc} {s k : Int} (h : thereR l s k = true) : ∃ x, l[posR l s k]? = some x ∧ x.src = s ∧ x.key = k := by
 unfold thereR at h
 cases hx : l[posR l s k]? with
 | none => rw [hx] at h; cases h
 | some x => rw [hx] at h; exact ⟨x, rfl, by simpa using h⟩
theorem put_new {l : List Kc} {s k : Int} {c : Int × Int} (ht : tabR l = true) (hth : thereR l s k = false) (hc : 0 < c.1) : putR l s k c = l.take (posR l s k) ++ ⟨s, k, c.1, c.2⟩ :: l.drop (posR l s k) := by
 rw [put_no ht (there_no hth)]
 unfold ownK
 rw [if_neg (fun e => by rw [e] at hc; exact absurd hc (by decide))]; simp
end Tab
end Go.Proofs.YtopieffkpdlpbaaGreat
namespace Go.Proofs
open Go.Shelf
def Tryz.sortK_ren : Go.Shelf.Ren := ⟨fun | 6 => 108 | 15 => 122 | 14 => 121 | 28 => 139 | 29 => 140 | 20 => 131 | 21 => 132 | 22 => 133 | 23 => 134 | 24 => 135 | 25 => 136 | 26 => 137 | 27 => 138 | 46 => 145 | 47 => 146 | 48 => 147 | 49 => 148 | 50 => 149 | 57 => 159 | n => n, fun | 22 => 28 | 24 => 55 | 25 => 155 | 3 => 3 | 39 => 125 | 0 => 0 | 53 => 78 | 55 => 81 | 4 => 4 | 46 => 172 | 45 => 171 | 50 => 176 | 5 => 5 | 9 => 9 | 66 => 182 | 70 => 185 | 76 => 192 | 77 => 193 | n => n, fun | n => n⟩
theorem Tryz.sortK : Go.Proofs.SlLaysF0.n6 Tryz.prog Tryz.sortK_ren := {
 mixed := by kernel_rfl
 f6 := ⟨Tryz.f108.name, by decide, Tryz.func108.trans (congrArg some (by kernel_rfl))⟩
 f14 := ⟨Tryz.f121.name, by decide, Tryz.func121.trans (congrArg some (by kernel_rfl))⟩
 f15 := Tryz.func122.trans (congrArg some (by kernel_rfl))
 f20 := ⟨Tryz.f131.name, by decide, Tryz.func131.trans (congrArg some (by kernel_rfl))⟩
 f21 := ⟨Tryz.f132.name, by decide, Tryz.func132.trans (congrArg some (by kernel_rfl))⟩
 f22 := ⟨Tryz.f133.name, by decide, Tryz.func133.trans (congrArg some (by kernel_rfl))⟩
 f23 := ⟨Tryz.f134.name, by decide, Tryz.func134.trans (congrArg some (by kernel_rfl))⟩
 f24 := ⟨Tryz.f135.name, by decide, Tryz.func135.trans (congrArg some (by kernel_rfl))⟩
 f25 := ⟨Tryz.f136.name, by decide, Tryz.func136.trans (congrArg some (by kernel_rfl))⟩
 f26 := ⟨Tryz.f137.name, by decide, Tryz.func137.trans (congrArg some (by kernel_rfl))⟩
 f27 := ⟨Tryz.f138.name, by decide, Tryz.func138.trans (congrArg some (by kernel_rfl))⟩
 f28 := Tryz.func139.trans (congrArg some (by kernel_rfl))
 f29 := Tryz.func140.trans (congrArg some (by kernel_rfl))
 f46 := ⟨Tryz.f145.name, by decide, Tryz.func145.trans (congrArg some (by kernel_rfl))⟩
 f47 := Tryz.func146.trans (congrArg some (by kernel_rfl))
 f48 := Tryz.func147.trans (congrArg some (by kernel_rfl))
 f49 := ⟨Tryz.f148.name, by decide, Tryz.func148.trans (congrArg some (by kernel_rfl))⟩
 f50 := ⟨Tryz.f149.name, by decide, Tryz.func149.trans (congrArg some (by kernel_rfl))⟩
 f57 := ⟨Tryz.f159.name, by decide, Tryz.func159.trans (congrArg some (by kernel_rfl))⟩
 t0 := Tryz.underlying0
 a0 := Tryz.isAgg0
 z0 := Tryz.sizeOf0
 v0 := Tryz.zeroValue0
 t3 := Tryz.underlying3
 a3 := Tryz.isAgg3
 z3 := Tryz.sizeOf3
 v3 := Tryz.zeroValue3
 t4 := Tryz.underlying4
 a4 := Tryz.isAgg4
 z4 := Tryz.sizeOf4
 v4 := Tryz.zeroValue4
 t5 := Tryz.underlying5
 a5 := Tryz.isAgg5
 z5 := Tryz.sizeOf5
 v5 := Tryz.zeroValue5
 t9 := Tryz.underlying9
 a9 := Tryz.isAgg9
 z9 := Tryz.sizeOf9
 v9 := Tryz.zeroValue9
 t22 := Tryz.underlying28
 a22 := Tryz.isAgg28
 z22 := Tryz.sizeOf28
 v22 := Tryz.zeroValue28
 t25 := Tryz.underlying155
 a25 := Tryz.isAgg155
 z25 := Tryz.sizeOf155
 v25 := Tryz.zeroValue155
 t39 := Tryz.underlying125
 a39 := Tryz.isAgg125
 z39 := Tryz.sizeOf125
 v39 := Tryz.zeroValue125
 t45 := Tryz.underlying171
 a45 := Tryz.isAgg171
 z45 := Tryz.sizeOf171
 v45 := Tryz.zeroValue171
 t46 := Tryz.underlying172
 a46 := Tryz.isAgg172
 z46 := Tryz.sizeOf172
 v46 := Tryz.zeroValue172
 t50 := Tryz.underlying176
 a50 := Tryz.isAgg176
 z50 := Tryz.sizeOf176
 v50 := Tryz.zeroValue176
 t53 := Tryz.underlying78
 a53 := Tryz.isAgg78
 z53 := Tryz.sizeOf78
 v53 := Tryz.zeroValue78
 t55 := Tryz.underlying81
 a55 := Tryz.isAgg81
 z55 := Tryz.sizeOf81
 v55 := Tryz.zeroValue81
 t66 := Tryz.underlying182
 a66 := Tryz.isAgg182
 z66 := Tryz.sizeOf182
 v66 := Tryz.zeroValue182
 t70 := Tryz.underlying185
 a70 := Tryz.isAgg185
 z70 := Tryz.sizeOf185
 v70 := Tryz.zeroValue185
 t76 := Tryz.underlying192
 a76 := Tryz.isAgg192
 z76 := Tryz.sizeOf192
 v76 := Tryz.zeroValue192
 t77 := Tryz.underlying193
 a77 := Tryz.isAgg193
 z77 := Tryz.sizeOf193
 v77 := Tryz.zeroValue193 }
end Go.Proofs
namespace Go.Proofs.YtopieffkpdlpbaaGreat
open Go Go.RowKit Wx
set_option maxHeartbeats 4000000
namespace Tab
abbrev ev (x : Kc) : List Value := [.int .i64 x.src, .int .i64 x.key, .int .i64 x.cnt, .int .i64 x.sum]
instance : Inhabited Kc := ⟨⟨0, 0, 0, 0⟩⟩
def cfK (x y : Kc) : Int := cmpR x.src x.key y.src y.key
theorem cfK_lt (x y : Kc) : ltOf cfK x y = decide (kLtK x y) := by
 have h := @cmp_lt x.src x.key y.src y.key
 unfold ltOf cfK
 by_cases h1 : cmpR x.src x.key y.src y.key < 0
 ·rw [show decide (0 ≤ cmpR x.src x.key y.src y.key) = false by simpa using h1] at h
  have h2 : decide (kLtK x y) = true := by simpa using h.symm
  rw [h2]; simpa using h1
 ·rw [show decide (0 ≤ cmpR x.src x.key y.src y.key) = true by simp; omega] at h
  have h2 : decide (kLtK x y) = false := by simpa using h.symm
  rw [h2]; simpa using h1
theorem cfK_swo : Go.Sort.SWO (ltOf cfK) := {
 irrefl := fun x => by rw [cfK_lt]; simpa using kLt_irr
 trans := fun x y z h1 h2 => by
  rw [cfK_lt] at *
  exact decide_eq_true (kLt_trans (of_decide_eq_true h1) (of_decide_eq_true h2))
 ntrans := fun x y z h1 h2 => by
  rw [cfK_lt] at *
  have h1 := of_decide_eq_false h1
  have h2 := of_decide_eq_false h2
  refine decide_eq_false ?_
  unfold kLtK kLt at *
  omega }
abbrev neK (x y : Kc) : Prop := ¬ (x.src = y.src ∧ x.key = y.key)
def mrg (a b : List Kc) : List Kc := b.foldl (fun o x => putR o x.src x.key (x.cnt, x.sum)) a
def comm (a b : List Kc) : Bool := b.any fun x => decide (getR a x.src x.key ≠ (0, 0))
def joinT (a b : List Kc) : List Kc × Int := if tabR a = false ∨ tabR b = false then ([], 220) else if comm a b = true then ([], 5) else (mrg a b, 0)
theorem get_in {l : List Kc} (h : ∀ x ∈ l, 0 < x.cnt) {s k : Int} : getR l s k ≠ (0, 0) ↔ ∃ y ∈ l, y.src = s ∧ y.key = k := by
 unfold getR
 cases hx : l.find? (eqK s k) with
 | some x =>
  have h2 := List.find?_some hx
  unfold eqK at h2
  have h3 := h x (List.mem_of_find?_eq_some hx)
  refine ⟨fun _ => ⟨x, List.mem_of_find?_eq_some hx, of_decide_eq_true h2⟩, fun _ h9 => ?_⟩
  simp only [Prod.mk.injEq] at h9
  omega
 | none =>
  refine ⟨fun h1 => absurd rfl h1, ?_⟩
  rintro ⟨y, hy, he⟩
  have := List.find?_eq_none.1 hx y hy
  unfold eqK at this
  exact absurd (decide_eq_true he) this
theorem comm_no {a b : List Kc} (ha : tabR a = true) : comm a b = false ↔ ∀ x ∈ a, ∀ y ∈ b, neK x y := by
 have hp : ∀ x ∈ a, 0 < x.cnt := fun x hx => ((tab_iff.1 ha).1 x hx).2
 unfold comm
 rw [List.any_eq_false]
 constructor
 ·intro h x hx y hy he
  exact h y hy (decide_eq_true ((get_in hp).2 ⟨x, hx, he⟩))
 ·intro h y hy h1
  obtain ⟨x, hx, he⟩ := (get_in hp).1 (of_decide_eq_true h1)
  exact h x hx y hy he
theorem same_pw : ∀ {l m : List Kc}, l.Pairwise kLtK → m.Pairwise kLtK → (∀ x, x ∈ l ↔ x ∈ m) → l = m
 | [], [], _, _, _ => rfl
 | [], y :: m, _, _, h => absurd ((h y).2 (by simp)) (by simp)
 | x :: l, [], _, _, h => absurd ((h x).1 (by simp)) (by simp)
 | x :: l, y :: m, h1, h2, h => by
  rw [List.pairwise_cons] at h1 h2
  have hxy : x = y := by
   rcases List.mem_cons.1 ((h x).1 (by simp)) with e | e
   ·exact e
   ·rcases List.mem_cons.1 ((h y).2 (by simp)) with e2 | e2
    ·exact e2.symm
    ·exact absurd (h2.1 x e) (kLt_asym (h1.1 y e2))
  subst hxy
  have hs : ∀ z, z ∈ l ↔ z ∈ m := fun z => by
   constructor
   ·intro hz
    rcases List.mem_cons.1 ((h z).1 (by simp [hz])) with e | e
    ·subst e; exact absurd (h1.1 z hz) kLt_irr
    ·exact e
   ·intro hz
    rcases List.mem_cons.1 ((h z).2 (by simp [hz])) with e | e
    ·subst e; exact absurd (h2.1 z hz) kLt_irr
    ·exact e
  rw [same_pw h1.2 h2.2 hs]
theorem put_perm {o : List Kc} {x : Kc} (ht : tabR o = true) (hx : 0 < x.cnt) (hn : ∀ y ∈ o, neK y x) : (putR o x.src x.key (x.cnt, x.sum)).Perm (x :: o) := by
 have hth : thereR o x.src x.key = false := by
  cases h : thereR o x.src x.key with
  | false => rfl
  | true => obtain ⟨y, h1, h2⟩ := there_at h; exact absurd h2 (hn y (List.mem_of_getElem? h1))
 rw [put_new ht hth hx]
 refine List.perm_middle.trans ?_
 rw [List.take_append_drop]
theorem mrg_tab : ∀ {b a : List Kc}, tabR a = true → (∀ x ∈ b, keyOk x.src x.key = true ∧ 0 < x.cnt) → tabR (mrg a b) = true
 | [], a, h, _ => h
 | x :: b, a, h, hb => mrg_tab (b := b) (put_tab (c := (x.cnt, x.sum)) h (hb x (by simp)).1 (.inr (hb x (by simp)).2)) fun y hy => hb y (by simp [hy])
theorem mrg_perm : ∀ {b a : List Kc}, tabR a = true → (∀ x ∈ b, keyOk x.src x.key = true ∧ 0 < x.cnt) → (∀ x ∈ a, ∀ y ∈ b, neK x y) → b.Pairwise neK → (mrg a b).Perm (a ++ b)
 | [], a, h, _, _, _ => by rw [List.append_nil]; exact .refl _
 | x :: b, a, h, hb, hn, hp => by
  rw [List.pairwise_cons] at hp
  have p1 := put_perm (x := x) h (hb x (by simp)).2 fun y hy => hn y hy x (by simp)
  have p2 := mrg_perm (b := b) (put_tab (c := (x.cnt, x.sum)) h (hb x (by simp)).1 (.inr (hb x (by simp)).2)) (fun y hy => hb y (by simp [hy])) (fun y hy z hz => by
   rcases List.mem_cons.1 ((p1.mem_iff (a := y)).1 hy) with e | e
   ·subst e; exact hp.1 z hz
   ·exact hn y e z (by simp [hz])) hp.2
  show (mrg (putR a x.src x.key (x.cnt, x.sum)) b).Perm _
  exact p2.trans (((p1.append_right b).trans (.refl _)).trans (List.perm_middle.symm))
theorem pw_ne {l : List Kc} (h : l.Pairwise kLtK) : l.Pairwise neK := h.imp fun hxy he => by unfold kLtK kLt at hxy; omega
theorem sort_join {a b z : List Kc} (ha : tabR a = true) (hb : tabR b = true) (hp : z.Perm (a ++ b)) (hs : z.Pairwise fun x y => ltOf cfK y x = false) : tabR z = !comm a b ∧ (comm a b = false → z = mrg a b) := by
 have a1 := tab_iff.1 ha
 have b1 := tab_iff.1 hb
 have hk : ∀ x ∈ z, keyOk x.src x.key = true ∧ 0 < x.cnt := fun x hx => by
  rcases List.mem_append.1 ((hp.mem_iff (a := x)).1 hx) with e | e
  ·exact a1.1 x e
  ·exact b1.1 x e
 have sy : ∀ {x y : Kc}, neK x y → neK y x := fun h he => h ⟨he.1.symm, he.2.symm⟩
 cases hc : comm a b with
 | false =>
  have hn := (comm_no ha).1 hc
  have h2 : (a ++ b).Pairwise neK := List.pairwise_append.2 ⟨pw_ne a1.2, pw_ne b1.2, hn⟩
  have h3 : z.Pairwise neK := (hp.pairwise_iff sy).2 h2
  have h4 : z.Pairwise kLtK := (List.Pairwise.and hs h3).imp fun {x y} h => by
   have h5 := h.1
   rw [cfK_lt] at h5
   rcases @kLt_tri x.src x.key y.src y.key with e | e | e
   ·exact e
   ·exact absurd e h.2
   ·exact absurd e (of_decide_eq_false h5)
  refine ⟨tab_iff.2 ⟨hk, h4⟩, fun _ => ?_⟩
  refine same_pw h4 (tab_iff.1 (mrg_tab ha b1.1)).2 fun x => ?_
  exact (hp.mem_iff).trans (mrg_perm ha b1.1 hn (pw_ne b1.2)).mem_iff.symm
 | true =>
  refine ⟨?_, fun h => nomatch h⟩
  cases ht : tabR z with
  | false => rfl
  | true =>
   have h3 := pw_ne (tab_iff.1 ht).2
   have h2 := (hp.pairwise_iff sy).1 h3
   have := (comm_no (b := b) ha).2 (List.pairwise_append.1 h2).2.2
   rw [hc] at this
   cases this
theorem cmpk_con (x y : Kc)  : Con Tryz.prog 109 [.agg [.v (.int .i64 x.src), .v (.int .i64 x.key), .v (.int .i64 x.cnt), .v (.int .i64 x.sum)], .agg [.v (.int .i64 y.src), .v (.int .i64 y.key), .v (.int .i64 y.cnt), .v (.int .i64 y.sum)]] (fun rx rK rt => rx = .val (.int .i64 (cfK x y)) ∧ rK = [] ∧ rt = 0) := by
 refine Z.con_ofF tabOk 10 Tryz.f109 _ Tryz.func109 (by kernel_rfl) rfl rfl rfl rfl ?_
 have cc := compare_con x.src x.key 0 y.src y.key 0
 repeat' ((conv => whnf); first
  | with_reducible first | refine Z.callZ_in tabOk 8 Tryz.f94 _ Tryz.func94 (by kernel_rfl) rfl rfl rfl ?_
  | ((first | (with_reducible refine Z.conZ_mz ?_ (cc) ?_)); (focus ((repeat' (first | exact trivial | exact rfl | apply And.intro)); done)))
  | ((with_reducible apply ex_and); exact rfl)
  | with_reducible first | refine Z.drawZ_rule tabOk mixOk ?_ | refine Z.apZ_mk (by kernel_rfl) ?_
  | ((with_reducible refine Z.ConZ.red ?_); (try subst hlb); (apply Z.conZ_all); (focus (repeat (first | exact Z.FK.nil | (apply Z.FK.keep; exact rfl)))); (focus rfl); (focus rfl); (focus (repeat (first | exact trivial | (refine ⟨(fun o ho => (by first | (cases ho; rfl) | (cases ho; exact Z.inL_map fun _ => rfl) | (cases ho; exact Z.inL_mapr fun _ => rfl) | exact Z.inL_gB ho fun _ => rfl)), ?_⟩)))))
  | ((refine ⟨rfl, ?_, rfl⟩); (focus (repeat (first | exact Z.DK.nil | apply Z.DK.cons))))
  | fail)
 all_goals (try (conv => whnf))
 all_goals try (show Nat.ble _ _ = true; rfl)
 all_goals first
  | ((first | (with_reducible apply Z.retF1)); (focus rfl); (repeat' (first | exact trivial | exact rfl | apply And.intro)); (all_goals (try exact (fun _ => none))); all_goals (first | (simp; done)))
  | fail
end Tab
end Go.Proofs.YtopieffkpdlpbaaGreat
namespace Go.Proofs.YtopieffkpdlpbaaGreat
open Go Go.RowKit Wx
set_option maxHeartbeats 4000000
namespace Tab
end Tab
end Go.Proofs.YtopieffkpdlpbaaGreat
namespace Go.Proofs.YtopieffkpdlpbaaGreat
open Go Go.RowKit Wx
set_option maxHeartbeats 4000000
namespace Tab
end Tab
end Go.Proofs.YtopieffkpdlpbaaGreat
namespace Go.Proofs.YtopieffkpdlpbaaGreat
open Go Go.RowKit Wx
set_option maxHeartbeats 4000000
namespace Tab
def ownG (g w : Int) : Int := (g * w) / 8
def okS (i w : Int) : Prop := (1 ≤ w ∧ w ≤ 3) ∧ 0 ≤ i ∧ i < w
instance (i w : Int) : Decidable (okS i w) := by unfold okS; infer_instance
def mineB (s k i w : Int) : Bool := keyOk s k && (decide (okS i w) && decide (ownG (k % 8) w = i))
def partL (l : List Kc) (i w : Int) : List Kc := l.filter fun x => mineB x.src x.key i w
def partT (l : List Kc) (i w : Int) : List Kc × Int := if tabR l = false then ([], 220) else if okS i w then (partL l i w, 0) else ([], 2)
theorem part_at {l : List Kc} {j : Nat} {x : Kc} {i w : Int} (h : l[j]? = some x) : partL (l.take (j + 1)) i w = partL (l.take j) i w ++ (bif mineB x.src x.key i w then [x] else []) := by
 unfold partL
 rw [take_snoc h, List.filter_append]
 cases hm : mineB x.src x.key i w <;> simp [hm]
theorem part_len {l : List Kc} {i w : Int} : (partL l i w).length ≤ l.length := List.length_filter_le _ _
theorem share_con (i w : Int)  : Con Tryz.prog 84 [.one (.v (.int .i64 i)), .one (.v (.int .i64 w))] (fun rx rK rt => rx = .val (.bool (decide (okS i w))) ∧ rK = [] ∧ rt = 0) := by
 refine Z.con_ofF tabOk 16 Tryz.f84 _ Tryz.func84 (by kernel_rfl) rfl rfl rfl rfl ?_
 by_cases h : okS i w
 ·rw [decide_eq_true h]
  unfold okS at h
  repeat' ((conv => whnf); first
   | with_reducible first | refine spB_t ?_
   | (with_reducible refine spB_dec ?_ ?_ <;> intro _ <;> (try (exfalso; first | contradiction | omega | (rename_i hz; refine hz ?_; simp; done) | (rename_i hz; simp at hz; done) | (simp only [LN] at *; omega))))
   | with_reducible first | refine Z.callZ_in tabOk 9 Tryz.f106 _ Tryz.func106 (by kernel_rfl) rfl rfl rfl ?_
   | ((with_reducible apply ex_and); exact rfl)
   | fail)
  all_goals (try (conv => whnf))
  all_goals try first | (show Nat.ble _ _ = true; rfl) | (exfalso; rename_i hz; cases hz; done) | (exfalso; (try simp only [LN] at *) <;> omega)
  all_goals first
   | ((first | (with_reducible apply Z.retF1)); (focus rfl); (repeat' (first | exact trivial | (with_reducible apply Z.frz_one) | (with_reducible apply Z.fq_bool) | apply And.intro)); (all_goals (try exact (fun _ => none))); all_goals (first | (simp_all; done)))
   | fail
 ·rw [decide_eq_false h]
  unfold okS at h
  repeat' ((conv => whnf); first
   | with_reducible first | refine spB_t ?_
   | with_reducible first | refine spB_no (by decide) ?_
   | (with_reducible refine spB_dec ?_ ?_ <;> intro _ <;> (try (exfalso; first | contradiction | omega | (rename_i hz; refine hz ?_; simp; done) | (rename_i hz; simp at hz; done) | (simp only [LN] at *; omega))))
   | with_reducible first | refine Z.callZ_in tabOk 9 Tryz.f106 _ Tryz.func106 (by kernel_rfl) rfl rfl rfl ?_
   | ((with_reducible apply ex_and); exact rfl)
   | fail)
  all_goals (try (conv => whnf))
  all_goals try first | (show Nat.ble _ _ = true; rfl) | (exfalso; rename_i hz; cases hz; done) | (exfalso; (try simp only [LN] at *) <;> omega)
  all_goals first
   | ((first | (with_reducible apply Z.retF1)); (focus rfl); (repeat' (first | exact trivial | (with_reducible apply Z.frz_one) | (with_reducible apply Z.fq_bool) | exact rfl | apply And.intro)); (all_goals (try exact (fun _ => none))); all_goals (first | (simp_all; done)))
   | fail
theorem rshare_con (i w : Int)  : Con Tryz.prog 56 [.one (.v (.int .i64 i)), .one (.v (.int .i64 w))] (fun rx rK rt => rx = .val (.bool (decide (okS i w))) ∧ rK = [] ∧ rt = 0) := by
 refine Z.con_ofF tabOk 20 Tryz.f56 _ Tryz.func56 (by kernel_rfl) rfl rfl rfl rfl ?_
 by_cases h : okS i w
 ·rw [decide_eq_true h]
  unfold okS at h
  repeat' ((conv => whnf); first
   | with_reducible first | refine spB_t ?_
   | (with_reducible refine spB_dec ?_ ?_ <;> intro _ <;> (try (exfalso; first | contradiction | omega | (rename_i hz; refine hz ?_; simp; done) | (rename_i hz; simp at hz; done) | (simp only [LN] at *; omega))))
   | fail)
  all_goals (try (conv => whnf))
  all_goals try first | (show Nat.ble _ _ = true; rfl) | (exfalso; rename_i hz; cases hz; done) | (exfalso; (try simp only [LN] at *) <;> omega)
  all_goals first
   | ((first | (with_reducible apply Z.retF1)); (focus rfl); (repeat' (first | exact trivial | (with_reducible apply Z.frz_one) | (with_reducible apply Z.fq_bool) | apply And.intro)); (all_goals (try exact (fun _ => none))); all_goals (first | (simp_all; done)))
   | fail
 ·rw [decide_eq_false h]
  unfold okS at h
  repeat' ((conv => whnf); first
   | with_reducible first | refine spB_t ?_
   | with_reducible first | refine spB_no (by decide) ?_
   | (with_reducible refine spB_dec ?_ ?_ <;> intro _ <;> (try (exfalso; first | contradiction | omega | (rename_i hz; refine hz ?_; simp; done) | (rename_i hz; simp at hz; done) | (simp only [LN] at *; omega))))
   | fail)
  all_goals (try (conv => whnf))
  all_goals try first | (show Nat.ble _ _ = true; rfl) | (exfalso; rename_i hz; cases hz; done) | (exfalso; (try simp only [LN] at *) <;> omega)
  all_goals first
   | ((first | (with_reducible apply Z.retF1)); (focus rfl); (repeat' (first | exact trivial | (with_reducible apply Z.frz_one) | (with_reducible apply Z.fq_bool) | exact rfl | apply And.intro)); (all_goals (try exact (fun _ => none))); all_goals (first | (simp_all; done)))
   | fail
theorem owners_1 : Con Tryz.prog 85 [.one (.v (.int .i64 1))] (fun rx rK rt => rx = .pl (.agg [.v (.int .i64 0), .v (.int .i64 0), .v (.int .i64 0), .v (.int .i64 0), .v (.int .i64 0), .v (.int .i64 0), .v (.int .i64 0), .v (.int .i64 0)]) ∧ rK = [] ∧ rt = 0) := Y.con_eval ftabOk tabOk mixOk 40 12 (by kernel_rfl) (by rfl) (by kernel_rfl)
theorem owners_2 : Con Tryz.prog 85 [.one (.v (.int .i64 2))] (fun rx rK rt => rx = .pl (.agg [.v (.int .i64 0), .v (.int .i64 0), .v (.int .i64 0), .v (.int .i64 0), .v (.int .i64 1), .v (.int .i64 1), .v (.int .i64 1), .v (.int .i64 1)]) ∧ rK = [] ∧ rt = 0) := Y.con_eval ftabOk tabOk mixOk 40 12 (by kernel_rfl) (by rfl) (by kernel_rfl)
theorem owners_3 : Con Tryz.prog 85 [.one (.v (.int .i64 3))] (fun rx rK rt => rx = .pl (.agg [.v (.int .i64 0), .v (.int .i64 0), .v (.int .i64 0), .v (.int .i64 1), .v (.int .i64 1), .v (.int .i64 1), .v (.int .i64 2), .v (.int .i64 2)]) ∧ rK = [] ∧ rt = 0) := Y.con_eval ftabOk tabOk mixOk 40 12 (by kernel_rfl) (by rfl) (by kernel_rfl)
theorem group_con (s k v : Int)  : Con Tryz.prog 125 [.agg [.v (.int .i64 s), .v (.int .i64 k), .v (.int .i64 v)]] (fun rx rK rt => rx = .val (.int .i64 (k.tmod 8)) ∧ rK = [] ∧ rt = 0) := by
 refine Z.con_ofF tabOk 6 Tryz.f125 _ Tryz.func125 (by kernel_rfl) rfl rfl rfl rfl ?_
 repeat' ((conv => whnf); first
  | with_reducible first | refine vN_mk ?_
  | with_reducible refine nzN_mk (by omega) ?_
  | fail)
 all_goals (try (conv => whnf))
 all_goals try (show Nat.ble _ _ = true; rfl)
 all_goals first
  | ((first | (with_reducible apply Z.retF1)); (focus rfl); (repeat' (first | exact trivial | (with_reducible apply Z.frz_one) | (with_reducible apply Z.fq_int) | exact rfl | apply And.intro)); (all_goals (try exact (fun _ => none))); all_goals (rfl))
  | fail
theorem rgroup_con (k : Int)  : Con Tryz.prog 26 [.one (.v (.int .i64 k))] (fun rx rK rt => rx = .val (.int .i64 (k.tmod 8)) ∧ rK = [] ∧ rt = 0) := by
 refine Z.con_ofF tabOk 5 Tryz.f26 _ Tryz.func26 (by kernel_rfl) rfl rfl rfl rfl ?_
 repeat' ((conv => whnf); first
  | with_reducible first | refine vN_mk ?_
  | with_reducible refine nzN_mk (by omega) ?_
  | fail)
 all_goals (try (conv => whnf))
 all_goals try (show Nat.ble _ _ = true; rfl)
 all_goals first
  | ((first | (with_reducible apply Z.retF1)); (focus rfl); (repeat' (first | exact trivial | (with_reducible apply Z.frz_one) | (with_reducible apply Z.fq_int) | exact rfl | apply And.intro)); (all_goals (try exact (fun _ => none))); all_goals (rfl))
  | fail
theorem owned_0_1 : ∃ L, Con Tryz.prog 89 [.one (.v (.int .i64 0)), .one (.v (.int .i64 1))] (fun rx rK rt => rx = .tup [.one (.ro true 1 L), .one (.v (.int .i64 0))] ∧ rK = [] ∧ rt = 0) := ⟨_, Z.con_fz [.one (.ro true 1 [[.v (.int .i64 0)], [.v (.int .i64 1)], [.v (.int .i64 2)], [.v (.int .i64 3)], [.v (.int .i64 4)], [.v (.int .i64 5)], [.v (.int .i64 6)], [.v (.int .i64 7)]]), .one (.v (.int .i64 0))] (xs := [.one (.osl 17 0 8 none), .one (.v (.int .i64 0))]) (K0 := [(17, some ⟨[[.v (.int .i64 0)], [.v (.int .i64 1)], [.v (.int .i64 2)], [.v (.int .i64 3)], [.v (.int .i64 4)], [.v (.int .i64 5)], [.v (.int .i64 6)], [.v (.int .i64 7)]], 1, 3, false⟩)]) (t0 := 18) (Y.con_evalK ftabOk tabOk mixOk 40 12 (by kernel_rfl) (by rfl) (by kernel_rfl)) ⟨⟨_, rfl, rfl, rfl⟩, rfl, trivial⟩⟩
theorem owned_0_2 : ∃ L, Con Tryz.prog 89 [.one (.v (.int .i64 0)), .one (.v (.int .i64 2))] (fun rx rK rt => rx = .tup [.one (.ro true 1 L), .one (.v (.int .i64 0))] ∧ rK = [] ∧ rt = 0) := ⟨_, Z.con_fz [.one (.ro true 1 [[.v (.int .i64 0)], [.v (.int .i64 1)], [.v (.int .i64 2)], [.v (.int .i64 3)]]), .one (.v (.int .i64 0))] (xs := [.one (.osl 9 0 4 none), .one (.v (.int .i64 0))]) (K0 := [(9, some ⟨[[.v (.int .i64 0)], [.v (.int .i64 1)], [.v (.int .i64 2)], [.v (.int .i64 3)]], 1, 3, false⟩)]) (t0 := 10) (Y.con_evalK ftabOk tabOk mixOk 40 12 (by kernel_rfl) (by rfl) (by kernel_rfl)) ⟨⟨_, rfl, rfl, rfl⟩, rfl, trivial⟩⟩
theorem owned_1_2 : ∃ L, Con Tryz.prog 89 [.one (.v (.int .i64 1)), .one (.v (.int .i64 2))] (fun rx rK rt => rx = .tup [.one (.ro true 1 L), .one (.v (.int .i64 0))] ∧ rK = [] ∧ rt = 0) := ⟨_, Z.con_fz [.one (.ro true 1 [[.v (.int .i64 4)], [.v (.int .i64 5)], [.v (.int .i64 6)], [.v (.int .i64 7)]]), .one (.v (.int .i64 0))] (xs := [.one (.osl 9 0 4 none), .one (.v (.int .i64 0))]) (K0 := [(9, some ⟨[[.v (.int .i64 4)], [.v (.int .i64 5)], [.v (.int .i64 6)], [.v (.int .i64 7)]], 1, 3, false⟩)]) (t0 := 10) (Y.con_evalK ftabOk tabOk mixOk 40 12 (by kernel_rfl) (by rfl) (by kernel_rfl)) ⟨⟨_, rfl, rfl, rfl⟩, rfl, trivial⟩⟩
theorem owned_0_3 : ∃ L, Con Tryz.prog 89 [.one (.v (.int .i64 0)), .one (.v (.int .i64 3))] (fun rx rK rt => rx = .tup [.one (.ro true 1 L), .one (.v (.int .i64 0))] ∧ rK = [] ∧ rt = 0) := ⟨_, Z.con_fz [.one (.ro true 1 [[.v (.int .i64 0)], [.v (.int .i64 1)], [.v (.int .i64 2)]]), .one (.v (.int .i64 0))] (xs := [.one (.osl 7 0 3 none), .one (.v (.int .i64 0))]) (K0 := [(7, some ⟨[[.v (.int .i64 0)], [.v (.int .i64 1)], [.v (.int .i64 2)]], 1, 3, false⟩)]) (t0 := 8) (Y.con_evalK ftabOk tabOk mixOk 40 12 (by kernel_rfl) (by rfl) (by kernel_rfl)) ⟨⟨_, rfl, rfl, rfl⟩, rfl, trivial⟩⟩
theorem owned_1_3 : ∃ L, Con Tryz.prog 89 [.one (.v (.int .i64 1)), .one (.v (.int .i64 3))] (fun rx rK rt => rx = .tup [.one (.ro true 1 L), .one (.v (.int .i64 0))] ∧ rK = [] ∧ rt = 0) := ⟨_, Z.con_fz [.one (.ro true 1 [[.v (.int .i64 3)], [.v (.int .i64 4)], [.v (.int .i64 5)]]), .one (.v (.int .i64 0))] (xs := [.one (.osl 7 0 3 none), .one (.v (.int .i64 0))]) (K0 := [(7, some ⟨[[.v (.int .i64 3)], [.v (.int .i64 4)], [.v (.int .i64 5)]], 1, 3, false⟩)]) (t0 := 8) (Y.con_evalK ftabOk tabOk mixOk 40 12 (by kernel_rfl) (by rfl) (by kernel_rfl)) ⟨⟨_, rfl, rfl, rfl⟩, rfl, trivial⟩⟩
theorem owned_2_3 : ∃ L, Con Tryz.prog 89 [.one (.v (.int .i64 2)), .one (.v (.int .i64 3))] (fun rx rK rt => rx = .tup [.one (.ro true 1 L), .one (.v (.int .i64 0))] ∧ rK = [] ∧ rt = 0) := ⟨_, Z.con_fz [.one (.ro true 1 [[.v (.int .i64 6)], [.v (.int .i64 7)]]), .one (.v (.int .i64 0))] (xs := [.one (.osl 5 0 2 none), .one (.v (.int .i64 0))]) (K0 := [(5, some ⟨[[.v (.int .i64 6)], [.v (.int .i64 7)]], 1, 3, false⟩)]) (t0 := 6) (Y.con_evalK ftabOk tabOk mixOk 40 12 (by kernel_rfl) (by rfl) (by kernel_rfl)) ⟨⟨_, rfl, rfl, rfl⟩, rfl, trivial⟩⟩
theorem owned_ok (i w : Int) (h : okS i w) : ∃ L, Con Tryz.prog 89 [.one (.v (.int .i64 i)), .one (.v (.int .i64 w))] (fun rx rK rt => rx = .tup [.one (.ro true 1 L), .one (.v (.int .i64 0))] ∧ rK = [] ∧ rt = 0) := by
 have hc : (i = 0 ∧ w = 1) ∨ (i = 0 ∧ w = 2) ∨ (i = 1 ∧ w = 2) ∨ (i = 0 ∧ w = 3) ∨ (i = 1 ∧ w = 3) ∨ (i = 2 ∧ w = 3) := by unfold okS at h; omega
 rcases hc with ⟨rfl, rfl⟩ | ⟨rfl, rfl⟩ | ⟨rfl, rfl⟩ | ⟨rfl, rfl⟩ | ⟨rfl, rfl⟩ | ⟨rfl, rfl⟩
 ·exact owned_0_1
 ·exact owned_0_2
 ·exact owned_1_2
 ·exact owned_0_3
 ·exact owned_1_3
 ·exact owned_2_3
theorem owned_bad (i w : Int) (h : ¬ okS i w) : Con Tryz.prog 89 [.one (.v (.int .i64 i)), .one (.v (.int .i64 w))] (fun rx rK rt => rx = .tup [.one (.ro true 1 []), .one (.v (.int .i64 2))] ∧ rK = [] ∧ rt = 0) := by
 refine Z.con_ofF tabOk 29 Tryz.f89 _ Tryz.func89 (by kernel_rfl) rfl rfl rfl rfl ?_
 have csh := share_con i w
 rw [decide_eq_false h] at csh
 repeat' ((conv => whnf); first
  | with_reducible first | refine spB_t ?_
  | ((with_reducible apply spB_cong); (focus (simp only [splQ, Int.reduceBEq, Int.reduceBNe]; rfl)))
  | ((first | (with_reducible refine Z.callZ_mk ?_ (csh) ?_)); (focus ((repeat' (first | exact trivial | exact rfl | apply And.intro)); done)))
  | fail)
 all_goals (try (conv => whnf))
 all_goals try first | (show Nat.ble _ _ = true; rfl) | (exfalso; rename_i hz; cases hz; done) | (exfalso; (try simp only [LN] at *) <;> omega)
 all_goals first
  | ((first | (with_reducible apply Z.retF2)); (focus rfl); (repeat' (first | exact trivial | (with_reducible apply Z.frz_one) | (with_reducible apply Z.fq_int) | (exact Z.frz_nil) | exact rfl | apply And.intro)); (all_goals (try exact (fun _ => none))); all_goals (first | (simp_all; done)))
  | fail
end Tab
end Go.Proofs.YtopieffkpdlpbaaGreat
namespace Go.Proofs.YtopieffkpdlpbaaGreat
open Go Go.RowKit Wx
set_option maxHeartbeats 4000000
structure Nm where
 s : Int
 a : Int
 n : Int
deriving DecidableEq
abbrev eN (x : Nm) : List RT := [RT.v (.int .i64 x.s), RT.v (.int .i64 x.a), RT.v (.int .i64 x.n)]
abbrev cN (x : Nm) : List Ce := [Ce.v (.int .i64 x.s), Ce.v (.int .i64 x.a), Ce.v (.int .i64 x.n)]
theorem nm_eq {x y : Nm} (h : (x.s == y.s && (x.a == y.a && (x.n == y.n && true))) = true) : x = y := by
 simp at h; cases x; cases y; simp_all
structure Sn where
 op : Int
 ix : Int
 w : Int
 en : Bool
 rows : List Tab.Kc
 o0 : Int
 o1 : Int
 o2 : Int
 o3 : Int
 o4 : Int
 o5 : Int
 o6 : Int
 o7 : Int
 txs : List Nm
deriving DecidableEq
theorem rnames_con (a b : List Nm) (hla : a.length ≤ 9223372036854775807)  : Con Tryz.prog 36 [.one (.ro false 3 (a.map eN)), .one (.ro false 3 (b.map eN))] (fun rx rK rt => rx = .val (.bool (decide (a = b))) ∧ rK = [] ∧ rt = 0) := by
 refine Z.con_ofF tabOk 26 Tryz.f36 _ Tryz.func36 (by kernel_rfl) rfl rfl rfl rfl ?_
 repeat' ((conv => whnf); first
  | (with_reducible refine spB_bne ?_ ?_ <;> intro _ <;> (try (exfalso; first | contradiction | omega | (rename_i hz; with_reducible exact absurd rfl hz))))
  | fail)
 all_goals (try (conv => whnf))
 all_goals try ((first | (with_reducible apply Z.retF1)); (focus rfl); (repeat' (first | exact trivial | (with_reducible apply Z.frz_one) | (with_reducible apply Z.fq_bool) | apply And.intro)); (all_goals (try exact (fun _ => none))); all_goals (exact bool_f (ne_len (by simp only [LN] at *; omega))))
 refine Z.loopK tabOk (fun zq : Nat => [(13, .val (.int .i64 (zq : Int)))]) (fun zq : Nat => ([] : Z.Kr)) (fun zq => zq ≤ a.length ∧ a.length = b.length ∧ a.take zq = b.take zq) (fun zq => a.length - zq) 0 0 [(0, _), (1, _), (12, _)] ⟨rfl, rfl, rfl, trivial⟩ [] trivial ?_ ?_ rfl rfl ⟨Nat.zero_le _, by simp only [LN] at *; omega, rfl⟩ ?_
 ·repeat' (first | exact trivial | apply And.intro | exact ⟨_, rfl, Z.Imp.refl _⟩)
 ·repeat' (first | exact trivial)
 rintro i HINV
 dsimp only at HINV ⊢
 obtain ⟨HI, HL, HT⟩ := HINV
 repeat' ((conv => whnf); first
  | with_reducible first | refine spB_not ?_
  | (with_reducible refine spB_dec ?_ ?_ <;> intro _ <;> (try (exfalso; first | contradiction | omega | (rename_i hz; with_reducible exact absurd rfl hz))))
  | (with_reducible refine spB_mk ?_ ?_ <;> intro _ <;> (try (exfalso; first | contradiction | omega | (rename_i hz; with_reducible exact absurd rfl hz))))
  | ((with_reducible apply ixN_litp); (focus rfl); (focus ((try simp only [LN] at *) <;> omega)))
  | with_reducible refine wr_i64 (by first | omega | (simp only [LN] at *; omega)) ?_
  | ((with_reducible refine rowN_map ?_ ?_); (focus ((try simp only [LN] at *) <;> omega)); intro x hx)
  | with_reducible first | refine Z.drawZ_rule tabOk mixOk ?_ | refine Z.apZ_mk (by kernel_rfl) ?_
  | fail)
 all_goals (try (conv => whnf))
 all_goals first
  | ((refine Z.rndK (i + 1) (fun s => []) rfl rfl rfl rfl ?_ ?_ ?_ ?_); (focus (repeat' (first | exact trivial | exact rfl | apply And.intro))); (focus (repeat' (first | exact trivial))); (focus (refine ⟨by simp only [LN] at *; omega, HL, eq_step HT (by assumption) (by assumption) ?_⟩; (first | exact nm_eq (by assumption)))); (try simp only [LN] at *); (try dsimp only); omega)
  | ((first | (with_reducible apply Z.retF1)); (focus rfl); (repeat' (first | exact trivial | (with_reducible apply Z.frz_one) | (with_reducible apply Z.fq_bool) | apply And.intro)); (all_goals (try exact (fun _ => none))); all_goals (first | exact bool_t (eq_end HL HT (by simp only [LN] at *; omega)) | (refine bool_f (ne_at (by assumption) (by assumption) ?_); intro e; subst e; first | contradiction | (simp_all; done))))
  | fail
end Go.Proofs.YtopieffkpdlpbaaGreat
namespace Go.Proofs.YtopieffkpdlpbaaGreat
open Go Go.RowKit Wx
set_option maxHeartbeats 4000000
abbrev RNG (o0 o1 o2 o3 o4 o5 o6 o7 : Int) : Prop := (0 ≤ o0 ∧ o0 ≤ 40) ∧ (0 ≤ o1 ∧ o1 ≤ 40) ∧ (0 ≤ o2 ∧ o2 ≤ 40) ∧ (0 ≤ o3 ∧ o3 ≤ 40) ∧ (0 ≤ o4 ∧ o4 ≤ 40) ∧ (0 ≤ o5 ∧ o5 ≤ 40) ∧ (0 ≤ o6 ∧ o6 ≤ 40) ∧ (0 ≤ o7 ∧ o7 ≤ 40)
def ownO (l : List Int) (i w : Int) : Bool := l.zipIdx.all fun p => decide (p.1 = 0 ∨ Tab.ownG p.2 w = i)
def offR (o0 o1 o2 o3 o4 o5 o6 o7 : Int) (i w : Int) : Bool := decide (RNG o0 o1 o2 o3 o4 o5 o6 o7) && ownO [o0, o1, o2, o3, o4, o5, o6, o7] i w
theorem joined_0_1 (o0 o1 o2 o3 o4 o5 o6 o7 : Int) : Con Tryz.prog 51 [.agg [.v (.int .i64 o0), .v (.int .i64 o1), .v (.int .i64 o2), .v (.int .i64 o3), .v (.int .i64 o4), .v (.int .i64 o5), .v (.int .i64 o6), .v (.int .i64 o7)], .agg [.v (.int .i64 0), .v (.int .i64 0), .v (.int .i64 0), .v (.int .i64 0), .v (.int .i64 0), .v (.int .i64 0), .v (.int .i64 0), .v (.int .i64 0)], .one (.v (.int .i64 0)), .one (.v (.int .i64 1))] (fun rx rK rt => rx = .tup [.agg [.v (.int .i64 o0), .v (.int .i64 o1), .v (.int .i64 o2), .v (.int .i64 o3), .v (.int .i64 o4), .v (.int .i64 o5), .v (.int .i64 o6), .v (.int .i64 o7)], .one (.v (.int .i64 0))] ∧ rK = [] ∧ rt = 0) := Y.con_eval ftabOk tabOk mixOk 40 12 (by kernel_rfl) (by rfl) (by kernel_rfl)
theorem joined_0_2 (o0 o1 o2 o3 o4 o5 o6 o7 : Int) : Con Tryz.prog 51 [.agg [.v (.int .i64 o0), .v (.int .i64 o1), .v (.int .i64 o2), .v (.int .i64 o3), .v (.int .i64 o4), .v (.int .i64 o5), .v (.int .i64 o6), .v (.int .i64 o7)], .agg [.v (.int .i64 0), .v (.int .i64 0), .v (.int .i64 0), .v (.int .i64 0), .v (.int .i64 0), .v (.int .i64 0), .v (.int .i64 0), .v (.int .i64 0)], .one (.v (.int .i64 0)), .one (.v (.int .i64 2))] (fun rx rK rt => rx = .tup [.agg [.v (.int .i64 o0), .v (.int .i64 o1), .v (.int .i64 o2), .v (.int .i64 o3), .v (.int .i64 0), .v (.int .i64 0), .v (.int .i64 0), .v (.int .i64 0)], .one (.v (.int .i64 0))] ∧ rK = [] ∧ rt = 0) := Y.con_eval ftabOk tabOk mixOk 40 12 (by kernel_rfl) (by rfl) (by kernel_rfl)
theorem joined_1_2 (o0 o1 o2 o3 o4 o5 o6 o7 : Int) : Con Tryz.prog 51 [.agg [.v (.int .i64 o0), .v (.int .i64 o1), .v (.int .i64 o2), .v (.int .i64 o3), .v (.int .i64 o4), .v (.int .i64 o5), .v (.int .i64 o6), .v (.int .i64 o7)], .agg [.v (.int .i64 0), .v (.int .i64 0), .v (.int .i64 0), .v (.int .i64 0), .v (.int .i64 0), .v (.int .i64 0), .v (.int .i64 0), .v (.int .i64 0)], .one (.v (.int .i64 1)), .one (.v (.int .i64 2))] (fun rx rK rt => rx = .tup [.agg [.v (.int .i64 0), .v (.int .i64 0), .v (.int .i64 0), .v (.int .i64 0), .v (.int .i64 o4), .v (.int .i64 o5), .v (.int .i64 o6), .v (.int .i64 o7)], .one (.v (.int .i64 0))] ∧ rK = [] ∧ rt = 0) := Y.con_eval ftabOk tabOk mixOk 40 12 (by kernel_rfl) (by rfl) (by kernel_rfl)
theorem joined_0_3 (o0 o1 o2 o3 o4 o5 o6 o7 : Int) : Con Tryz.prog 51 [.agg [.v (.int .i64 o0), .v (.int .i64 o1), .v (.int .i64 o2), .v (.int .i64 o3), .v (.int .i64 o4), .v (.int .i64 o5), .v (.int .i64 o6), .v (.int .i64 o7)], .agg [.v (.int .i64 0), .v (.int .i64 0), .v (.int .i64 0), .v (.int .i64 0), .v (.int .i64 0), .v (.int .i64 0), .v (.int .i64 0), .v (.int .i64 0)], .one (.v (.int .i64 0)), .one (.v (.int .i64 3))] (fun rx rK rt => rx = .tup [.agg [.v (.int .i64 o0), .v (.int .i64 o1), .v (.int .i64 o2), .v (.int .i64 0), .v (.int .i64 0), .v (.int .i64 0), .v (.int .i64 0), .v (.int .i64 0)], .one (.v (.int .i64 0))] ∧ rK = [] ∧ rt = 0) := Y.con_eval ftabOk tabOk mixOk 40 12 (by kernel_rfl) (by rfl) (by kernel_rfl)
theorem joined_1_3 (o0 o1 o2 o3 o4 o5 o6 o7 : Int) : Con Tryz.prog 51 [.agg [.v (.int .i64 o0), .v (.int .i64 o1), .v (.int .i64 o2), .v (.int .i64 o3), .v (.int .i64 o4), .v (.int .i64 o5), .v (.int .i64 o6), .v (.int .i64 o7)], .agg [.v (.int .i64 0), .v (.int .i64 0), .v (.int .i64 0), .v (.int .i64 0), .v (.int .i64 0), .v (.int .i64 0), .v (.int .i64 0), .v (.int .i64 0)], .one (.v (.int .i64 1)), .one (.v (.int .i64 3))] (fun rx rK rt => rx = .tup [.agg [.v (.int .i64 0), .v (.int .i64 0), .v (.int .i64 0), .v (.int .i64 o3), .v (.int .i64 o4), .v (.int .i64 o5), .v (.int .i64 0), .v (.int .i64 0)], .one (.v (.int .i64 0))] ∧ rK = [] ∧ rt = 0) := Y.con_eval ftabOk tabOk mixOk 40 12 (by kernel_rfl) (by rfl) (by kernel_rfl)
theorem joined_2_3 (o0 o1 o2 o3 o4 o5 o6 o7 : Int) : Con Tryz.prog 51 [.agg [.v (.int .i64 o0), .v (.int .i64 o1), .v (.int .i64 o2), .v (.int .i64 o3), .v (.int .i64 o4), .v (.int .i64 o5), .v (.int .i64 o6), .v (.int .i64 o7)], .agg [.v (.int .i64 0), .v (.int .i64 0), .v (.int .i64 0), .v (.int .i64 0), .v (.int .i64 0), .v (.int .i64 0), .v (.int .i64 0), .v (.int .i64 0)], .one (.v (.int .i64 2)), .one (.v (.int .i64 3))] (fun rx rK rt => rx = .tup [.agg [.v (.int .i64 0), .v (.int .i64 0), .v (.int .i64 0), .v (.int .i64 0), .v (.int .i64 0), .v (.int .i64 0), .v (.int .i64 o6), .v (.int .i64 o7)], .one (.v (.int .i64 0))] ∧ rK = [] ∧ rt = 0) := Y.con_eval ftabOk tabOk mixOk 40 12 (by kernel_rfl) (by rfl) (by kernel_rfl)
theorem areoff_in (o0 o1 o2 o3 o4 o5 o6 o7 j0 j1 j2 j3 j4 j5 j6 j7 i w : Int) (cj : Con Tryz.prog 51 [.agg [.v (.int .i64 o0), .v (.int .i64 o1), .v (.int .i64 o2), .v (.int .i64 o3), .v (.int .i64 o4), .v (.int .i64 o5), .v (.int .i64 o6), .v (.int .i64 o7)], .agg [.v (.int .i64 0), .v (.int .i64 0), .v (.int .i64 0), .v (.int .i64 0), .v (.int .i64 0), .v (.int .i64 0), .v (.int .i64 0), .v (.int .i64 0)], .one (.v (.int .i64 i)), .one (.v (.int .i64 w))] (fun rx rK rt => rx = .tup [.agg [.v (.int .i64 j0), .v (.int .i64 j1), .v (.int .i64 j2), .v (.int .i64 j3), .v (.int .i64 j4), .v (.int .i64 j5), .v (.int .i64 j6), .v (.int .i64 j7)], .one (.v (.int .i64 0))] ∧ rK = [] ∧ rt = 0)) : Con Tryz.prog 65 [.agg [.v (.int .i64 o0), .v (.int .i64 o1), .v (.int .i64 o2), .v (.int .i64 o3), .v (.int .i64 o4), .v (.int .i64 o5), .v (.int .i64 o6), .v (.int .i64 o7)], .one (.v (.int .i64 i)), .one (.v (.int .i64 w))] (fun rx rK rt => rx = .val (.bool (decide (RNG o0 o1 o2 o3 o4 o5 o6 o7) && (o0 == j0 && (o1 == j1 && (o2 == j2 && (o3 == j3 && (o4 == j4 && (o5 == j5 && (o6 == j6 && (o7 == j7 && true)))))))))) ∧ rK = [] ∧ rt = 0) := by
 refine Z.con_ofF tabOk 26 Tryz.f65 _ Tryz.func65 (by kernel_rfl) rfl rfl rfl rfl ?_
 repeat' ((conv => whnf); first
  | with_reducible first | refine spB_t ?_
  | ((with_reducible apply spB_cong); (focus (simp only [splQ, Int.reduceBEq, Int.reduceBNe]; rfl)))
  | with_reducible first | refine spB_yes (by decide) ?_ | refine spB_no (by decide) ?_
  | (with_reducible refine spB_dec ?_ ?_ <;> intro _ <;> (try (exfalso; first | contradiction | omega | (rename_i hz; refine hz ?_; simp; done) | (rename_i hz; simp at hz; done) | (simp only [LN] at *; omega))))
  | with_reducible first | refine Z.loopZ_unroll tabOk 9 ?_
  | ((with_reducible apply ixN_lit); (focus rfl); (focus rfl))
  | with_reducible refine wr_i64 (by first | omega | (simp only [LN] at *; omega)) ?_
  | with_reducible first | refine Z.callZ_in tabOk 18 Tryz.f90 _ Tryz.func90 (by kernel_rfl) rfl rfl rfl ?_
  | ((first | (with_reducible refine Z.callZ_mk ?_ (cj) ?_)); (focus ((repeat' (first | exact trivial | exact rfl | apply And.intro)); done)))
  | ((with_reducible apply ex_and); exact rfl)
  | with_reducible first | refine Z.drawZ_rule tabOk mixOk ?_ | refine Z.apZ_mk (by kernel_rfl) ?_
  | ((with_reducible refine Z.ConZ.red ?_); (try subst hlb); (apply Z.conZ_all); (focus (repeat (first | exact Z.FK.nil | (apply Z.FK.keep; exact rfl)))); (focus rfl); (focus rfl); (focus (repeat (first | exact trivial | (refine ⟨(fun o ho => (by first | (cases ho; rfl) | (cases ho; exact Z.inL_map fun _ => rfl) | (cases ho; exact Z.inL_mapr fun _ => rfl) | exact Z.inL_gB ho fun _ => rfl)), ?_⟩)))))
  | ((refine ⟨rfl, ?_, rfl⟩); (focus (repeat (first | exact Z.DK.nil | apply Z.DK.cons))))
  | fail)
 all_goals (try (conv => whnf))
 all_goals try first | (show Nat.ble _ _ = true; rfl) | (exfalso; rename_i hz; cases hz; done) | (exfalso; (try simp only [LN] at *) <;> omega)
 all_goals first
  | ((first | (with_reducible apply Z.retF1)); (focus rfl); (repeat' (first | exact trivial | (with_reducible apply Z.frz_one) | (with_reducible apply Z.fq_bool) | apply And.intro)); (all_goals (try exact (fun _ => none))); all_goals (first | (rw [decide_eq_false (show ¬ RNG o0 o1 o2 o3 o4 o5 o6 o7 by omega)]; rfl) | (rw [decide_eq_true (show RNG o0 o1 o2 o3 o4 o5 o6 o7 by omega)]; first | rfl | (rw [Bool.true_and]; rfl) | (simp; done))))
  | fail
theorem areoff_con (o0 o1 o2 o3 o4 o5 o6 o7 i w : Int) (h : Tab.okS i w) : Con Tryz.prog 65 [.agg [.v (.int .i64 o0), .v (.int .i64 o1), .v (.int .i64 o2), .v (.int .i64 o3), .v (.int .i64 o4), .v (.int .i64 o5), .v (.int .i64 o6), .v (.int .i64 o7)], .one (.v (.int .i64 i)), .one (.v (.int .i64 w))] (fun rx rK rt => rx = .val (.bool (offR o0 o1 o2 o3 o4 o5 o6 o7 i w)) ∧ rK = [] ∧ rt = 0) := by
 have h2 : (i = 0 ∧ w = 1) ∨ (i = 0 ∧ w = 2) ∨ (i = 1 ∧ w = 2) ∨ (i = 0 ∧ w = 3) ∨ (i = 1 ∧ w = 3) ∨ (i = 2 ∧ w = 3) := by unfold Tab.okS at h; omega
 rcases h2 with ⟨rfl, rfl⟩ | ⟨rfl, rfl⟩ | ⟨rfl, rfl⟩ | ⟨rfl, rfl⟩ | ⟨rfl, rfl⟩ | ⟨rfl, rfl⟩
 ·have h := areoff_in o0 o1 o2 o3 o4 o5 o6 o7 o0 o1 o2 o3 o4 o5 o6 o7 0 1 (joined_0_1 o0 o1 o2 o3 o4 o5 o6 o7)
  have e : ownO [o0, o1, o2, o3, o4, o5, o6, o7] 0 1 = ((o0 == o0 && (o1 == o1 && (o2 == o2 && (o3 == o3 && (o4 == o4 && (o5 == o5 && (o6 == o6 && (o7 == o7 && true))))))))) := by
   rw [Bool.eq_iff_iff]
   unfold ownO Tab.ownG
   simp [List.zipIdx]
  unfold offR
  rw [e]
  exact h
 ·have h := areoff_in o0 o1 o2 o3 o4 o5 o6 o7 o0 o1 o2 o3 0 0 0 0 0 2 (joined_0_2 o0 o1 o2 o3 o4 o5 o6 o7)
  have e : ownO [o0, o1, o2, o3, o4, o5, o6, o7] 0 2 = ((o0 == o0 && (o1 == o1 && (o2 == o2 && (o3 == o3 && (o4 == 0 && (o5 == 0 && (o6 == 0 && (o7 == 0 && true))))))))) := by
   rw [Bool.eq_iff_iff]
   unfold ownO Tab.ownG
   simp [List.zipIdx]
  unfold offR
  rw [e]
  exact h
 ·have h := areoff_in o0 o1 o2 o3 o4 o5 o6 o7 0 0 0 0 o4 o5 o6 o7 1 2 (joined_1_2 o0 o1 o2 o3 o4 o5 o6 o7)
  have e : ownO [o0, o1, o2, o3, o4, o5, o6, o7] 1 2 = ((o0 == 0 && (o1 == 0 && (o2 == 0 && (o3 == 0 && (o4 == o4 && (o5 == o5 && (o6 == o6 && (o7 == o7 && true))))))))) := by
   rw [Bool.eq_iff_iff]
   unfold ownO Tab.ownG
   simp [List.zipIdx]
  unfold offR
  rw [e]
  exact h
 ·have h := areoff_in o0 o1 o2 o3 o4 o5 o6 o7 o0 o1 o2 0 0 0 0 0 0 3 (joined_0_3 o0 o1 o2 o3 o4 o5 o6 o7)
  have e : ownO [o0, o1, o2, o3, o4, o5, o6, o7] 0 3 = ((o0 == o0 && (o1 == o1 && (o2 == o2 && (o3 == 0 && (o4 == 0 && (o5 == 0 && (o6 == 0 && (o7 == 0 && true))))))))) := by
   rw [Bool.eq_iff_iff]
   unfold ownO Tab.ownG
   simp [List.zipIdx]
  unfold offR
  rw [e]
  exact h
 ·have h := areoff_in o0 o1 o2 o3 o4 o5 o6 o7 0 0 0 o3 o4 o5 0 0 1 3 (joined_1_3 o0 o1 o2 o3 o4 o5 o6 o7)
  have e : ownO [o0, o1, o2, o3, o4, o5, o6, o7] 1 3 = ((o0 == 0 && (o1 == 0 && (o2 == 0 && (o3 == o3 && (o4 == o4 && (o5 == o5 && (o6 == 0 && (o7 == 0 && true))))))))) := by
   rw [Bool.eq_iff_iff]
   unfold ownO Tab.ownG
   simp [List.zipIdx]
  unfold offR
  rw [e]
  exact h
 ·have h := areoff_in o0 o1 o2 o3 o4 o5 o6 o7 0 0 0 0 0 0 o6 o7 2 3 (joined_2_3 o0 o1 o2 o3 o4 o5 o6 o7)
  have e : ownO [o0, o1, o2, o3, o4, o5, o6, o7] 2 3 = ((o0 == 0 && (o1 == 0 && (o2 == 0 && (o3 == 0 && (o4 == 0 && (o5 == 0 && (o6 == o6 && (o7 == o7 && true))))))))) := by
   rw [Bool.eq_iff_iff]
   unfold ownO Tab.ownG
   simp [List.zipIdx]
  unfold offR
  rw [e]
  exact h
end Go.Proofs.YtopieffkpdlpbaaGreat
namespace Go.Proofs.YtopieffkpdlpbaaGreat
open Go Go.RowKit Wx
set_option maxHeartbeats 4000000
def nmOk (x : Nm) : Bool := decide ((0 ≤ x.s ∧ x.s < 16) ∧ (1 ≤ x.a ∧ x.a ≤ 1048576) ∧ 1 ≤ x.n ∧ x.n ≤ 1048576)
def nLt (x y : Nm) : Prop := x.s < y.s ∨ (x.s = y.s ∧ (x.a < y.a ∨ (x.a = y.a ∧ x.n < y.n)))
instance (x y : Nm) : Decidable (nLt x y) := by unfold nLt; infer_instance
def nC (x y : Nm) : Int := if Tab.cmpI x.s y.s ≠ 0 then Tab.cmpI x.s y.s else if Tab.cmpI x.a y.a ≠ 0 then Tab.cmpI x.a y.a else Tab.cmpI x.n y.n
theorem nC_lt (x y : Nm) : decide (0 ≤ nC x y) = !decide (nLt x y) := by
 have h : 0 ≤ nC x y ↔ ¬ nLt x y := by
  unfold nC Tab.cmpI nLt
  by_cases h1 : x.s < y.s
  ·simp [h1]
  ·by_cases h2 : y.s < x.s
   ·have : ¬ x.s = y.s := by omega
    simp [h1, h2, this]
   ·have h3 : x.s = y.s := by omega
    by_cases h4 : x.a < y.a
    ·simp [h3, h4]
    ·by_cases h5 : y.a < x.a
     ·have : ¬ x.a = y.a := by omega
      simp [h3, h4, h5, this]
     ·have h6 : x.a = y.a := by omega
      by_cases h7 : x.n < y.n
      ·simp [h3, h6, h7]
      ·by_cases h8 : y.n < x.n
       ·simp [h3, h6, h7, h8]
       ·simp [h3, h6, h7, h8]
 by_cases hl : nLt x y
 ·rw [decide_eq_false (fun h9 => h.1 h9 hl), decide_eq_true hl]; rfl
 ·rw [decide_eq_true (h.2 hl), decide_eq_false hl]; rfl
def nOk : Option Nm → List Nm → Bool
 | _, [] => true
 | none, x :: r => nmOk x && nOk (some x) r
 | some p, x :: r => nmOk x && decide (nLt p x) && nOk (some x) r
def nPrev (l : List Nm) : Nat → Option Nm
 | 0 => none
 | i + 1 => l[i]?
theorem nOk_at {l : List Nm} {i : Nat} {x : Nm} (h : l[i]? = some x) : nOk (nPrev l i) (l.drop i) = (nmOk x && (match nPrev l i with | none => true | some q => decide (nLt q x)) && nOk (nPrev l (i + 1)) (l.drop (i + 1))) := by
 rw [drop_cons h]
 have e : nPrev l (i + 1) = some x := h
 rw [e]
 cases hp : nPrev l i with
 | none => simp [nOk]
 | some q => simp [nOk]
def namesR (l : List Nm) : Bool := decide (l.length ≤ 24) && nOk none l
theorem cname_con (x : Nm)  : Con Tryz.prog 87 [.agg [.v (.int .i64 x.s), .v (.int .i64 x.a), .v (.int .i64 x.n)]] (fun rx rK rt => rx = .val (.int .i64 (bif nmOk x then 0 else 2)) ∧ rK = [] ∧ rt = 0) := by
 refine Z.con_ofF tabOk 6 Tryz.f87 _ Tryz.func87 (by kernel_rfl) rfl rfl rfl rfl ?_
 cases hk : nmOk x
 ·have hk := of_decide_eq_false hk
  try simp only [cond_false]
  repeat' ((conv => whnf); first
   | with_reducible first | refine spB_t ?_
   | ((with_reducible apply spB_cong); (focus (simp only [splQ, Int.reduceBEq, Int.reduceBNe]; rfl)))
   | with_reducible first | refine spB_yes (by decide) ?_ | refine spB_no (by decide) ?_ | refine spB_not ?_
   | (with_reducible refine spB_dec ?_ ?_ <;> intro _ <;> (try (exfalso; first | contradiction | omega | (rename_i hz; refine hz ?_; simp; done) | (rename_i hz; simp at hz; done) | (simp only [LN] at *; omega))))
   | with_reducible first | refine Z.loopZ_unroll tabOk 2 ?_
   | ((with_reducible apply rowN_mk); (focus rfl))
   | ((with_reducible apply ixN_lit); (focus rfl); (focus rfl))
   | with_reducible first | refine Z.callZ_in tabOk 15 Tryz.f110 _ Tryz.func110 (by kernel_rfl) rfl rfl rfl ?_ | refine Z.callZ_in tabOk 24 Tryz.f123 _ Tryz.func123 (by kernel_rfl) rfl rfl rfl ?_ | refine Z.callZ_in tabOk 9 Tryz.f141 _ Tryz.func141 (by kernel_rfl) rfl rfl rfl ?_
   | ((with_reducible apply ex_and); exact rfl)
   | fail)
  all_goals (try (conv => whnf))
  all_goals try first | (show Nat.ble _ _ = true; rfl) | (exfalso; rename_i hz; cases hz; done) | (exfalso; (try simp only [LN] at *) <;> omega)
  all_goals first
   | ((first | (with_reducible apply Z.retF1)); (focus rfl); (repeat' (first | exact trivial | (with_reducible apply Z.frz_one) | (with_reducible apply Z.fq_int) | exact rfl | apply And.intro)); (all_goals (try exact (fun _ => none))); all_goals (first | (simp; done)))
   | fail
 ·have hk := of_decide_eq_true hk
  try simp only [cond_true]
  repeat' ((conv => whnf); first
   | with_reducible first | refine spB_t ?_
   | with_reducible first | refine spB_yes (by decide) ?_ | refine spB_no (by decide) ?_ | refine spB_not ?_
   | (with_reducible refine spB_dec ?_ ?_ <;> intro _ <;> (try (exfalso; first | contradiction | omega | (rename_i hz; refine hz ?_; simp; done) | (rename_i hz; simp at hz; done) | (simp only [LN] at *; omega))))
   | with_reducible first | refine Z.loopZ_unroll tabOk 2 ?_
   | ((with_reducible apply rowN_mk); (focus rfl))
   | ((with_reducible apply ixN_lit); (focus rfl); (focus rfl))
   | with_reducible refine wr_i64 (by first | omega | (simp only [LN] at *; omega)) ?_
   | with_reducible first | refine Z.callZ_in tabOk 15 Tryz.f110 _ Tryz.func110 (by kernel_rfl) rfl rfl rfl ?_ | refine Z.callZ_in tabOk 24 Tryz.f123 _ Tryz.func123 (by kernel_rfl) rfl rfl rfl ?_ | refine Z.callZ_in tabOk 9 Tryz.f141 _ Tryz.func141 (by kernel_rfl) rfl rfl rfl ?_
   | ((with_reducible apply ex_and); exact rfl)
   | fail)
  all_goals (try (conv => whnf))
  all_goals try first | (show Nat.ble _ _ = true; rfl) | (exfalso; rename_i hz; cases hz; done) | (exfalso; (try simp only [LN] at *) <;> omega)
  all_goals first
   | ((first | (with_reducible apply Z.retF1)); (focus rfl); (repeat' (first | exact trivial | (with_reducible apply Z.frz_one) | (with_reducible apply Z.fq_int) | exact rfl | apply And.intro)); (all_goals (try exact (fun _ => none))); all_goals (first | (simp; done)))
   | fail
theorem rname_con (x : Nm)  : Con Tryz.prog 60 [.agg [.v (.int .i64 x.s), .v (.int .i64 x.a), .v (.int .i64 x.n)]] (fun rx rK rt => rx = .val (.bool (nmOk x)) ∧ rK = [] ∧ rt = 0) := by
 refine Z.con_ofF tabOk 31 Tryz.f60 _ Tryz.func60 (by kernel_rfl) rfl rfl rfl rfl ?_
 unfold nmOk
 repeat' ((conv => whnf); first
  | with_reducible first | refine spB_t ?_
  | with_reducible first | refine spB_no (by decide) ?_
  | (with_reducible refine spB_dec ?_ ?_ <;> intro _ <;> (try (exfalso; first | contradiction | omega | (rename_i hz; refine hz ?_; simp; done) | (rename_i hz; simp at hz; done) | (simp only [LN] at *; omega))))
  | fail)
 all_goals (try (conv => whnf))
 all_goals try first | (show Nat.ble _ _ = true; rfl) | (exfalso; rename_i hz; cases hz; done) | (exfalso; (try simp only [LN] at *) <;> omega)
 all_goals first
  | ((first | (with_reducible apply Z.retF1)); (focus rfl); (repeat' (first | exact trivial | (with_reducible apply Z.frz_one) | (with_reducible apply Z.fq_bool) | apply And.intro)); (all_goals (try exact (fun _ => none))); all_goals (first | exact bool_p (by omega) | exact bool_f (by omega)))
  | fail
theorem ncmp_con (x y : Nm)  : Con Tryz.prog 88 [.agg [.v (.int .i64 x.s), .v (.int .i64 x.a), .v (.int .i64 x.n)], .agg [.v (.int .i64 y.s), .v (.int .i64 y.a), .v (.int .i64 y.n)]] (fun rx rK rt => rx = .val (.int .i64 (nC x y)) ∧ rK = [] ∧ rt = 0) := by
 refine Z.con_ofF tabOk 22 Tryz.f88 _ Tryz.func88 (by kernel_rfl) rfl rfl rfl rfl ?_
 have c1 := Tab.cmp_con x.s y.s
 have c2 := Tab.cmp_con x.a y.a
 have c3 := Tab.cmp_con x.n y.n
 unfold nC
 generalize Tab.cmpI x.s y.s = A at *
 generalize Tab.cmpI x.a y.a = B at *
 generalize Tab.cmpI x.n y.n = C at *
 by_cases hA : A ≠ 0
 ·rw [if_pos hA]
  repeat' ((conv => whnf); first
   | with_reducible first | refine spB_yes (by decide) ?_
   | (with_reducible refine spB_bne ?_ ?_ <;> intro _ <;> (try (exfalso; first | contradiction | omega | (rename_i hz; refine hz ?_; simp; done) | (rename_i hz; simp at hz; done) | (simp only [LN] at *; omega))))
   | with_reducible first | refine Z.loopZ_unroll tabOk 4 ?_
   | ((with_reducible apply rowN_mk); (focus rfl))
   | ((with_reducible apply ixN_lit); (focus rfl); (focus rfl))
   | with_reducible first | refine Z.callZ_in tabOk 18 Tryz.f111 _ Tryz.func111 (by kernel_rfl) rfl rfl rfl ?_
   | ((first | (with_reducible refine Z.conZ_mz ?_ (c1) ?_)); (focus ((repeat' (first | exact trivial | exact rfl | apply And.intro)); done)))
   | ((first | (with_reducible refine Z.conZ_mz ?_ (c2) ?_)); (focus ((repeat' (first | exact trivial | exact rfl | apply And.intro)); done)))
   | ((first | (with_reducible refine Z.conZ_mz ?_ (c3) ?_)); (focus ((repeat' (first | exact trivial | exact rfl | apply And.intro)); done)))
   | ((with_reducible apply ex_and); exact rfl)
   | with_reducible first | refine Z.drawZ_rule tabOk mixOk ?_ | refine Z.apZ_mk (by kernel_rfl) ?_
   | ((with_reducible refine Z.ConZ.red ?_); (try subst hlb); (apply Z.conZ_all); (focus (repeat (first | exact Z.FK.nil | (apply Z.FK.keep; exact rfl)))); (focus rfl); (focus rfl); (focus (repeat (first | exact trivial | (refine ⟨(fun o ho => (by first | (cases ho; rfl) | (cases ho; exact Z.inL_map fun _ => rfl) | (cases ho; exact Z.inL_mapr fun _ => rfl) | exact Z.inL_gB ho fun _ => rfl)), ?_⟩)))))
   | ((refine ⟨rfl, ?_, rfl⟩); (focus (repeat (first | exact Z.DK.nil))))
   | fail)
  all_goals (try (conv => whnf))
  all_goals try first | (show Nat.ble _ _ = true; rfl) | (exfalso; rename_i hz; cases hz; done) | (exfalso; (try simp only [LN] at *) <;> omega)
  all_goals first
   | ((first | (with_reducible apply Z.retF1)); (focus rfl); (repeat' (first | exact trivial | (with_reducible apply Z.frz_one) | exact rfl | apply And.intro)); (all_goals (try exact (fun _ => none))); all_goals (first | (simp_all; done)))
   | fail
 by_cases hB : B ≠ 0
 ·rw [if_neg hA, if_pos hB]
  repeat' ((conv => whnf); first
   | with_reducible first | refine spB_yes (by decide) ?_
   | (with_reducible refine spB_bne ?_ ?_ <;> intro _ <;> (try (exfalso; first | contradiction | omega | (rename_i hz; refine hz ?_; simp; done) | (rename_i hz; simp at hz; done) | (simp only [LN] at *; omega))))
   | with_reducible first | refine Z.loopZ_unroll tabOk 4 ?_
   | ((with_reducible apply rowN_mk); (focus rfl))
   | ((with_reducible apply ixN_lit); (focus rfl); (focus rfl))
   | with_reducible refine wr_i64 (by first | omega | (simp only [LN] at *; omega)) ?_
   | with_reducible first | refine Z.callZ_in tabOk 18 Tryz.f111 _ Tryz.func111 (by kernel_rfl) rfl rfl rfl ?_
   | ((first | (with_reducible refine Z.conZ_mz ?_ (c1) ?_)); (focus ((repeat' (first | exact trivial | exact rfl | apply And.intro)); done)))
   | ((first | (with_reducible refine Z.conZ_mz ?_ (c2) ?_)); (focus ((repeat' (first | exact trivial | exact rfl | apply And.intro)); done)))
   | ((first | (with_reducible refine Z.conZ_mz ?_ (c3) ?_)); (focus ((repeat' (first | exact trivial | exact rfl | apply And.intro)); done)))
   | ((with_reducible apply ex_and); exact rfl)
   | with_reducible first | refine Z.drawZ_rule tabOk mixOk ?_ | refine Z.apZ_mk (by kernel_rfl) ?_
   | ((with_reducible refine Z.ConZ.red ?_); (try subst hlb); (apply Z.conZ_all); (focus (repeat (first | exact Z.FK.nil | (apply Z.FK.keep; exact rfl)))); (focus rfl); (focus rfl); (focus (repeat (first | exact trivial | (refine ⟨(fun o ho => (by first | (cases ho; rfl) | (cases ho; exact Z.inL_map fun _ => rfl) | (cases ho; exact Z.inL_mapr fun _ => rfl) | exact Z.inL_gB ho fun _ => rfl)), ?_⟩)))))
   | ((refine ⟨rfl, ?_, rfl⟩); (focus (repeat (first | exact Z.DK.nil))))
   | fail)
  all_goals (try (conv => whnf))
  all_goals try first | (show Nat.ble _ _ = true; rfl) | (exfalso; rename_i hz; cases hz; done) | (exfalso; (try simp only [LN] at *) <;> omega)
  all_goals first
   | ((first | (with_reducible apply Z.retF1)); (focus rfl); (repeat' (first | exact trivial | (with_reducible apply Z.frz_one) | exact rfl | apply And.intro)); (all_goals (try exact (fun _ => none))); all_goals (first | (simp_all; done)))
   | fail
 rw [if_neg hA, if_neg hB]
 by_cases hC : C = 0
 ·subst hC
  repeat' ((conv => whnf); first
   | ((with_reducible apply spB_cong); (focus (simp only [splQ, Int.reduceBEq, Int.reduceBNe]; rfl)))
   | with_reducible first | refine spB_yes (by decide) ?_ | refine spB_no (by decide) ?_
   | (with_reducible refine spB_bne ?_ ?_ <;> intro _ <;> (try (exfalso; first | contradiction | omega | (rename_i hz; refine hz ?_; simp; done) | (rename_i hz; simp at hz; done) | (simp only [LN] at *; omega))))
   | with_reducible first | refine Z.loopZ_unroll tabOk 4 ?_
   | ((with_reducible apply rowN_mk); (focus rfl))
   | ((with_reducible apply ixN_lit); (focus rfl); (focus rfl))
   | with_reducible refine wr_i64 (by first | omega | (simp only [LN] at *; omega)) ?_
   | with_reducible first | refine Z.callZ_in tabOk 18 Tryz.f111 _ Tryz.func111 (by kernel_rfl) rfl rfl rfl ?_
   | ((first | (with_reducible refine Z.conZ_mz ?_ (c1) ?_)); (focus ((repeat' (first | exact trivial | exact rfl | apply And.intro)); done)))
   | ((first | (with_reducible refine Z.conZ_mz ?_ (c2) ?_)); (focus ((repeat' (first | exact trivial | exact rfl | apply And.intro)); done)))
   | ((first | (with_reducible refine Z.conZ_mz ?_ (c3) ?_)); (focus ((repeat' (first | exact trivial | exact rfl | apply And.intro)); done)))
   | ((with_reducible apply ex_and); exact rfl)
   | with_reducible first | refine Z.drawZ_rule tabOk mixOk ?_ | refine Z.apZ_mk (by kernel_rfl) ?_
   | ((with_reducible refine Z.ConZ.red ?_); (try subst hlb); (apply Z.conZ_all); (focus (repeat (first | exact Z.FK.nil | (apply Z.FK.keep; exact rfl)))); (focus rfl); (focus rfl); (focus (repeat (first | exact trivial | (refine ⟨(fun o ho => (by first | (cases ho; rfl) | (cases ho; exact Z.inL_map fun _ => rfl) | (cases ho; exact Z.inL_mapr fun _ => rfl) | exact Z.inL_gB ho fun _ => rfl)), ?_⟩)))))
   | ((refine ⟨rfl, ?_, rfl⟩); (focus (repeat (first | exact Z.DK.nil))))
   | fail)
  all_goals (try (conv => whnf))
  all_goals try first | (show Nat.ble _ _ = true; rfl) | (exfalso; rename_i hz; cases hz; done) | (exfalso; (try simp only [LN] at *) <;> omega)
  all_goals first
   | ((first | (with_reducible apply Z.retF1)); (focus rfl); (repeat' (first | exact trivial | (with_reducible apply Z.frz_one) | (with_reducible apply Z.fq_int) | exact rfl | apply And.intro)); (all_goals (try exact (fun _ => none))); all_goals (first | (simp_all; done)))
   | fail
 repeat' ((conv => whnf); first
  | with_reducible first | refine spB_yes (by decide) ?_
  | (with_reducible refine spB_bne ?_ ?_ <;> intro _ <;> (try (exfalso; first | contradiction | omega | (rename_i hz; refine hz ?_; simp; done) | (rename_i hz; simp at hz; done) | (simp only [LN] at *; omega))))
  | with_reducible first | refine Z.loopZ_unroll tabOk 4 ?_
  | ((with_reducible apply rowN_mk); (focus rfl))
  | ((with_reducible apply ixN_lit); (focus rfl); (focus rfl))
  | with_reducible refine wr_i64 (by first | omega | (simp only [LN] at *; omega)) ?_
  | with_reducible first | refine Z.callZ_in tabOk 18 Tryz.f111 _ Tryz.func111 (by kernel_rfl) rfl rfl rfl ?_
  | ((first | (with_reducible refine Z.conZ_mz ?_ (c1) ?_)); (focus ((repeat' (first | exact trivial | exact rfl | apply And.intro)); done)))
  | ((first | (with_reducible refine Z.conZ_mz ?_ (c2) ?_)); (focus ((repeat' (first | exact trivial | exact rfl | apply And.intro)); done)))
  | ((first | (with_reducible refine Z.conZ_mz ?_ (c3) ?_)); (focus ((repeat' (first | exact trivial | exact rfl | apply And.intro)); done)))
  | ((with_reducible apply ex_and); exact rfl)
  | with_reducible first | refine Z.drawZ_rule tabOk mixOk ?_ | refine Z.apZ_mk (by kernel_rfl) ?_
  | ((with_reducible refine Z.ConZ.red ?_); (try subst hlb); (apply Z.conZ_all); (focus (repeat (first | exact Z.FK.nil | (apply Z.FK.keep; exact rfl)))); (focus rfl); (focus rfl); (focus (repeat (first | exact trivial | (refine ⟨(fun o ho => (by first | (cases ho; rfl) | (cases ho; exact Z.inL_map fun _ => rfl) | (cases ho; exact Z.inL_mapr fun _ => rfl) | exact Z.inL_gB ho fun _ => rfl)), ?_⟩)))))
  | ((refine ⟨rfl, ?_, rfl⟩); (focus (repeat (first | exact Z.DK.nil))))
  | fail)
 all_goals (try (conv => whnf))
 all_goals try first | (show Nat.ble _ _ = true; rfl) | (exfalso; rename_i hz; cases hz; done) | (exfalso; (try simp only [LN] at *) <;> omega)
 all_goals first
  | ((first | (with_reducible apply Z.retF1)); (focus rfl); (repeat' (first | exact trivial | (with_reducible apply Z.frz_one) | exact rfl | apply And.intro)); (all_goals (try exact (fun _ => none))); all_goals (first | (simp_all; done)))
  | fail
theorem nless_con (x y : Nm)  : Con Tryz.prog 61 [.agg [.v (.int .i64 x.s), .v (.int .i64 x.a), .v (.int .i64 x.n)], .agg [.v (.int .i64 y.s), .v (.int .i64 y.a), .v (.int .i64 y.n)]] (fun rx rK rt => rx = .val (.bool (decide (nLt x y))) ∧ rK = [] ∧ rt = 0) := by
 refine Z.con_ofF tabOk 32 Tryz.f61 _ Tryz.func61 (by kernel_rfl) rfl rfl rfl rfl ?_
 repeat' ((conv => whnf); first
  | (with_reducible refine spB_bne ?_ ?_ <;> intro _ <;> (try (exfalso; first | contradiction | omega | (rename_i hz; refine hz ?_; simp; done) | (rename_i hz; simp at hz; done) | (simp only [LN] at *; omega))))
  | fail)
 all_goals (try (conv => whnf))
 all_goals try first | (show Nat.ble _ _ = true; rfl) | (exfalso; rename_i hz; cases hz; done) | (exfalso; (try simp only [LN] at *) <;> omega)
 all_goals first
  | ((first | (with_reducible apply Z.retF1)); (focus rfl); (repeat' (first | exact trivial | (with_reducible apply Z.frz_one) | (with_reducible apply Z.fq_bool) | apply And.intro)); (all_goals (try exact (fun _ => none))); all_goals (first | exact bool_p (by unfold nLt; omega)))
  | fail
end Go.Proofs.YtopieffkpdlpbaaGreat
namespace Go.Proofs.YtopieffkpdlpbaaGreat
open Go Go.RowKit Wx
set_option maxHeartbeats 4000000
theorem namesok_con (l : List Nm) (hl : l.length ≤ 9223372036854775807) : Con Tryz.prog 54 [.one (.ro false 3 (l.map eN))] (fun rx rK rt => rx = .val (.bool (namesR l)) ∧ rK = [] ∧ rt = 0) := by
 refine Z.con_ofF tabOk 33 Tryz.f54 _ Tryz.func54 (by kernel_rfl) rfl rfl rfl rfl ?_
 unfold namesR
 by_cases hc : l.length ≤ 24
 rotate_left
 ·rw [decide_eq_false hc, Bool.false_and]
  repeat' ((conv => whnf); first
   | (with_reducible refine spB_dec ?_ ?_ <;> intro _ <;> (try (exfalso; first | contradiction | omega | (rename_i hz; refine hz ?_; simp; done) | (rename_i hz; simp at hz; done) | (simp only [LN] at *; omega))))
   | fail)
  all_goals (try (conv => whnf))
  all_goals try first | (show Nat.ble _ _ = true; rfl) | (exfalso; rename_i hz; cases hz; done) | (exfalso; (try simp only [LN] at *) <;> omega)
  all_goals first
   | ((first | (with_reducible apply Z.retF1)); (focus rfl); (repeat' (first | exact trivial | (with_reducible apply Z.frz_one) | (with_reducible apply Z.fq_bool) | exact rfl | apply And.intro)); (all_goals (try exact (fun _ => none))); all_goals (first | (simp; done)))
   | fail
 rw [decide_eq_true hc, Bool.true_and]
 repeat' ((conv => whnf); first
  | (with_reducible refine spB_dec ?_ ?_ <;> intro _ <;> (try (exfalso; first | contradiction | omega | (rename_i hz; refine hz ?_; simp; done) | (rename_i hz; simp at hz; done) | (simp only [LN] at *; omega))))
  | fail)
 all_goals (try (conv => whnf))
 all_goals try first | (show Nat.ble _ _ = true; rfl) | (exfalso; rename_i hz; cases hz; done) | (exfalso; (try simp only [LN] at *) <;> omega)
 refine Z.loopK tabOk (fun zq : Nat => [(10, .val (.int .i64 (zq : Int)))]) (fun zq : Nat => ([] : Z.Kr)) (fun zq => zq ≤ l.length ∧ nOk none l = nOk (nPrev l zq) (l.drop zq)) (fun zq => l.length - zq) 0 0 [(0, _), (8, _), (9, _)] ⟨rfl, rfl, rfl, trivial⟩ [] trivial ?_ ?_ rfl rfl ⟨Nat.zero_le _, rfl⟩ ?_
 ·repeat' (first | exact trivial | apply And.intro | exact ⟨_, rfl, Z.Imp.refl _⟩)
 ·repeat' (first | exact trivial)
 rintro i HINV
 (try dsimp only at HINV); (try dsimp only)
 obtain ⟨HI, HT⟩ := HINV
 by_cases hi : i < l.length
 ·obtain ⟨x, hx⟩ := getElem?_some' (xs := l) (i := i) hi
  rw [nOk_at hx] at HT
  have ck := cname_con x
  cases hk : nmOk x
  ·rw [hk] at ck HT
   simp only [Bool.false_and] at HT
   try simp only [cond_false] at ck
   rw [HT]
   repeat' ((conv => whnf); first
    | with_reducible first | refine spB_t ?_
    | ((with_reducible apply spB_cong); (focus (simp only [splQ, Int.reduceBEq, Int.reduceBNe]; rfl)))
    | (with_reducible refine spB_dec ?_ ?_ <;> intro _ <;> (try (exfalso; first | contradiction | omega | (rename_i hz; refine hz ?_; simp; done) | (rename_i hz; simp at hz; done) | (simp only [LN] at *; omega))))
    | with_reducible first | refine Z.rowN_known hx ?_
    | ((with_reducible apply ixN_litp); (focus rfl); (focus ((try simp only [LN] at *) <;> omega)))
    | ((first | (with_reducible refine Z.conZ_mz ?_ (ck) ?_)); (focus ((repeat' (first | exact trivial | exact rfl | apply And.intro)); done)))
    | with_reducible first | refine Z.drawZ_rule tabOk mixOk ?_ | refine Z.apZ_mk (by kernel_rfl) ?_
    | fail)
   all_goals (try (conv => whnf))
   all_goals try first | (show Nat.ble _ _ = true; rfl) | (exfalso; rename_i hz; cases hz; done) | (exfalso; (try simp only [LN] at *) <;> omega)
   all_goals first
    | ((first | (with_reducible apply Z.retF1)); (focus rfl); (repeat' (first | exact trivial | (with_reducible apply Z.frz_one) | (with_reducible apply Z.fq_bool) | exact rfl | apply And.intro)); (all_goals (try exact (fun _ => none))); all_goals (first | (simp; done)))
    | fail
  rw [hk] at ck HT
  simp only [Bool.true_and] at HT
  try simp only [cond_true] at ck
  rcases i with _ | j
  ·have HT2 : nOk none l = nOk (nPrev l 1) (l.drop 1) := by rw [HT]; rfl
   repeat' ((conv => whnf); first
    | ((with_reducible apply spB_cong); (focus (simp only [splQ, Int.reduceBEq, Int.reduceBNe]; rfl)))
    | with_reducible first | refine spB_no (by decide) ?_
    | (with_reducible refine spB_dec ?_ ?_ <;> intro _ <;> (try (exfalso; first | contradiction | omega | (rename_i hz; refine hz ?_; simp; done) | (rename_i hz; simp at hz; done) | (simp only [LN] at *; omega))))
    | with_reducible first | refine Z.rowN_known hx ?_
    | ((with_reducible apply ixN_litp); (focus rfl); (focus ((try simp only [LN] at *) <;> omega)))
    | with_reducible refine wr_i64 (by first | omega | (simp only [LN] at *; omega)) ?_
    | ((first | (with_reducible refine Z.conZ_mz ?_ (ck) ?_)); (focus ((repeat' (first | exact trivial | exact rfl | apply And.intro)); done)))
    | with_reducible first | refine Z.drawZ_rule tabOk mixOk ?_ | refine Z.apZ_mk (by kernel_rfl) ?_
    | fail)
   all_goals (try (conv => whnf))
   all_goals try first | (show Nat.ble _ _ = true; rfl) | (exfalso; rename_i hz; cases hz; done) | (exfalso; (try simp only [LN] at *) <;> omega)
   all_goals first
    | ((refine Z.rndK (1) (fun s => []) rfl rfl rfl rfl ?_ ?_ ?_ ?_); (focus (repeat' (first | exact trivial | exact rfl | apply And.intro))); (focus (repeat' (first | exact trivial))); (focus (exact ⟨by (try dsimp only); omega, HT2⟩)); ((try dsimp only); omega))
    | fail
  obtain ⟨q, hq⟩ := getElem?_some' (xs := l) (i := j) (by omega)
  have hpr : nPrev l (j + 1) = some q := hq
  rw [hpr] at HT
  simp only at HT
  have cc := ncmp_con q x
  have hcl := nC_lt q x
  generalize nC q x = C at *
  by_cases hlt : nLt q x
  ·rw [decide_eq_true hlt] at HT hcl
   have hC : ¬ 0 ≤ C := of_decide_eq_false (by simpa using hcl)
   rw [Bool.true_and] at HT
   repeat' ((conv => whnf); first
    | with_reducible first | refine spB_t ?_
    | ((with_reducible apply spB_cong); (focus (simp only [splQ, Int.reduceBEq, Int.reduceBNe]; rfl)))
    | with_reducible first | refine spB_no (by decide) ?_
    | (with_reducible refine spB_dec ?_ ?_ <;> intro _ <;> (try (exfalso; first | contradiction | omega | (rename_i hz; refine hz ?_; simp; done) | (rename_i hz; simp at hz; done) | (simp only [LN] at *; omega))))
    | with_reducible first | refine Z.rowN_known hx ?_ | refine Z.rowN_known hq ?_
    | ((with_reducible refine ixN_mk (j) ?_ ?_ ?_); (focus (first | ((try simp only [LN] at *) <;> omega))); (focus ((try simp only [LN] at *) <;> omega)))
    | ((with_reducible apply ixN_litp); (focus rfl); (focus ((try simp only [LN] at *) <;> omega)))
    | with_reducible refine wr_i64 (by first | omega | (simp only [LN] at *; omega)) ?_
    | ((first | (with_reducible refine Z.conZ_mz ?_ (ck) ?_) | (with_reducible refine Z.conZ_mz ?_ (cc) ?_)); (focus ((repeat' (first | exact trivial | exact rfl | apply And.intro)); done)))
    | with_reducible first | refine Z.drawZ_rule tabOk mixOk ?_ | refine Z.apZ_mk (by kernel_rfl) ?_
    | fail)
   all_goals (try (conv => whnf))
   all_goals try first | (show Nat.ble _ _ = true; rfl) | (exfalso; rename_i hz; cases hz; done) | (exfalso; (try simp only [LN] at *) <;> omega)
   all_goals first
    | ((refine Z.rndK ((j + 1 + 1)) (fun s => []) rfl rfl rfl rfl ?_ ?_ ?_ ?_); (focus (repeat' (first | exact trivial | exact rfl | apply And.intro))); (focus (repeat' (first | exact trivial))); (focus (exact ⟨by (try dsimp only); omega, HT⟩)); ((try dsimp only); omega))
    | fail
  ·rw [decide_eq_false hlt] at HT hcl
   have hC : 0 ≤ C := of_decide_eq_true (by simpa using hcl)
   rw [Bool.false_and] at HT
   rw [HT]
   repeat' ((conv => whnf); first
    | with_reducible first | refine spB_t ?_
    | ((with_reducible apply spB_cong); (focus (simp only [splQ, Int.reduceBEq, Int.reduceBNe]; rfl)))
    | with_reducible first | refine spB_no (by decide) ?_
    | (with_reducible refine spB_dec ?_ ?_ <;> intro _ <;> (try (exfalso; first | contradiction | omega | (rename_i hz; refine hz ?_; simp; done) | (rename_i hz; simp at hz; done) | (simp only [LN] at *; omega))))
    | with_reducible first | refine Z.rowN_known hx ?_ | refine Z.rowN_known hq ?_
    | ((with_reducible refine ixN_mk (j) ?_ ?_ ?_); (focus (first | ((try simp only [LN] at *) <;> omega))); (focus ((try simp only [LN] at *) <;> omega)))
    | ((with_reducible apply ixN_litp); (focus rfl); (focus ((try simp only [LN] at *) <;> omega)))
    | with_reducible refine wr_i64 (by first | omega | (simp only [LN] at *; omega)) ?_
    | ((first | (with_reducible refine Z.conZ_mz ?_ (ck) ?_) | (with_reducible refine Z.conZ_mz ?_ (cc) ?_)); (focus ((repeat' (first | exact trivial | exact rfl | apply And.intro)); done)))
    | with_reducible first | refine Z.drawZ_rule tabOk mixOk ?_ | refine Z.apZ_mk (by kernel_rfl) ?_
    | fail)
   all_goals (try (conv => whnf))
   all_goals try first | (show Nat.ble _ _ = true; rfl) | (exfalso; rename_i hz; cases hz; done) | (exfalso; (try simp only [LN] at *) <;> omega)
   all_goals first
    | ((first | (with_reducible apply Z.retF1)); (focus rfl); (repeat' (first | exact trivial | (with_reducible apply Z.frz_one) | (with_reducible apply Z.fq_bool) | exact rfl | apply And.intro)); (all_goals (try exact (fun _ => none))); all_goals (first | (simp; done)))
    | fail
 have hil : i = l.length := by omega
 subst hil
 rw [List.drop_length] at HT
 have HT3 : nOk none l = true := by rw [HT]; cases nPrev l l.length <;> rfl
 rw [HT3]
 repeat' ((conv => whnf); first
  | (with_reducible refine spB_dec ?_ ?_ <;> intro _ <;> (try (exfalso; first | contradiction | omega | (rename_i hz; refine hz ?_; simp; done) | (rename_i hz; simp at hz; done) | (simp only [LN] at *; omega))))
  | fail)
 all_goals (try (conv => whnf))
 all_goals try first | (show Nat.ble _ _ = true; rfl) | (exfalso; rename_i hz; cases hz; done) | (exfalso; (try simp only [LN] at *) <;> omega)
 all_goals first
  | ((first | (with_reducible apply Z.retF1)); (focus rfl); (repeat' (first | exact trivial | (with_reducible apply Z.frz_one) | (with_reducible apply Z.fq_bool) | exact rfl | apply And.intro)); (all_goals (try exact (fun _ => none))); all_goals (first | (simp; done)))
  | fail
end Go.Proofs.YtopieffkpdlpbaaGreat
namespace Go.Proofs.YtopieffkpdlpbaaGreat
open Go Go.RowKit Wx
set_option maxHeartbeats 4000000
namespace Tab
theorem mine_in (s k v i w : Int) (c0 c1 c2 c3 c4 c5 c6 c7 : Int) (hk : keyOk s k = true) (hs : okS i w) (cow : Con Tryz.prog 85 [.one (.v (.int .i64 w))] (fun rx rK rt => rx = .pl (.agg [.v (.int .i64 c0), .v (.int .i64 c1), .v (.int .i64 c2), .v (.int .i64 c3), .v (.int .i64 c4), .v (.int .i64 c5), .v (.int .i64 c6), .v (.int .i64 c7)]) ∧ rK = [] ∧ rt = 0)) : Con Tryz.prog 114 [.agg [.v (.int .i64 s), .v (.int .i64 k), .v (.int .i64 v)], .one (.v (.int .i64 i)), .one (.v (.int .i64 w))] (fun rx rK rt => rx = .val (.bool (decide ((([c0, c1, c2, c3, c4, c5, c6, c7] : List Int).getD (k % 8).toNat 0) = i))) ∧ rK = [] ∧ rt = 0) := by
 refine Z.con_ofF tabOk 24 Tryz.f114 _ Tryz.func114 (by kernel_rfl) rfl rfl rfl rfl ?_
 have ck := rec_con s k v
 have csh := share_con i w
 rw [hk] at ck
 rw [decide_eq_true hs] at csh
 try simp only [cond_true] at ck
 have hk2 := keyOk_iff.1 hk
 have cg := group_con s k v
 rw [show k.tmod 8 = k % 8 from Int.tmod_eq_emod_of_nonneg (by omega)] at cg
 have hj : k % 8 = 0 ∨ k % 8 = 1 ∨ k % 8 = 2 ∨ k % 8 = 3 ∨ k % 8 = 4 ∨ k % 8 = 5 ∨ k % 8 = 6 ∨ k % 8 = 7 := by omega
 rcases hj with hj | hj | hj | hj | hj | hj | hj | hj
 all_goals rw [hj] at cg ⊢
 all_goals (
  repeat' ((conv => whnf); first
   | with_reducible first | refine spB_t ?_
   | ((with_reducible apply spB_cong); (focus (simp only [splQ, Int.reduceBEq, Int.reduceBNe]; rfl)))
   | ((with_reducible apply ixN_lit); (focus rfl); (focus rfl))
   | ((first | (with_reducible refine Z.conZ_mz ?_ (ck) ?_) | (with_reducible refine Z.conZ_mz ?_ (cg) ?_) | (with_reducible refine Z.conZ_mz ?_ (csh) ?_) | (with_reducible refine Z.conZ_mz ?_ (cow) ?_)); (focus ((repeat' (first | exact trivial | exact rfl | apply And.intro)); done)))
   | with_reducible first | refine Z.drawZ_rule tabOk mixOk ?_ | refine Z.apZ_mk (by kernel_rfl) ?_
   | fail)
  all_goals (try (conv => whnf))
  all_goals try first | (show Nat.ble _ _ = true; rfl) | (exfalso; rename_i hz; cases hz; done) | (exfalso; (try simp only [LN] at *) <;> omega)
  all_goals first
   | ((first | (with_reducible apply Z.retF1)); (focus rfl); (repeat' (first | exact trivial | (with_reducible apply Z.frz_one) | (with_reducible apply Z.fq_bool) | exact rfl | apply And.intro)); (all_goals (try exact (fun _ => none))); all_goals (first | (simp_all; done)))
   | fail
  )
theorem mine_rec (s k v i w : Int) (hk : keyOk s k = false) : Con Tryz.prog 114 [.agg [.v (.int .i64 s), .v (.int .i64 k), .v (.int .i64 v)], .one (.v (.int .i64 i)), .one (.v (.int .i64 w))] (fun rx rK rt => rx = .val (.bool false) ∧ rK = [] ∧ rt = 0) := by
 refine Z.con_ofF tabOk 24 Tryz.f114 _ Tryz.func114 (by kernel_rfl) rfl rfl rfl rfl ?_
 have ck := rec_con s k v
 have csh := share_con i w
 rw [hk] at ck
 try simp only [cond_false] at ck
 repeat' ((conv => whnf); first
  | ((with_reducible apply spB_cong); (focus (simp only [splQ, Int.reduceBEq, Int.reduceBNe]; rfl)))
  | with_reducible first | refine spB_no (by decide) ?_
  | ((first | (with_reducible refine Z.conZ_mz ?_ (ck) ?_)); (focus ((repeat' (first | exact trivial | exact rfl | apply And.intro)); done)))
  | with_reducible first | refine Z.drawZ_rule tabOk mixOk ?_ | refine Z.apZ_mk (by kernel_rfl) ?_
  | fail)
 all_goals (try (conv => whnf))
 all_goals try first | (show Nat.ble _ _ = true; rfl) | (exfalso; rename_i hz; cases hz; done) | (exfalso; (try simp only [LN] at *) <;> omega)
 all_goals first
  | ((first | (with_reducible apply Z.retF1)); (focus rfl); (repeat' (first | exact trivial | (with_reducible apply Z.frz_one) | (with_reducible apply Z.fq_bool) | exact rfl | apply And.intro)); (all_goals (try exact (fun _ => none))); all_goals (first | (simp_all; done)))
  | fail
theorem mine_sh (s k v i w : Int) (hk : keyOk s k = true) (hs : ¬ okS i w) : Con Tryz.prog 114 [.agg [.v (.int .i64 s), .v (.int .i64 k), .v (.int .i64 v)], .one (.v (.int .i64 i)), .one (.v (.int .i64 w))] (fun rx rK rt => rx = .val (.bool false) ∧ rK = [] ∧ rt = 0) := by
 refine Z.con_ofF tabOk 24 Tryz.f114 _ Tryz.func114 (by kernel_rfl) rfl rfl rfl rfl ?_
 have ck := rec_con s k v
 have csh := share_con i w
 rw [hk] at ck
 rw [decide_eq_false hs] at csh
 try simp only [cond_true] at ck
 repeat' ((conv => whnf); first
  | with_reducible first | refine spB_t ?_
  | ((with_reducible apply spB_cong); (focus (simp only [splQ, Int.reduceBEq, Int.reduceBNe]; rfl)))
  | with_reducible first | refine spB_no (by decide) ?_
  | ((first | (with_reducible refine Z.conZ_mz ?_ (ck) ?_) | (with_reducible refine Z.conZ_mz ?_ (csh) ?_)); (focus ((repeat' (first | exact trivial | exact rfl | apply And.intro)); done)))
  | with_reducible first | refine Z.drawZ_rule tabOk mixOk ?_ | refine Z.apZ_mk (by kernel_rfl) ?_
  | fail)
 all_goals (try (conv => whnf))
 all_goals try first | (show Nat.ble _ _ = true; rfl) | (exfalso; rename_i hz; cases hz; done) | (exfalso; (try simp only [LN] at *) <;> omega)
 all_goals first
  | ((first | (with_reducible apply Z.retF1)); (focus rfl); (repeat' (first | exact trivial | (with_reducible apply Z.frz_one) | (with_reducible apply Z.fq_bool) | exact rfl | apply And.intro)); (all_goals (try exact (fun _ => none))); all_goals (first | (simp_all; done)))
  | fail
theorem mine_con (s k v i w : Int) : Con Tryz.prog 114 [.agg [.v (.int .i64 s), .v (.int .i64 k), .v (.int .i64 v)], .one (.v (.int .i64 i)), .one (.v (.int .i64 w))] (fun rx rK rt => rx = .val (.bool (mineB s k i w)) ∧ rK = [] ∧ rt = 0) := by
 unfold mineB
 cases hk : keyOk s k
 ·simp only [Bool.false_and]
  exact mine_rec s k v i w hk
 by_cases hs : okS i w
 rotate_left
 ·rw [decide_eq_false hs]
  simp only [Bool.true_and, Bool.false_and]
  exact mine_sh s k v i w hk hs
 rw [decide_eq_true hs]
 simp only [Bool.true_and]
 have hk2 := keyOk_iff.1 hk
 have hw : w = 1 ∨ w = 2 ∨ w = 3 := by unfold okS at hs; omega
 have hj : k % 8 = 0 ∨ k % 8 = 1 ∨ k % 8 = 2 ∨ k % 8 = 3 ∨ k % 8 = 4 ∨ k % 8 = 5 ∨ k % 8 = 6 ∨ k % 8 = 7 := by omega
 rcases hw with rfl | rfl | rfl
 ·have h := mine_in s k v i 1 _ _ _ _ _ _ _ _ hk hs owners_1
  have e : ([0, 0, 0, 0, 0, 0, 0, 0] : List Int).getD (k % 8).toNat 0 = ownG (k % 8) 1 := by rcases hj with hj | hj | hj | hj | hj | hj | hj | hj <;> rw [hj] <;> decide
  rw [e] at h
  exact h
 ·have h := mine_in s k v i 2 _ _ _ _ _ _ _ _ hk hs owners_2
  have e : ([0, 0, 0, 0, 1, 1, 1, 1] : List Int).getD (k % 8).toNat 0 = ownG (k % 8) 2 := by rcases hj with hj | hj | hj | hj | hj | hj | hj | hj <;> rw [hj] <;> decide
  rw [e] at h
  exact h
 ·have h := mine_in s k v i 3 _ _ _ _ _ _ _ _ hk hs owners_3
  have e : ([0, 0, 0, 1, 1, 1, 2, 2] : List Int).getD (k % 8).toNat 0 = ownG (k % 8) 3 := by rcases hj with hj | hj | hj | hj | hj | hj | hj | hj <;> rw [hj] <;> decide
  rw [e] at h
  exact h
end Tab
end Go.Proofs.YtopieffkpdlpbaaGreat
namespace Go.Proofs.YtopieffkpdlpbaaGreat
open Go Go.RowKit Wx
set_option maxHeartbeats 4000000
namespace Tab
theorem part_tab (l : List Kc) (a w : Int) (hl : l.length ≤ 1000) (ht : tabR l = false) : Con Tryz.prog 66 [.agg [.ro false 4 (l.map eK)], .one (.v (.int .i64 a)), .one (.v (.int .i64 w))] (fun rx rK rt => rx = .tup [.agg [.ro true 4 (([] : List Kc).map eK)], .one (.v (.int .i64 220))] ∧ rK = [] ∧ rt = 0) := by
 refine Z.con_ofF tabOk 41 Tryz.f66 _ Tryz.func66 (by kernel_rfl) rfl rfl rfl rfl ?_
 have cc := check_con l (by omega)
 rw [ht] at cc
 simp only [cond_false] at cc
 repeat' ((conv => whnf); first
  | with_reducible first | refine spB_t ?_
  | ((with_reducible apply spB_cong); (focus (simp only [splQ, Int.reduceBEq, Int.reduceBNe]; rfl)))
  | ((first | (with_reducible refine Z.callZ_mk ?_ (cc) ?_)); (focus ((repeat' (first | exact trivial | exact rfl | apply And.intro)); done)))
  | fail)
 all_goals (try (conv => whnf))
 all_goals try first | (show Nat.ble _ _ = true; rfl) | (exfalso; rename_i hz; cases hz; done) | (exfalso; (try simp only [LN] at *) <;> omega)
 all_goals first
  | ((first | (with_reducible apply Z.retF2)); (focus rfl); (repeat' (first | exact trivial | (with_reducible apply Z.frz_agg) | (exact Z.frz_nil) | exact rfl | apply And.intro)); (all_goals (try exact (fun _ => none))); all_goals (first | (simp; done)))
  | fail
theorem part_sh (l : List Kc) (a w : Int) (hl : l.length ≤ 1000) (ht : tabR l = true) (hs : ¬ okS a w) : Con Tryz.prog 66 [.agg [.ro false 4 (l.map eK)], .one (.v (.int .i64 a)), .one (.v (.int .i64 w))] (fun rx rK rt => rx = .tup [.agg [.ro true 4 (([] : List Kc).map eK)], .one (.v (.int .i64 2))] ∧ rK = [] ∧ rt = 0) := by
 refine Z.con_ofF tabOk 41 Tryz.f66 _ Tryz.func66 (by kernel_rfl) rfl rfl rfl rfl ?_
 have cc := check_con l (by omega)
 rw [ht] at cc
 simp only [cond_true] at cc
 have cow := owned_bad a w hs
 repeat' ((conv => whnf); first
  | with_reducible first | refine spB_t ?_
  | ((with_reducible apply spB_cong); (focus (simp only [splQ, Int.reduceBEq, Int.reduceBNe]; rfl)))
  | with_reducible first | refine spB_no (by decide) ?_
  | ((first | (with_reducible refine Z.callZ_mk ?_ (cc) ?_) | (with_reducible refine Z.callZ_mk ?_ (cow) ?_)); (focus ((repeat' (first | exact trivial | exact rfl | apply And.intro)); done)))
  | fail)
 all_goals (try (conv => whnf))
 all_goals try first | (show Nat.ble _ _ = true; rfl) | (exfalso; rename_i hz; cases hz; done) | (exfalso; (try simp only [LN] at *) <;> omega)
 all_goals first
  | ((first | (with_reducible apply Z.retF2)); (focus rfl); (repeat' (first | exact trivial | (with_reducible apply Z.frz_agg) | (exact Z.frz_nil) | exact rfl | apply And.intro)); (all_goals (try exact (fun _ => none))); all_goals (first | (simp; done)))
  | fail
end Tab
end Go.Proofs.YtopieffkpdlpbaaGreat
namespace Go.Proofs.YtopieffkpdlpbaaGreat
open Go Go.RowKit Wx
set_option maxHeartbeats 4000000
namespace Tab
theorem part_ok (l : List Kc) (a w : Int) (hl : l.length ≤ 1000) (ht : tabR l = true) (hs : okS a w) : Con Tryz.prog 66 [.agg [.ro false 4 (l.map eK)], .one (.v (.int .i64 a)), .one (.v (.int .i64 w))] (fun rx rK rt => rx = .tup [.agg [.ro true 4 ((partL l a w : List Kc).map eK)], .one (.v (.int .i64 0))] ∧ rK = [] ∧ rt = 0) := by
 refine Z.con_ofF tabOk 41 Tryz.f66 _ Tryz.func66 (by kernel_rfl) rfl rfl rfl rfl ?_
 have cc := check_con l (by omega)
 rw [ht] at cc
 simp only [cond_true] at cc
 obtain ⟨L, cow⟩ := owned_ok a w hs
 repeat' ((conv => whnf); first
  | ((with_reducible apply spB_cong); (focus (simp only [splQ, Int.reduceBEq, Int.reduceBNe]; rfl)))
  | with_reducible first | refine spB_no (by decide) ?_
  | with_reducible first | refine Z.callZ_in tabOk 26 Tryz.f113 _ Tryz.func113 (by kernel_rfl) rfl rfl rfl ?_ | refine Z.callZ_in tabOk 8 Tryz.f91 _ Tryz.func91 (by kernel_rfl) rfl rfl rfl ?_
  | ((first | (with_reducible refine Z.callZ_mk ?_ (cc) ?_) | (with_reducible refine Z.callZ_mk ?_ (cow) ?_)); (focus ((repeat' (first | exact trivial | exact rfl | apply And.intro)); done)))
  | ((with_reducible apply ex_and); exact rfl)
  | ((with_reducible refine Z.RangeZ.red ?_); (refine Z.range_rule [(6, _), (11, _), (32, _)] rfl ⟨rfl, rfl, rfl, trivial⟩ rfl rfl ?_); intro lb hlb)
  | fail)
 all_goals (try (conv => whnf))
 all_goals try first | (show Nat.ble _ _ = true; rfl) | (exfalso; rename_i hz; cases hz; done) | (exfalso; (try simp only [LN] at *) <;> omega)
 refine Z.loopK tabOk (fun zq : Nat × List Kc => [(10, .val (.int .i64 (zq.1 : Int)))]) (fun zq : Nat × List Kc => ([(2, some (Z.Ob.b ⟨[[.gsl 7 (zq.2.map cK)]], 1, 30, true⟩)), (7, (gB 4 55 (zq.2.map cK)).map Z.Ob.b)] : Z.Kr)) (fun zq => zq.1 ≤ l.length ∧ zq.2 = partL (l.take zq.1) a w) (fun zq => l.length - zq.1) (0, []) 8 [(0, _), (2, _), (3, _), (8, _), (9, _)] ⟨rfl, rfl, rfl, rfl, rfl, trivial⟩ [(0, some _), (1, some _), (3, some _), (4, some _), (5, some _), (6, some _)] ⟨rfl, rfl, rfl, rfl, rfl, rfl, trivial⟩ ?_ ?_ rfl rfl ⟨Nat.zero_le _, by simp [partL]⟩ ?_
 ·repeat' (first | exact trivial | apply And.intro | exact ⟨_, rfl, Z.Imp.refl _⟩)
 ·repeat' (first | exact trivial | (intro b hb; cases hb; done) | (intro b hb; cases hb; refine ⟨_, rfl, ⟨rfl, rfl, rfl⟩, ?_⟩; (repeat' (first | exact trivial | apply And.intro | exact Z.Imp.nilg _)); done) | apply And.intro)
 rintro ⟨i, acc⟩ HINV
 (try dsimp only at HINV); (try dsimp only)
 obtain ⟨HI, HA⟩ := HINV
 have hpl := @part_len (l.take i) a w
 rw [List.length_take, ← HA] at hpl
 by_cases hi2 : i < l.length
 ·obtain ⟨x, hx⟩ := getElem?_some' (xs := l) (i := i) hi2
  have hpa := part_at (i := a) (w := w) hx
  rw [← HA] at hpa
  have cm := mine_con x.src x.key 0 a w
  cases hm : mineB x.src x.key a w
  all_goals rw [hm] at cm hpa
  all_goals simp only [cond_true, cond_false, List.append_nil] at hpa
  ·skip
   repeat' ((conv => whnf); first
    | with_reducible first | refine spB_no (by decide) ?_
    | (with_reducible refine spB_dec ?_ ?_ <;> intro _ <;> (try (exfalso; first | contradiction | omega | (rename_i hz; refine hz ?_; simp; done) | (rename_i hz; simp at hz; done) | (simp only [LN] at *; omega))))
    | with_reducible first | refine Z.rowN_known hx ?_
    | ((with_reducible apply ixN_litp); (focus rfl); (focus ((try simp only [LN] at *) <;> omega)))
    | with_reducible refine wr_i64 (by first | omega | (simp only [LN] at *; omega)) ?_
    | with_reducible first | refine Z.callZ_in tabOk 8 Tryz.f94 _ Tryz.func94 (by kernel_rfl) rfl rfl rfl ?_
    | ((first | (with_reducible refine Z.conZ_mz ?_ (cm) ?_)); (focus ((repeat' (first | exact trivial | exact rfl | apply And.intro)); done)))
    | ((with_reducible apply ex_and); exact rfl)
    | with_reducible first | refine Z.drawZ_rule tabOk mixOk ?_ | refine Z.apZ_mk (by kernel_rfl) ?_
    | ((with_reducible refine Z.ConZ.red ?_); (try subst hlb); (apply Z.conZ_all); (focus (repeat (first | exact Z.FK.nil | (apply Z.FK.keep; exact rfl)))); (focus rfl); (focus rfl); (focus (repeat (first | exact trivial | (refine ⟨(fun o ho => (by first | (cases ho; rfl) | (cases ho; exact Z.inL_map fun _ => rfl) | (cases ho; exact Z.inL_mapr fun _ => rfl) | exact Z.inL_gB ho fun _ => rfl)), ?_⟩)))))
    | ((refine ⟨rfl, ?_, rfl⟩); (focus (repeat (first | exact Z.DK.nil | apply Z.DK.cons))))
    | fail)
   all_goals (try (conv => whnf))
   all_goals try first | (show Nat.ble _ _ = true; rfl) | (exfalso; rename_i hz; cases hz; done) | (exfalso; (try simp only [LN] at *) <;> omega)
   all_goals first
    | ((refine Z.rndK ((i + 1, acc)) (fun s => [0, 1, 2, 3, 4, 5, 6, s.idIn 2 0]) rfl rfl rfl rfl ?_ ?_ ?_ ?_); (focus (repeat' (first | exact trivial | exact rfl | apply And.intro))); (focus (repeat' (first | exact trivial | (intro b hb; cases hb; rfl) | exact Z.gB_sub rfl rfl (ren_map fun _ => rfl) | apply And.intro))); (focus (exact ⟨by (try dsimp only); omega, hpa.symm⟩)); ((try dsimp only); omega))
    | fail
  ·skip
   repeat' ((conv => whnf); first
    | with_reducible first | refine spB_t ?_
    | ((with_reducible apply spB_cong); (focus (simp only [splQ, Int.reduceBEq, Int.reduceBNe]; rfl)))
    | with_reducible first | refine spB_no (by decide) ?_
    | (with_reducible refine spB_dec ?_ ?_ <;> intro _ <;> (try (exfalso; first | contradiction | omega | (rename_i hz; refine hz ?_; simp; done) | (rename_i hz; simp at hz; done) | (simp only [LN] at *; omega))))
    | with_reducible first | refine Z.rowN_known hx ?_
    | ((with_reducible refine posE_pos ?_ ?_); (focus ((try simp only [LN] at *) <;> omega)))
    | ((with_reducible apply ixN_litp); (focus rfl); (focus ((try simp only [LN] at *) <;> omega)))
    | ((with_reducible refine apdN.mk ?_ ?_ ?_ ?_ ?_ ?_); (focus (first | rfl)); (focus (first | exact one_all (by rfl))); (focus ((try simp only [LN] at *) <;> omega)); (focus ((try simp only [LN] at *) <;> omega)); (focus ((try simp only [LN] at *) <;> omega)))
    | with_reducible refine wr_i64 (by first | omega | (simp only [LN] at *; omega)) ?_
    | with_reducible first | refine Z.callZ_in tabOk 8 Tryz.f94 _ Tryz.func94 (by kernel_rfl) rfl rfl rfl ?_
    | ((first | (with_reducible refine Z.conZ_mz ?_ (cm) ?_)); (focus ((repeat' (first | exact trivial | exact rfl | apply And.intro)); done)))
    | ((with_reducible refine eqN_mk2 ?_ ?_); (focus (exact Z.kb_some rfl)))
    | ((with_reducible apply ex_and); exact rfl)
    | ((with_reducible refine Z.CallZ.yl ?_); refine Z.yield_rule tabOk _ _ rfl rfl rfl rfl ?_)
    | with_reducible first | refine Z.drawZ_rule tabOk mixOk ?_ | refine Z.apZ_mk (by kernel_rfl) ?_
    | ((with_reducible refine Z.ConZ.red ?_); (try subst hlb); (apply Z.conZ_all); (focus (repeat (first | exact Z.FK.nil | (apply Z.FK.keep; exact rfl)))); (focus rfl); (focus rfl); (focus (repeat (first | exact trivial | (refine ⟨(fun o ho => (by first | (cases ho; rfl) | (cases ho; exact Z.inL_map fun _ => rfl) | (cases ho; exact Z.inL_mapr fun _ => rfl) | exact Z.inL_gB ho fun _ => rfl)), ?_⟩)))))
    | ((refine ⟨rfl, ?_, rfl⟩); (focus (repeat (first | exact Z.DK.nil | apply Z.DK.cons))))
    | fail)
   all_goals (try (conv => whnf))
   all_goals try first | (show Nat.ble _ _ = true; rfl) | (exfalso; rename_i hz; cases hz; done) | (exfalso; (try simp only [LN] at *) <;> omega)
   all_goals first
    | ((refine Z.rndK ((i + 1, acc ++ [x])) (fun s => [0, 1, 2, 3, 4, 5, 6, s.idIn 2 0]) rfl rfl rfl rfl ?_ ?_ ?_ ?_); (focus (repeat' (first | exact trivial | exact rfl | apply And.intro))); (focus (repeat' (first | exact trivial | (intro b hb; cases hb; rfl) | (intro b hb; cases hb; rw [List.map_append (f := cK)]; rfl) | exact Z.gB_sub' rfl (by first | rfl | (rw [List.map_append]; rfl) | simp only [List.map_append, List.map_cons, List.map_nil]) (ren_map fun _ => rfl) | apply And.intro))); (focus (exact ⟨by (try dsimp only); omega, hpa.symm⟩)); ((try dsimp only); omega))
    | fail
 have hil : i = l.length := by omega
 subst hil
 rw [List.take_length] at HA
 subst HA
 repeat' ((conv => whnf); first
  | (with_reducible refine spB_dec ?_ ?_ <;> intro _ <;> (try (exfalso; first | contradiction | omega | (rename_i hz; refine hz ?_; simp; done) | (rename_i hz; simp at hz; done) | (simp only [LN] at *; omega))))
  | ((with_reducible apply ex_and); exact rfl)
  | ((with_reducible refine Z.rngN.mk ?_); (try subst hlb))
  | fail)
 all_goals (try (conv => whnf))
 all_goals try first | (show Nat.ble _ _ = true; rfl) | (exfalso; rename_i hz; cases hz; done) | (exfalso; (try simp only [LN] at *) <;> omega)
 all_goals first
  | ((first | (with_reducible apply Z.retF2)); (focus rfl); (repeat' (first | exact trivial | (with_reducible apply Z.frz_one) | (with_reducible apply Z.frz_agg) | (with_reducible apply Z.fq_int) | ((with_reducible apply Z.fq_gsl); (focus (first | exact Z.isB_map _)); (focus (exact fun _ => rfl))) | exact rfl | apply And.intro)); (all_goals (try exact (fun _ => none))); all_goals (first | (simp; done)))
  | fail
end Tab
end Go.Proofs.YtopieffkpdlpbaaGreat
namespace Go.Proofs.YtopieffkpdlpbaaGreat
open Go Go.RowKit Wx
set_option maxHeartbeats 4000000
namespace Tab
namespace Ops
end Ops
end Tab
end Go.Proofs.YtopieffkpdlpbaaGreat
namespace Go.Proofs.YtopieffkpdlpbaaGreat
open Go Go.RowKit Wx
set_option maxHeartbeats 4000000
namespace Tab
end Tab
end Go.Proofs.YtopieffkpdlpbaaGreat
namespace Go.Proofs.YtopieffkpdlpbaaGreat
open Go Go.RowKit Wx
set_option maxHeartbeats 4000000
namespace Tab
theorem sort_rule {m i n top : Nat} {c : Option Nat} {R : List (List Ce)} {bx : Bool} {K : Z.Kr} {k : AV → Z.Kr → Nat → Prop} (zs : List Kc) (hb : Z.kz K i = some (Z.Ob.b ⟨R, 4, 55, bx⟩)) (hr : R = zs.map cK) (hn : n = zs.length) (hl : zs.length ≤ 4000)
  (hkk : ∀ zs' : List Kc, zs'.Perm zs → zs'.Pairwise (fun x y => ltOf cfK y x = false) → k (.tup []) ((i, some (Z.Ob.b ⟨zs'.map cK, 4, 55, bx⟩)) :: K) top) : Z.CallZ Tryz.prog m (.fn 108 []) [.c (.osl i 0 n c), .c (.fn 109 [])] K top k := by
 refine Z.callZ_sortK (enc := ev) (kk := 4) (b := ⟨R, 4, 55, bx⟩) (by kernel_rfl) cK (ltOf cfK) zs [] (fun _ => rfl) (fun _ => rfl) hb rfl (by rw [hr, List.append_nil]) hn ?_ ?_
 ·intro blk cap w hH hblk
  exact AnyQ.slices_SortFunc (ρ := Tryz.sortK_ren) Tryz.sortK 4 (fun _ => by kernel_rfl) (fun _ => by kernel_rfl) ev (fun _ => rfl) (fun x v hv => by
   simp only [List.mem_cons, List.not_mem_nil, or_false] at hv
   rcases hv with rfl | rfl | rfl | rfl <;> rfl) cfK cfK_swo 109 #[] blk 0 cap zs.toArray w (Go.Proofs.enters_of Tryz.func109 (by kernel_rfl) rfl) (Z.con_cmp fun x y => cmpk_con x y) hH hblk (by simp; omega)
 ·intro zs' h1 h2
  rw [List.append_nil]
  exact hkk zs' h1 h2
end Tab
end Go.Proofs.YtopieffkpdlpbaaGreat
namespace Go.Proofs.YtopieffkpdlpbaaGreat
open Go Go.RowKit Wx
set_option maxHeartbeats 4000000
namespace Tab
theorem concat_own (a b : List Kc) (ha : a.length ≤ 1000) (hb : b.length ≤ 1000) (h0 : 0 < a.length + b.length) : Con Tryz.prog 107 [.one (.ro false 1 [[RT.ro 4 (a.map eK)], [RT.ro 4 (b.map eK)]])] (fun rx rK rt => rx = .c (.osl 0 0 (a ++ b).length none) ∧ rK = [(0, some ⟨(a ++ b).map cK, 4, 55, false⟩)] ∧ rt = 1) := by
 refine Z.con_ofZ tabOk 36 Tryz.f107 _ Tryz.func107 (by kernel_rfl) rfl rfl rfl rfl ?_
 have hA : List.take (0 + (a.map eK).length) ((a.map eK).map (List.map (RT.ce false))) ++ (b.map eK).map (List.map (RT.ce false)) = (a ++ b).map cK := by rw [Nat.zero_add, List.take_of_length_le (by simp), List.map_append, List.map_map, List.map_map]; rfl
 repeat' ((conv => whnf); first
  | with_reducible first | refine spB_t ?_
  | ((with_reducible apply spB_cong); (focus (simp only [splQ, Int.reduceBEq, Int.reduceBNe]; rfl)))
  | with_reducible first | refine spB_yes (by decide) ?_ | refine spB_no (by decide) ?_ | refine spB_f ?_ | refine spB_not ?_ | refine spB_yes (by assumption) ?_ | refine spB_no (by assumption) ?_
  | (with_reducible refine spB_dec ?_ ?_ <;> intro _ <;> (try (exfalso; first | contradiction | omega | (simp only [LN] at *; omega))))
  | (with_reducible refine spB_beq ?_ ?_ <;> intro _ <;> (try (exfalso; first | contradiction | omega | (simp only [LN] at *; omega))))
  | (with_reducible refine spB_bne ?_ ?_ <;> intro _ <;> (try (exfalso; first | contradiction | omega | (simp only [LN] at *; omega))))
  | (with_reducible refine spB_mk ?_ ?_ <;> intro _ <;> (try (exfalso; first | contradiction | omega | (simp only [LN] at *; omega))))
  | with_reducible first | refine Z.loopZ_unroll tabOk 3 ?_
  | ((with_reducible refine slN_hi 0 ?_ ?_ ?_); (focus rfl); (focus (exact Nat.zero_le _)))
  | ((with_reducible refine apz0N_mk (a.length + b.length) ?_ ?_ ?_ ?_ ?_); (iterate 4 (focus ((try simp only [LN] at *) <;> omega))))
  | ((with_reducible refine apz0N_mk _ ?_ ?_ ?_ ?_ ?_); (focus (first | rfl | exact (Int.toNat_of_nonneg (by omega)).symm)); (focus ((try simp only [LN] at *) <;> omega)); (focus ((try simp only [LN] at *) <;> omega)); (focus ((try simp only [LN] at *) <;> omega)))
  | ((with_reducible refine posE_pos ?_ ?_); (focus ((try simp only [LN] at *) <;> omega)))
  | ((with_reducible refine posE_nil ?_ ?_); (focus rfl))
  | ((with_reducible apply rowN_mk); (focus rfl))
  | ((with_reducible apply ixN_lit); (focus rfl); (focus rfl))
  | ((with_reducible apply ixN_litp); (focus rfl); (focus ((try simp only [LN] at *) <;> omega)))
  | ((with_reducible refine eqN_mk2 ?_ ?_); (focus rfl))
  | ((with_reducible refine posN_mk2 ?_ ?_); (focus (first | decide | ((try simp only [LN] at *) <;> omega))))
  | ((with_reducible refine apdE_r ?_); (with_reducible refine aprN.mk ⟨_, rfl, ?_⟩ ?_ ?_ ?_ ?_); (focus ((try simp only [LN] at *) <;> omega)); (focus (first | rfl | (simp; done) | ((try simp only [LN] at *) <;> omega))); (focus (first | exact one_all (by rfl) | exact one_map (fun _ => rfl) | exact one_map2 (fun _ => rfl) | exact one_drop (fun _ => rfl))); (focus ((try simp only [LN] at *) <;> omega)))
  | ((with_reducible refine apdE_k ?_); (with_reducible refine apkN.mk ⟨_, rfl, ?_⟩ ?_); (focus ((try simp only [LN] at *) <;> omega)))
  | with_reducible first | refine apdE_n ?_
  | ((with_reducible refine slE_a ?_ ?_); (focus ((try simp only [LN] at *) <;> omega)))
  | ((with_reducible refine slE_b ?_ ?_); (focus ((try simp only [LN] at *) <;> omega)))
  | ((with_reducible refine slE_split ?_ ?_ ?_); (focus ((try simp only [LN] at *) <;> omega)); (all_goals intro _))
  | ((with_reducible refine apdN.mk ?_ ?_ ?_ ?_ ?_ ?_); (focus (first | rfl | (simp; done))); (focus (first | exact one_all (by rfl) | exact one_map (fun _ => rfl) | exact one_map2 (fun _ => rfl))); (focus ((try simp only [LN] at *) <;> omega)); (focus ((try simp only [LN] at *) <;> omega)); (focus ((try simp only [LN] at *) <;> omega)))
  | with_reducible refine wr_i64 (by first | omega | (simp only [LN] at *; omega)) ?_
  | with_reducible refine wr_u64 (by omega) ?_
  | with_reducible refine wr_u8 (by omega) ?_
  | with_reducible refine wr_u32 (by omega) ?_
  | with_reducible first | refine wr_mk _ rfl ?_
  | ((with_reducible refine ixN_nat ?_ ?_); (focus ((try simp only [LN] at *) <;> omega)))
  | ((with_reducible refine rowN_map ?_ ?_); (focus ((try simp only [LN] at *) <;> omega)); intro x hx)
  | ((with_reducible refine posE_nil (by rfl) ?_))
  | ((with_reducible refine posE_pos (by decide) ?_))
  | with_reducible refine eqN_dec (by omega) ?_
  | with_reducible first | refine apN_mk (by kernel_rfl) ?_ | refine Z.callZ_in tabOk 27 Tryz.f120 _ Tryz.func120 (by kernel_rfl) rfl rfl rfl ?_
  | ((with_reducible refine eqN_mk2 ?_ ?_); (focus (exact Z.kb_some rfl)))
  | ((with_reducible apply ex_and); exact rfl))
 all_goals (try (conv => whnf))
 all_goals try first | (show Nat.ble _ _ = true; rfl) | (exfalso; rename_i hz; cases hz; done) | (exfalso; (try simp only [LN] at *) <;> omega)
 all_goals (refine ret1b 2 (.c (.osl 0 0 (a ++ b).length none)) ((a ++ b).map cK) 4 55 false _ rfl ?_ (by rfl) ?_ (ren_map fun _ => rfl) rfl (own_map fun _ => rfl) ⟨rfl, rfl, rfl⟩)
 ·exact congrArg (fun n => AV.c (Ce.osl 2 0 n none)) (by simp)
 ·first | exact hA | (simp [List.take_of_length_le, Function.comp_def]; done)
end Tab
end Go.Proofs.YtopieffkpdlpbaaGreat
namespace Go.Proofs.YtopieffkpdlpbaaGreat
open Go Go.RowKit Wx
set_option maxHeartbeats 4000000
namespace Tab
theorem con_quiet {P : Program} {g : FuncId} {u v : Value} (hfn : fnB P g = true) (h : ∀ w, Calls P g #[u] w fun e w' => e = .returned v ∧ w' = w) : Con P g [.one (.v u)] (fun rx rK rt => rx = .val v ∧ rK = [] ∧ rt = 0) := by
 refine ⟨hfn, fun w vs hvs => ?_⟩
 cases vs with
 | nil => exact hvs.elim
 | cons x vs => cases vs with
  | cons _ _ => exact hvs.2.elim
  | nil =>
   have hx : x = u := hvs.1
   subst hx
   refine Calls.mono (h w) ?_
   rintro e w' ⟨rfl, rfl⟩
   exact ⟨v, .val v, [], 0, fun _ => none, fun _ _ => none, rfl, ⟨fun i b h => by simp [kg] at h, fun i j bi bj p q h => by simp [kg] at h, fun i b p h => by simp [kg] at h, (fun _ _ _ _ hu => nomatch hu), fun i b p f o h => by simp [kg] at h, (fun _ _ _ hu => nomatch hu), (fun _ _ _ hu => nomatch hu), .refl _, (fun _ _ _ _ hu => nomatch hu), fun _ h => h.elim⟩, fun _ _ => rfl, (fun p hp => nomatch hp), rfl, rfl, rfl, rfl⟩
theorem len0_con : Con Tryz.prog 122 [.one (.v (.int .u64 0))] (fun rx rK rt => rx = .val (.int .i64 0) ∧ rK = [] ∧ rt = 0) := con_quiet (by kernel_rfl) fun w => Any.bits_Len (SlLaysF0.n15.bits (P := Tryz.prog) (ρ := Tryz.sortK_ren) { Tryz.sortK with }) 0 w (by decide) (by decide)
theorem pdq0_con : Con Tryz.prog 121 [.one (.v (.slice none 0 0)), .one (.v (.int .i64 0)), .one (.v (.int .i64 0)), .one (.v (.int .i64 0)), .one (.fn 109 [])] (fun rx rK rt => rx = .tup [] ∧ rK = [] ∧ rt = 0) := Y.con_eval ftabOk tabOk mixOk 60 12 (by kernel_rfl) (by rfl) (by kernel_rfl)
theorem sortnil_con   : Con Tryz.prog 108 [.one (.v (.slice none 0 0)), .one (.fn 109 [])] (fun rx rK rt => rx = .tup [] ∧ rK = [] ∧ rt = 0) := by
 refine Z.con_ofF tabOk 14 Tryz.f108 _ Tryz.func108 (by kernel_rfl) rfl rfl rfl rfl ?_
 repeat' ((conv => whnf); first
  | with_reducible first | refine spB_t ?_
  | ((with_reducible apply spB_cong); (focus (simp only [splQ, Int.reduceBEq, Int.reduceBNe]; rfl)))
  | with_reducible first | refine spB_yes (by decide) ?_ | refine spB_no (by decide) ?_ | refine spB_f ?_ | refine spB_not ?_ | refine spB_yes (by assumption) ?_ | refine spB_no (by assumption) ?_
  | (with_reducible refine spB_dec ?_ ?_ <;> intro _ <;> (try (exfalso; first | contradiction | omega | (rename_i hz; refine hz ?_; simp; done) | (rename_i hz; simp at hz; done) | (simp only [LN] at *; omega))))
  | (with_reducible refine spB_beq ?_ ?_ <;> intro _ <;> (try (exfalso; first | contradiction | omega | (rename_i hz; refine hz ?_; simp; done) | (rename_i hz; simp at hz; done) | (simp only [LN] at *; omega))))
  | (with_reducible refine spB_bne ?_ ?_ <;> intro _ <;> (try (exfalso; first | contradiction | omega | (rename_i hz; refine hz ?_; simp; done) | (rename_i hz; simp at hz; done) | (simp only [LN] at *; omega))))
  | (with_reducible refine spB_mk ?_ ?_ <;> intro _ <;> (try (exfalso; first | contradiction | omega | (rename_i hz; refine hz ?_; simp; done) | (rename_i hz; simp at hz; done) | (simp only [LN] at *; omega))))
  | ((with_reducible apply rowN_mk); (focus rfl))
  | ((with_reducible apply ixN_lit); (focus rfl); (focus rfl))
  | ((with_reducible apply ixN_litp); (focus rfl); (focus ((try simp only [LN] at *) <;> omega)))
  | ((with_reducible refine eqN_mk2 ?_ ?_); (focus rfl))
  | with_reducible refine wr_i64 (by first | omega | (simp only [LN] at *; omega)) ?_
  | with_reducible refine wr_u64 (by omega) ?_
  | with_reducible refine wr_u8 (by omega) ?_
  | with_reducible refine wr_u32 (by omega) ?_
  | with_reducible first | refine wr_mk _ rfl ?_
  | ((with_reducible refine ixN_nat ?_ ?_); (focus ((try simp only [LN] at *) <;> omega)))
  | ((with_reducible refine rowN_map ?_ ?_); (focus ((try simp only [LN] at *) <;> omega)); intro x hx)
  | with_reducible refine eqN_dec (by omega) ?_
  | with_reducible first | refine apN_mk (by kernel_rfl) ?_
  | ((first | (with_reducible refine Z.conZ_mz ?_ (pdq0_con) ?_) | (with_reducible refine Z.callZ_mk ?_ (pdq0_con) ?_) | (with_reducible refine Z.conZ_mz ?_ (len0_con) ?_) | (with_reducible refine Z.callZ_mk ?_ (len0_con) ?_)); (focus ((repeat' (first | exact trivial | exact ⟨_, rfl, rfl, rfl⟩ | (refine Z.low_osln ?_ (fun _ => rfl); (first | exact hzl | exact hzl.symm)) | exact rfl | exact Z.low_nil | exact Z.low_nil2 | exact low_osl (fun _ => rfl) | (refine Z.low_osln ?_ (fun _ => rfl); (simp only [List.length_map]; done)) | exact low_oslr (fun _ => rfl) | exact Z.low_gslm (by first | rfl | exact Z.kb_some rfl) (fun _ => rfl) | exact .inl rfl | exact .inr ⟨_, rfl⟩ | apply And.intro)); done)))
  | ((with_reducible refine eqN_mk2 ?_ ?_); (focus (exact Z.kb_some rfl)))
  | ((with_reducible apply ex_and); exact rfl))
 all_goals (try (conv => whnf))
 all_goals try (show Nat.ble _ _ = true; rfl)
 all_goals first
  | ((first | (with_reducible apply Z.retF1) | (with_reducible apply Z.retF2) | (with_reducible apply Z.retF0)); (focus rfl); (repeat' (first | exact trivial | (with_reducible apply Z.frz_one) | (with_reducible apply Z.frz_agg) | (with_reducible apply Z.fq_int) | (with_reducible apply Z.fq_bool) | (exact Z.frz_nil) | (exact Z.frz_osl0 rfl rfl rfl) | (with_reducible apply Z.fq_nil) | (with_reducible apply Z.fq_ro) | ((with_reducible apply Z.fq_gsl); (focus (first | rfl | exact Z.isB_map _ | exact Z.gB_snoc.symm)); (focus (exact fun _ => rfl))) | ((with_reducible apply Z.fq_osl); (focus rfl); (focus (first | exact rfl | (simp only [List.length_map, Nat.zero_add]; done) | ((try simp only [LN] at *) <;> omega))); (focus (exact fun _ => rfl))) | ((with_reducible apply Z.fq_src); (focus rfl); (focus (first | exact rfl | (simp only [List.length_map, Nat.zero_add]; done) | ((try simp only [LN] at *) <;> omega))); (focus (exact fun _ => rfl))) | exact rfl | ((apply Z.fq_osl); (focus rfl); (focus (first | exact rfl | (simp only [List.length_map, Nat.zero_add]; done) | ((try simp only [LN] at *) <;> omega))); (focus (exact fun _ => rfl))) | ((apply Z.fq_src); (focus rfl); (focus (first | exact rfl | (simp only [List.length_map, Nat.zero_add]; done) | ((try simp only [LN] at *) <;> omega))); (focus (exact fun _ => rfl))) | (apply Z.fq_ro) | (apply Z.fq_int) | (apply Z.fq_bool) | apply And.intro)); (all_goals (try exact (fun _ => none))); all_goals (first | rfl | (simp; done)))
  | (exfalso; rename_i hz; cases hz; done)
  | (exfalso; (try simp only [LN] at *) <;> omega)
  | (fail)
theorem concat_nil   : Con Tryz.prog 107 [.one (.ro false 1 [[RT.ro 4 (([] : List Kc).map eK)], [RT.ro 4 (([] : List Kc).map eK)]])] (fun rx rK rt => rx = .val (.slice none 0 0) ∧ rK = [] ∧ rt = 0) := by
 refine Z.con_ofZ tabOk 36 Tryz.f107 _ Tryz.func107 (by kernel_rfl) rfl rfl rfl rfl ?_
 repeat' ((conv => whnf); first
  | with_reducible first | refine spB_t ?_
  | ((with_reducible apply spB_cong); (focus (simp only [splQ, Int.reduceBEq, Int.reduceBNe]; rfl)))
  | with_reducible first | refine spB_yes (by decide) ?_ | refine spB_no (by decide) ?_ | refine spB_f ?_ | refine spB_not ?_ | refine spB_yes (by assumption) ?_ | refine spB_no (by assumption) ?_
  | (with_reducible refine spB_dec ?_ ?_ <;> intro _ <;> (try (exfalso; first | contradiction | omega | (rename_i hz; refine hz ?_; simp; done) | (rename_i hz; simp at hz; done) | (simp only [LN] at *; omega))))
  | (with_reducible refine spB_beq ?_ ?_ <;> intro _ <;> (try (exfalso; first | contradiction | omega | (rename_i hz; refine hz ?_; simp; done) | (rename_i hz; simp at hz; done) | (simp only [LN] at *; omega))))
  | (with_reducible refine spB_bne ?_ ?_ <;> intro _ <;> (try (exfalso; first | contradiction | omega | (rename_i hz; refine hz ?_; simp; done) | (rename_i hz; simp at hz; done) | (simp only [LN] at *; omega))))
  | (with_reducible refine spB_mk ?_ ?_ <;> intro _ <;> (try (exfalso; first | contradiction | omega | (rename_i hz; refine hz ?_; simp; done) | (rename_i hz; simp at hz; done) | (simp only [LN] at *; omega))))
  | with_reducible first | refine Z.loopZ_unroll tabOk 3 ?_
  | ((with_reducible refine apz0N_mk _ ?_ ?_ ?_ ?_ ?_); (focus (first | rfl | exact (Int.toNat_of_nonneg (by omega)).symm)); (focus ((try simp only [LN] at *) <;> omega)); (focus ((try simp only [LN] at *) <;> omega)); (focus ((try simp only [LN] at *) <;> omega)))
  | ((with_reducible refine posE_pos ?_ ?_); (focus ((try simp only [LN] at *) <;> omega)))
  | ((with_reducible refine posE_nil ?_ ?_); (focus rfl))
  | ((with_reducible apply rowN_mk); (focus rfl))
  | ((with_reducible apply ixN_lit); (focus rfl); (focus rfl))
  | ((with_reducible apply ixN_litp); (focus rfl); (focus ((try simp only [LN] at *) <;> omega)))
  | ((with_reducible refine eqN_mk2 ?_ ?_); (focus rfl))
  | ((with_reducible refine posN_mk2 ?_ ?_); (focus (first | decide | ((try simp only [LN] at *) <;> omega))))
  | ((with_reducible refine apdE_r ?_); (with_reducible refine aprN.mk ⟨_, rfl, ?_⟩ ?_ ?_ ?_ ?_); (focus ((try simp only [LN] at *) <;> omega)); (focus (first | rfl | (simp; done) | ((try simp only [LN] at *) <;> omega))); (focus (first | exact one_all (by rfl) | exact one_map (fun _ => rfl) | exact one_map2 (fun _ => rfl) | exact one_drop (fun _ => rfl))); (focus ((try simp only [LN] at *) <;> omega)))
  | ((with_reducible refine apdE_k ?_); (with_reducible refine apkN.mk ⟨_, rfl, ?_⟩ ?_); (focus ((try simp only [LN] at *) <;> omega)))
  | with_reducible first | refine apdE_n ?_
  | ((with_reducible refine slE_a ?_ ?_); (focus ((try simp only [LN] at *) <;> omega)))
  | ((with_reducible refine slE_b ?_ ?_); (focus ((try simp only [LN] at *) <;> omega)))
  | ((with_reducible refine slE_split ?_ ?_ ?_); (focus ((try simp only [LN] at *) <;> omega)); (all_goals intro _))
  | ((with_reducible refine apdN.mk ?_ ?_ ?_ ?_ ?_ ?_); (focus (first | rfl | (simp; done))); (focus (first | exact one_all (by rfl) | exact one_map (fun _ => rfl) | exact one_map2 (fun _ => rfl))); (focus ((try simp only [LN] at *) <;> omega)); (focus ((try simp only [LN] at *) <;> omega)); (focus ((try simp only [LN] at *) <;> omega)))
  | with_reducible refine wr_i64 (by first | omega | (simp only [LN] at *; omega)) ?_
  | with_reducible refine wr_u64 (by omega) ?_
  | with_reducible refine wr_u8 (by omega) ?_
  | with_reducible refine wr_u32 (by omega) ?_
  | with_reducible first | refine wr_mk _ rfl ?_
  | ((with_reducible refine ixN_nat ?_ ?_); (focus ((try simp only [LN] at *) <;> omega)))
  | ((with_reducible refine rowN_map ?_ ?_); (focus ((try simp only [LN] at *) <;> omega)); intro x hx)
  | ((with_reducible refine posE_nil (by rfl) ?_))
  | ((with_reducible refine posE_pos (by decide) ?_))
  | with_reducible refine eqN_dec (by omega) ?_
  | with_reducible first | refine apN_mk (by kernel_rfl) ?_ | refine Z.callZ_in tabOk 27 Tryz.f120 _ Tryz.func120 (by kernel_rfl) rfl rfl rfl ?_
  | ((with_reducible refine eqN_mk2 ?_ ?_); (focus (exact Z.kb_some rfl)))
  | ((with_reducible apply ex_and); exact rfl))
 all_goals (try (conv => whnf))
 all_goals try first | (show Nat.ble _ _ = true; rfl) | (exfalso; rename_i hz; cases hz; done) | (exfalso; (try simp only [LN] at *) <;> omega)
 all_goals first
 | (refine ret1 [.one (.v (.slice none 0 0))] rfl [] (.val (.slice none 0 0)) [] rfl trivial List.nodup_nil rfl ?_ (fun p hp => nomatch hp) ⟨rfl, rfl, rfl⟩; intro p b hp; cases hp; done)
 | (fail)
end Tab
end Go.Proofs.YtopieffkpdlpbaaGreat
namespace Go.Proofs.YtopieffkpdlpbaaGreat
open Go Go.RowKit Wx
set_option maxHeartbeats 4000000
namespace Tab
theorem join_bad (a b : List Kc) (h : tabR a = false ∨ tabR b = false) (hla : a.length ≤ 1000) (hlb : b.length ≤ 1000) : Con Tryz.prog 86 [.agg [.ro false 4 (a.map eK)], .agg [.ro false 4 (b.map eK)]] (fun rx rK rt => rx = .tup [.agg [.ro true 4 (([] : List Kc).map eK)], .one (.v (.int .i64 220))] ∧ rK = [] ∧ rt = 0) := by
 refine Z.con_ofF tabOk 32 Tryz.f86 _ Tryz.func86 (by kernel_rfl) rfl rfl rfl rfl ?_
 have ca := check_con a (by omega)
 have cb := check_con b (by omega)
 cases ha : tabR a
 all_goals rw [ha] at ca
 all_goals simp only [cond_true, cond_false] at ca
 rotate_left
 ·have hb : tabR b = false := by rcases h with h | h; (rw [ha] at h; cases h); exact h
  rw [hb] at cb
  simp only [cond_false] at cb
  repeat' ((conv => whnf); first
   | with_reducible first | refine spB_t ?_
   | ((with_reducible apply spB_cong); (focus (simp only [splQ, Int.reduceBEq, Int.reduceBNe]; rfl)))
   | with_reducible first | refine spB_no (by decide) ?_
   | ((first | (with_reducible refine Z.callZ_mk ?_ (ca) ?_)); (focus ((repeat' (first | exact trivial | exact rfl | apply And.intro)); done)))
   | ((first | (with_reducible refine Z.callZ_mk ?_ (cb) ?_)); (focus ((repeat' (first | exact trivial | exact rfl | apply And.intro)); done)))
   | fail)
  all_goals (try (conv => whnf))
  all_goals try first | (show Nat.ble _ _ = true; rfl) | (exfalso; rename_i hz; cases hz; done) | (exfalso; (try simp only [LN] at *) <;> omega)
  all_goals first
   | ((first | (with_reducible apply Z.retF2)); (focus rfl); (repeat' (first | exact trivial | (with_reducible apply Z.frz_one) | (with_reducible apply Z.frz_agg) | (with_reducible apply Z.fq_int) | (exact Z.frz_nil) | exact rfl | apply And.intro)); (all_goals (try exact (fun _ => none))); all_goals (first | (simp; done)))
   | fail
 repeat' ((conv => whnf); first
  | with_reducible first | refine spB_t ?_
  | ((with_reducible apply spB_cong); (focus (simp only [splQ, Int.reduceBEq, Int.reduceBNe]; rfl)))
  | ((first | (with_reducible refine Z.callZ_mk ?_ (ca) ?_)); (focus ((repeat' (first | exact trivial | exact rfl | apply And.intro)); done)))
  | fail)
 all_goals (try (conv => whnf))
 all_goals try first | (show Nat.ble _ _ = true; rfl) | (exfalso; rename_i hz; cases hz; done) | (exfalso; (try simp only [LN] at *) <;> omega)
 all_goals first
  | ((first | (with_reducible apply Z.retF2)); (focus rfl); (repeat' (first | exact trivial | (with_reducible apply Z.frz_one) | (with_reducible apply Z.frz_agg) | (with_reducible apply Z.fq_int) | (exact Z.frz_nil) | exact rfl | apply And.intro)); (all_goals (try exact (fun _ => none))); all_goals (first | (simp; done)))
  | fail
theorem join_nil   : Con Tryz.prog 86 [.agg [.ro false 4 (([] : List Kc).map eK)], .agg [.ro false 4 (([] : List Kc).map eK)]] (fun rx rK rt => rx = .tup [.agg [.ro true 4 (([] : List Kc).map eK)], .one (.v (.int .i64 0))] ∧ rK = [] ∧ rt = 0) := by
 refine Z.con_ofF tabOk 32 Tryz.f86 _ Tryz.func86 (by kernel_rfl) rfl rfl rfl rfl ?_
 have ca := check_con [] (by simp)
 have cat := concat_nil
 rw [show tabR [] = true from rfl] at ca
 simp only [cond_true] at ca
 repeat' ((conv => whnf); first
  | ((with_reducible apply spB_cong); (focus (simp only [splQ, Int.reduceBEq, Int.reduceBNe]; rfl)))
  | with_reducible first | refine spB_no (by decide) ?_
  | ((first | (with_reducible refine Z.callZ_mk ?_ (ca) ?_) | (with_reducible refine Z.callZ_mk ?_ (cat) ?_) | (with_reducible refine Z.callZ_mk ?_ (sortnil_con) ?_)); (focus ((repeat' (first | exact trivial | exact ⟨_, rfl, rfl, rfl⟩ | exact rfl | exact Z.low_nil | exact .inl rfl | apply And.intro)); done)))
  | fail)
 all_goals (try (conv => whnf))
 all_goals try first | (show Nat.ble _ _ = true; rfl) | (exfalso; rename_i hz; cases hz; done) | (exfalso; (try simp only [LN] at *) <;> omega)
 all_goals first
  | ((first | (with_reducible apply Z.retF2)); (focus rfl); (repeat' (first | exact trivial | (with_reducible apply Z.frz_one) | (with_reducible apply Z.frz_agg) | (with_reducible apply Z.fq_int) | (exact Z.frz_nil) | exact rfl | apply And.intro)); (all_goals (try exact (fun _ => none))); all_goals (first | (simp; done)))
  | fail
end Tab
end Go.Proofs.YtopieffkpdlpbaaGreat
namespace Go.Proofs.YtopieffkpdlpbaaGreat
open Go Go.RowKit Wx
set_option maxHeartbeats 4000000
namespace Tab
theorem join_both (a b : List Kc) (ha : tabR a = true) (hb : tabR b = true) (h0 : 0 < a.length + b.length) (hc : comm a b = true) : Con Tryz.prog 86 [.agg [.ro false 4 (a.map eK)], .agg [.ro false 4 (b.map eK)]] (fun rx rK rt => rx = .tup [.agg [.ro true 4 (([] : List Kc).map eK)], .one (.v (.int .i64 5))] ∧ rK = [] ∧ rt = 0) := by
 refine Z.con_ofF tabOk 32 Tryz.f86 _ Tryz.func86 (by kernel_rfl) rfl rfl rfl rfl ?_
 have hla := tab_len ha
 have hlb := tab_len hb
 have ca := check_con a (by omega)
 have cb := check_con b (by omega)
 rw [ha] at ca
 rw [hb] at cb
 simp only [cond_true] at ca cb
 have cat := concat_own a b (by omega) (by omega) h0
 repeat' ((conv => whnf); first
  | with_reducible first | refine spB_t ?_
  | ((with_reducible apply spB_cong); (focus (simp only [splQ, Int.reduceBEq, Int.reduceBNe]; rfl)))
  | with_reducible first | refine spB_yes (by decide) ?_ | refine spB_no (by decide) ?_ | refine spB_f ?_ | refine spB_not ?_ | refine spB_yes (by assumption) ?_ | refine spB_no (by assumption) ?_
  | (with_reducible refine spB_dec ?_ ?_ <;> intro _ <;> (try (exfalso; first | contradiction | omega | (rename_i hz; refine hz ?_; simp; done) | (rename_i hz; simp at hz; done) | (simp only [LN] at *; omega))))
  | (with_reducible refine spB_beq ?_ ?_ <;> intro _ <;> (try (exfalso; first | contradiction | omega | (rename_i hz; refine hz ?_; simp; done) | (rename_i hz; simp at hz; done) | (simp only [LN] at *; omega))))
  | (with_reducible refine spB_bne ?_ ?_ <;> intro _ <;> (try (exfalso; first | contradiction | omega | (rename_i hz; refine hz ?_; simp; done) | (rename_i hz; simp at hz; done) | (simp only [LN] at *; omega))))
  | (with_reducible refine spB_mk ?_ ?_ <;> intro _ <;> (try (exfalso; first | contradiction | omega | (rename_i hz; refine hz ?_; simp; done) | (rename_i hz; simp at hz; done) | (simp only [LN] at *; omega))))
  | ((refine sort_rule (a ++ b) rfl ?_ ?_ ?_ ?_); (focus (first | rfl | exact ren_map fun _ => rfl)); (focus (first | rfl | (simp; done))); (focus ((try simp only [LN] at *) <;> omega)); (intro zs hzp hzs; have hzl : zs.length = (a ++ b).length := hzp.length_eq; obtain ⟨hj, hj2⟩ := sort_join ha hb hzp hzs; rw [hc] at hj; have cz := check_con zs (by rw [hzp.length_eq, List.length_append]; omega); rw [hj] at cz; simp only [Bool.not_true, Bool.not_false, cond_true, cond_false] at cz))
  | ((with_reducible apply rowN_mk); (focus rfl))
  | ((with_reducible apply ixN_lit); (focus rfl); (focus rfl))
  | ((with_reducible apply ixN_litp); (focus rfl); (focus ((try simp only [LN] at *) <;> omega)))
  | ((with_reducible refine eqN_mk2 ?_ ?_); (focus rfl))
  | with_reducible refine wr_i64 (by first | omega | (simp only [LN] at *; omega)) ?_
  | with_reducible refine wr_u64 (by omega) ?_
  | with_reducible refine wr_u8 (by omega) ?_
  | with_reducible refine wr_u32 (by omega) ?_
  | with_reducible first | refine wr_mk _ rfl ?_
  | ((with_reducible refine ixN_nat ?_ ?_); (focus ((try simp only [LN] at *) <;> omega)))
  | ((with_reducible refine rowN_map ?_ ?_); (focus ((try simp only [LN] at *) <;> omega)); intro x hx)
  | with_reducible refine eqN_dec (by omega) ?_
  | with_reducible first | refine apN_mk (by kernel_rfl) ?_ | refine Z.callZ_in tabOk 10 Tryz.f109 _ Tryz.func109 (by kernel_rfl) rfl rfl rfl ?_ | refine Z.callZ_in tabOk 8 Tryz.f94 _ Tryz.func94 (by kernel_rfl) rfl rfl rfl ?_ | refine Z.callZ_in tabOk 17 Tryz.f96 _ Tryz.func96 (by kernel_rfl) rfl rfl rfl ?_ | refine Z.callZ_in tabOk 18 Tryz.f111 _ Tryz.func111 (by kernel_rfl) rfl rfl rfl ?_ | refine Z.callZ_in tabOk 20 Tryz.f112 _ Tryz.func112 (by kernel_rfl) rfl rfl rfl ?_ | refine Z.callZ_in tabOk 6 Tryz.f124 _ Tryz.func124 (by kernel_rfl) rfl rfl rfl ?_
  | ((first | (with_reducible refine Z.conZ_mz ?_ (cat) ?_) | (with_reducible refine Z.callZ_mk ?_ (cat) ?_)); (focus ((repeat' (first | exact trivial | exact ⟨_, rfl, rfl, rfl⟩ | (refine Z.low_osln ?_ (fun _ => rfl); (first | exact hzl | exact hzl.symm)) | exact rfl | exact Z.low_nil | exact Z.low_nil2 | exact low_osl (fun _ => rfl) | (refine Z.low_osln ?_ (fun _ => rfl); (simp only [List.length_map]; done)) | exact low_oslr (fun _ => rfl) | exact Z.low_gslm (by first | rfl | exact Z.kb_some rfl) (fun _ => rfl) | exact .inl rfl | exact .inr ⟨_, rfl⟩ | apply And.intro)); done)))
  | ((first | (with_reducible refine Z.conZ_mz ?_ (ca) ?_) | (with_reducible refine Z.callZ_mk ?_ (ca) ?_)); (focus ((repeat' (first | exact trivial | exact ⟨_, rfl, rfl, rfl⟩ | (refine Z.low_osln ?_ (fun _ => rfl); (first | exact hzl | exact hzl.symm)) | exact rfl | exact Z.low_nil | exact Z.low_nil2 | exact low_osl (fun _ => rfl) | (refine Z.low_osln ?_ (fun _ => rfl); (simp only [List.length_map]; done)) | exact low_oslr (fun _ => rfl) | exact Z.low_gslm (by first | rfl | exact Z.kb_some rfl) (fun _ => rfl) | exact .inl rfl | exact .inr ⟨_, rfl⟩ | apply And.intro)); done)))
  | ((first | (with_reducible refine Z.conZ_mz ?_ (cb) ?_) | (with_reducible refine Z.callZ_mk ?_ (cb) ?_)); (focus ((repeat' (first | exact trivial | exact ⟨_, rfl, rfl, rfl⟩ | (refine Z.low_osln ?_ (fun _ => rfl); (first | exact hzl | exact hzl.symm)) | exact rfl | exact Z.low_nil | exact Z.low_nil2 | exact low_osl (fun _ => rfl) | (refine Z.low_osln ?_ (fun _ => rfl); (simp only [List.length_map]; done)) | exact low_oslr (fun _ => rfl) | exact Z.low_gslm (by first | rfl | exact Z.kb_some rfl) (fun _ => rfl) | exact .inl rfl | exact .inr ⟨_, rfl⟩ | apply And.intro)); done)))
  | ((first | (with_reducible refine Z.conZ_mz ?_ (cz) ?_) | (with_reducible refine Z.callZ_mk ?_ (cz) ?_)); (focus ((repeat' (first | exact trivial | exact ⟨_, rfl, rfl, rfl⟩ | (refine Z.low_osln ?_ (fun _ => rfl); (first | exact hzl | exact hzl.symm)) | exact rfl | exact Z.low_nil | exact Z.low_nil2 | exact low_osl (fun _ => rfl) | (refine Z.low_osln ?_ (fun _ => rfl); (simp only [List.length_map]; done)) | exact low_oslr (fun _ => rfl) | exact Z.low_gslm (by first | rfl | exact Z.kb_some rfl) (fun _ => rfl) | exact .inl rfl | exact .inr ⟨_, rfl⟩ | apply And.intro)); done)))
  | ((with_reducible refine eqN_mk2 ?_ ?_); (focus (exact Z.kb_some rfl)))
  | ((with_reducible apply ex_and); exact rfl)
  | with_reducible first | refine Z.drawZ_rule tabOk mixOk ?_ | refine Z.apZ_mk (by kernel_rfl) ?_
  | ((with_reducible refine Z.ConZ.red ?_); (try subst hlb); (apply Z.conZ_all); (focus (repeat (first | exact Z.FK.nil | (apply Z.FK.keep; exact rfl)))); (focus rfl); (focus rfl); (focus (repeat (first | exact trivial | (refine ⟨(fun o ho => (by first | (cases ho; rfl) | (cases ho; exact Z.inL_map fun _ => rfl) | (cases ho; exact Z.inL_mapr fun _ => rfl) | exact Z.inL_gB ho fun _ => rfl)), ?_⟩)))))
  | ((refine ⟨rfl, ?_, rfl⟩); (focus (repeat (first | exact Z.DK.nil | apply Z.DK.cons))))
  | (focus (exact (rfl : Nat.ble _ _ = true))))
 all_goals (try (conv => whnf))
 all_goals try first | (show Nat.ble _ _ = true; rfl) | (exfalso; rename_i hz; cases hz; done) | (exfalso; (try simp only [LN] at *) <;> omega)
 all_goals first
  | ((first | (with_reducible apply Z.retF1) | (with_reducible apply Z.retF2) | (with_reducible apply Z.retF0)); (focus rfl); (repeat' (first | exact trivial | (with_reducible apply Z.frz_one) | (with_reducible apply Z.frz_agg) | (with_reducible apply Z.fq_int) | (with_reducible apply Z.fq_bool) | (exact Z.frz_nil) | (exact Z.frz_osl0 rfl rfl rfl) | (with_reducible apply Z.fq_nil) | (with_reducible apply Z.fq_ro) | ((with_reducible apply Z.fq_gsl); (focus (first | rfl | exact Z.isB_map _ | exact Z.gB_snoc.symm)); (focus (exact fun _ => rfl))) | ((with_reducible apply Z.fq_osl); (focus rfl); (focus (first | exact rfl | (simp only [List.length_map, Nat.zero_add]; done) | ((try simp only [LN] at *) <;> omega))); (focus (exact fun _ => rfl))) | ((with_reducible apply Z.fq_src); (focus rfl); (focus (first | exact rfl | (simp only [List.length_map, Nat.zero_add]; done) | ((try simp only [LN] at *) <;> omega))); (focus (exact fun _ => rfl))) | exact rfl | ((apply Z.fq_osl); (focus rfl); (focus (first | exact rfl | (simp only [List.length_map, Nat.zero_add]; done) | ((try simp only [LN] at *) <;> omega))); (focus (exact fun _ => rfl))) | ((apply Z.fq_src); (focus rfl); (focus (first | exact rfl | (simp only [List.length_map, Nat.zero_add]; done) | ((try simp only [LN] at *) <;> omega))); (focus (exact fun _ => rfl))) | (apply Z.fq_ro) | (apply Z.fq_int) | (apply Z.fq_bool) | apply And.intro)); (all_goals (try exact (fun _ => none))); all_goals (first | rfl | (simp; done)))
  | (exfalso; rename_i hz; cases hz; done)
  | (exfalso; (try simp only [LN] at *) <;> omega)
  | (fail)
end Tab
end Go.Proofs.YtopieffkpdlpbaaGreat
namespace Go.Proofs.YtopieffkpdlpbaaGreat
open Go Go.RowKit Wx
set_option maxHeartbeats 4000000
namespace Tab
theorem join_ok (a b : List Kc) (ha : tabR a = true) (hb : tabR b = true) (h0 : 0 < a.length + b.length) (hc : comm a b = false) : Con Tryz.prog 86 [.agg [.ro false 4 (a.map eK)], .agg [.ro false 4 (b.map eK)]] (fun rx rK rt => rx = .tup [.agg [.ro true 4 ((mrg a b : List Kc).map eK)], .one (.v (.int .i64 0))] ∧ rK = [] ∧ rt = 0) := by
 refine Z.con_ofF tabOk 32 Tryz.f86 _ Tryz.func86 (by kernel_rfl) rfl rfl rfl rfl ?_
 have hla := tab_len ha
 have hlb := tab_len hb
 have ca := check_con a (by omega)
 have cb := check_con b (by omega)
 rw [ha] at ca
 rw [hb] at cb
 simp only [cond_true] at ca cb
 have cat := concat_own a b (by omega) (by omega) h0
 repeat' ((conv => whnf); first
  | with_reducible first | refine spB_t ?_
  | ((with_reducible apply spB_cong); (focus (simp only [splQ, Int.reduceBEq, Int.reduceBNe]; rfl)))
  | with_reducible first | refine spB_yes (by decide) ?_ | refine spB_no (by decide) ?_ | refine spB_f ?_ | refine spB_not ?_ | refine spB_yes (by assumption) ?_ | refine spB_no (by assumption) ?_
  | (with_reducible refine spB_dec ?_ ?_ <;> intro _ <;> (try (exfalso; first | contradiction | omega | (rename_i hz; refine hz ?_; simp; done) | (rename_i hz; simp at hz; done) | (simp only [LN] at *; omega))))
  | (with_reducible refine spB_beq ?_ ?_ <;> intro _ <;> (try (exfalso; first | contradiction | omega | (rename_i hz; refine hz ?_; simp; done) | (rename_i hz; simp at hz; done) | (simp only [LN] at *; omega))))
  | (with_reducible refine spB_bne ?_ ?_ <;> intro _ <;> (try (exfalso; first | contradiction | omega | (rename_i hz; refine hz ?_; simp; done) | (rename_i hz; simp at hz; done) | (simp only [LN] at *; omega))))
  | (with_reducible refine spB_mk ?_ ?_ <;> intro _ <;> (try (exfalso; first | contradiction | omega | (rename_i hz; refine hz ?_; simp; done) | (rename_i hz; simp at hz; done) | (simp only [LN] at *; omega))))
  | ((refine sort_rule (a ++ b) rfl ?_ ?_ ?_ ?_); (focus (first | rfl | exact ren_map fun _ => rfl)); (focus (first | rfl | (simp; done))); (focus ((try simp only [LN] at *) <;> omega)); (intro zs hzp hzs; have hzl : zs.length = (a ++ b).length := hzp.length_eq; obtain ⟨hj, hj2⟩ := sort_join ha hb hzp hzs; rw [hc] at hj; obtain rfl := hj2 hc; have cz := check_con (mrg a b) (by rw [hzp.length_eq, List.length_append]; omega); rw [hj] at cz; simp only [Bool.not_true, Bool.not_false, cond_true, cond_false] at cz))
  | ((with_reducible apply rowN_mk); (focus rfl))
  | ((with_reducible apply ixN_lit); (focus rfl); (focus rfl))
  | ((with_reducible apply ixN_litp); (focus rfl); (focus ((try simp only [LN] at *) <;> omega)))
  | ((with_reducible refine eqN_mk2 ?_ ?_); (focus rfl))
  | with_reducible refine wr_i64 (by first | omega | (simp only [LN] at *; omega)) ?_
  | with_reducible refine wr_u64 (by omega) ?_
  | with_reducible refine wr_u8 (by omega) ?_
  | with_reducible refine wr_u32 (by omega) ?_
  | with_reducible first | refine wr_mk _ rfl ?_
  | ((with_reducible refine ixN_nat ?_ ?_); (focus ((try simp only [LN] at *) <;> omega)))
  | ((with_reducible refine rowN_map ?_ ?_); (focus ((try simp only [LN] at *) <;> omega)); intro x hx)
  | with_reducible refine eqN_dec (by omega) ?_
  | with_reducible first | refine apN_mk (by kernel_rfl) ?_ | refine Z.callZ_in tabOk 10 Tryz.f109 _ Tryz.func109 (by kernel_rfl) rfl rfl rfl ?_ | refine Z.callZ_in tabOk 8 Tryz.f94 _ Tryz.func94 (by kernel_rfl) rfl rfl rfl ?_ | refine Z.callZ_in tabOk 17 Tryz.f96 _ Tryz.func96 (by kernel_rfl) rfl rfl rfl ?_ | refine Z.callZ_in tabOk 18 Tryz.f111 _ Tryz.func111 (by kernel_rfl) rfl rfl rfl ?_ | refine Z.callZ_in tabOk 20 Tryz.f112 _ Tryz.func112 (by kernel_rfl) rfl rfl rfl ?_ | refine Z.callZ_in tabOk 6 Tryz.f124 _ Tryz.func124 (by kernel_rfl) rfl rfl rfl ?_
  | ((first | (with_reducible refine Z.conZ_mz ?_ (cat) ?_) | (with_reducible refine Z.callZ_mk ?_ (cat) ?_)); (focus ((repeat' (first | exact trivial | exact ⟨_, rfl, rfl, rfl⟩ | (refine Z.low_osln ?_ (fun _ => rfl); (first | exact hzl | exact hzl.symm)) | exact rfl | exact Z.low_nil | exact Z.low_nil2 | exact low_osl (fun _ => rfl) | (refine Z.low_osln ?_ (fun _ => rfl); (simp only [List.length_map]; done)) | exact low_oslr (fun _ => rfl) | exact Z.low_gslm (by first | rfl | exact Z.kb_some rfl) (fun _ => rfl) | exact .inl rfl | exact .inr ⟨_, rfl⟩ | apply And.intro)); done)))
  | ((first | (with_reducible refine Z.conZ_mz ?_ (ca) ?_) | (with_reducible refine Z.callZ_mk ?_ (ca) ?_)); (focus ((repeat' (first | exact trivial | exact ⟨_, rfl, rfl, rfl⟩ | (refine Z.low_osln ?_ (fun _ => rfl); (first | exact hzl | exact hzl.symm)) | exact rfl | exact Z.low_nil | exact Z.low_nil2 | exact low_osl (fun _ => rfl) | (refine Z.low_osln ?_ (fun _ => rfl); (simp only [List.length_map]; done)) | exact low_oslr (fun _ => rfl) | exact Z.low_gslm (by first | rfl | exact Z.kb_some rfl) (fun _ => rfl) | exact .inl rfl | exact .inr ⟨_, rfl⟩ | apply And.intro)); done)))
  | ((first | (with_reducible refine Z.conZ_mz ?_ (cb) ?_) | (with_reducible refine Z.callZ_mk ?_ (cb) ?_)); (focus ((repeat' (first | exact trivial | exact ⟨_, rfl, rfl, rfl⟩ | (refine Z.low_osln ?_ (fun _ => rfl); (first | exact hzl | exact hzl.symm)) | exact rfl | exact Z.low_nil | exact Z.low_nil2 | exact low_osl (fun _ => rfl) | (refine Z.low_osln ?_ (fun _ => rfl); (simp only [List.length_map]; done)) | exact low_oslr (fun _ => rfl) | exact Z.low_gslm (by first | rfl | exact Z.kb_some rfl) (fun _ => rfl) | exact .inl rfl | exact .inr ⟨_, rfl⟩ | apply And.intro)); done)))
  | ((first | (with_reducible refine Z.conZ_mz ?_ (cz) ?_) | (with_reducible refine Z.callZ_mk ?_ (cz) ?_)); (focus ((repeat' (first | exact trivial | exact ⟨_, rfl, rfl, rfl⟩ | (refine Z.low_osln ?_ (fun _ => rfl); (first | exact hzl | exact hzl.symm)) | exact rfl | exact Z.low_nil | exact Z.low_nil2 | exact low_osl (fun _ => rfl) | (refine Z.low_osln ?_ (fun _ => rfl); (simp only [List.length_map]; done)) | exact low_oslr (fun _ => rfl) | exact Z.low_gslm (by first | rfl | exact Z.kb_some rfl) (fun _ => rfl) | exact .inl rfl | exact .inr ⟨_, rfl⟩ | apply And.intro)); done)))
  | ((with_reducible refine eqN_mk2 ?_ ?_); (focus (exact Z.kb_some rfl)))
  | ((with_reducible apply ex_and); exact rfl)
  | with_reducible first | refine Z.drawZ_rule tabOk mixOk ?_ | refine Z.apZ_mk (by kernel_rfl) ?_
  | ((with_reducible refine Z.ConZ.red ?_); (try subst hlb); (apply Z.conZ_all); (focus (repeat (first | exact Z.FK.nil | (apply Z.FK.keep; exact rfl)))); (focus rfl); (focus rfl); (focus (repeat (first | exact trivial | (refine ⟨(fun o ho => (by first | (cases ho; rfl) | (cases ho; exact Z.inL_map fun _ => rfl) | (cases ho; exact Z.inL_mapr fun _ => rfl) | exact Z.inL_gB ho fun _ => rfl)), ?_⟩)))))
  | ((refine ⟨rfl, ?_, rfl⟩); (focus (repeat (first | exact Z.DK.nil | apply Z.DK.cons))))
  | (focus (exact (rfl : Nat.ble _ _ = true))))
 all_goals (try (conv => whnf))
 all_goals try first | (show Nat.ble _ _ = true; rfl) | (exfalso; rename_i hz; cases hz; done) | (exfalso; (try simp only [LN] at *) <;> omega)
 all_goals first
  | ((first | (with_reducible apply Z.retF1) | (with_reducible apply Z.retF2) | (with_reducible apply Z.retF0)); (focus rfl); (repeat' (first | exact trivial | (refine Z.frz_oslw (l := mrg a b) (f := cK) (ty := 55) (bx := false) rfl ?_ ?_ (fun _ => rfl); (focus (first | rfl | exact hzl | exact hzl.symm | (simp; done) | (simp; omega))); (focus (first | exact (ren_map fun _ => rfl) | exact (congrArg (List.take _) (ren_map fun _ => rfl)).trans (List.take_of_length_le (by rw [List.length_map]; exact Nat.le_of_eq hzl)) | exact List.take_of_length_le (by rw [List.length_map]; exact Nat.le_of_eq hzl) | (fail)))) | (refine Z.fq_gsl (l := [(⟨s, k, y⟩ : Rcd)]) (f := cR) (g := eR) (sz := 3) (ty := 102) rfl (fun _ => rfl) ?_) | (with_reducible apply Z.frz_one) | (with_reducible apply Z.frz_agg) | (with_reducible apply Z.fq_int) | (with_reducible apply Z.fq_bool) | (exact Z.frz_nil) | (exact Z.frz_osl0 rfl rfl rfl) | (with_reducible apply Z.fq_nil) | (with_reducible apply Z.fq_ro) | ((with_reducible apply Z.fq_gsl); (focus (first | rfl | exact Z.isB_map _ | exact Z.gB_snoc.symm)); (focus (exact fun _ => rfl))) | ((with_reducible apply Z.fq_osl); (focus rfl); (focus (first | exact rfl | (simp only [List.length_map, Nat.zero_add]; done) | ((try simp only [LN] at *) <;> omega))); (focus (exact fun _ => rfl))) | ((with_reducible apply Z.fq_src); (focus rfl); (focus (first | exact rfl | (simp only [List.length_map, Nat.zero_add]; done) | ((try simp only [LN] at *) <;> omega))); (focus (exact fun _ => rfl))) | exact rfl | ((apply Z.fq_osl); (focus rfl); (focus (first | exact rfl | (simp only [List.length_map, Nat.zero_add]; done) | ((try simp only [LN] at *) <;> omega))); (focus (exact fun _ => rfl))) | ((apply Z.fq_src); (focus rfl); (focus (first | exact rfl | (simp only [List.length_map, Nat.zero_add]; done) | ((try simp only [LN] at *) <;> omega))); (focus (exact fun _ => rfl))) | (apply Z.fq_ro) | (apply Z.fq_int) | (apply Z.fq_bool) | apply And.intro)); (all_goals (try exact (fun _ => none))); all_goals (first | rfl | (simp; done)))
  | (exfalso; rename_i hz; cases hz; done)
  | (exfalso; (try simp only [LN] at *) <;> omega)
  | (fail)
end Tab
end Go.Proofs.YtopieffkpdlpbaaGreat
namespace Go.Proofs.YtopieffkpdlpbaaGreat
open Go Go.RowKit Wx
set_option maxHeartbeats 4000000
namespace Tab
end Tab
end Go.Proofs.YtopieffkpdlpbaaGreat
namespace Go.Proofs.YtopieffkpdlpbaaGreat
open Go Go.RowKit Wx
set_option maxHeartbeats 4000000
namespace Tab
theorem tpart_con (l : List Kc) (a w : Int) (hl : l.length ≤ 1000) : Con Tryz.prog 66 [.agg [.ro false 4 (l.map eK)], .one (.v (.int .i64 a)), .one (.v (.int .i64 w))] (fun rx rK rt => rx = .tup [.agg [.ro true 4 ((partT l a w).1.map eK)], .one (.v (.int .i64 (partT l a w).2))] ∧ rK = [] ∧ rt = 0) := by
 unfold partT
 cases ht : tabR l
 ·rw [if_pos rfl]; exact part_tab l a w hl ht
 ·rw [if_neg (by decide)]
  by_cases hs : okS a w
  ·rw [if_pos hs]; exact part_ok l a w hl ht hs
  ·rw [if_neg hs]; exact part_sh l a w hl ht hs
theorem tjoin_con (a b : List Kc) (hla : a.length ≤ 1000) (hlb : b.length ≤ 1000) : Con Tryz.prog 86 [.agg [.ro false 4 (a.map eK)], .agg [.ro false 4 (b.map eK)]] (fun rx rK rt => rx = .tup [.agg [.ro true 4 ((joinT a b).1.map eK)], .one (.v (.int .i64 (joinT a b).2))] ∧ rK = [] ∧ rt = 0) := by
 unfold joinT
 by_cases h : tabR a = false ∨ tabR b = false
 ·rw [if_pos h]; exact join_bad a b h hla hlb
 ·rw [if_neg h]
  have ha : tabR a = true := by cases hz : tabR a with
   | true => rfl
   | false => exact absurd (.inl hz) h
  have hb : tabR b = true := by cases hz : tabR b with
   | true => rfl
   | false => exact absurd (.inr hz) h
  by_cases h0 : 0 < a.length + b.length
  ·cases hc : comm a b
   ·rw [if_neg (by decide)]; exact join_ok a b ha hb h0 hc
   ·rw [if_pos rfl]; exact join_both a b ha hb h0 hc
  ·have e1 : a = [] := List.length_eq_zero_iff.1 (by omega)
   have e2 : b = [] := List.length_eq_zero_iff.1 (by omega)
   subst e1 e2
   exact join_nil
end Tab
end Go.Proofs.YtopieffkpdlpbaaGreat
namespace Go.Proofs.YtopieffkpdlpbaaGreat
open Go Go.RowKit Wx
set_option maxHeartbeats 4000000
namespace Tab
theorem kc_eq {x y : Kc} (h : (x.src == y.src && (x.key == y.key && (x.cnt == y.cnt && (x.sum == y.sum && true)))) = true) : x = y := by
 cases x; cases y; simp_all
theorem eqk_con (a b : List Kc) (hla : a.length ≤ 9223372036854775807)  : Con Tryz.prog 75 [.one (.ro false 4 (a.map eK)), .one (.ro false 4 (b.map eK))] (fun rx rK rt => rx = .val (.bool (decide (a = b))) ∧ rK = [] ∧ rt = 0) := by
 refine Z.con_ofF tabOk 26 Tryz.f75 _ Tryz.func75 (by kernel_rfl) rfl rfl rfl rfl ?_
 repeat' ((conv => whnf); first
  | (with_reducible refine spB_bne ?_ ?_ <;> intro _ <;> (try (exfalso; first | contradiction | omega | (rename_i hz; with_reducible exact absurd rfl hz))))
  | fail)
 all_goals (try (conv => whnf))
 all_goals try ((first | (with_reducible apply Z.retF1)); (focus rfl); (repeat' (first | exact trivial | (with_reducible apply Z.frz_one) | (with_reducible apply Z.fq_bool) | apply And.intro)); (all_goals (try exact (fun _ => none))); all_goals (exact bool_f (ne_len (by simp only [LN] at *; omega))))
 refine Z.loopK tabOk (fun zq : Nat => [(13, .val (.int .i64 (zq : Int)))]) (fun zq : Nat => ([] : Z.Kr)) (fun zq => zq ≤ a.length ∧ a.length = b.length ∧ a.take zq = b.take zq) (fun zq => a.length - zq) 0 0 [(0, _), (1, _), (12, _)] ⟨rfl, rfl, rfl, trivial⟩ [] trivial ?_ ?_ rfl rfl ⟨Nat.zero_le _, by simp only [LN] at *; omega, rfl⟩ ?_
 ·repeat' (first | exact trivial | apply And.intro | exact ⟨_, rfl, Z.Imp.refl _⟩)
 ·repeat' (first | exact trivial)
 rintro i HINV
 dsimp only at HINV ⊢
 obtain ⟨HI, HL, HT⟩ := HINV
 repeat' ((conv => whnf); first
  | with_reducible first | refine spB_not ?_
  | (with_reducible refine spB_dec ?_ ?_ <;> intro _ <;> (try (exfalso; first | contradiction | omega | (rename_i hz; with_reducible exact absurd rfl hz))))
  | (with_reducible refine spB_mk ?_ ?_ <;> intro _ <;> (try (exfalso; first | contradiction | omega | (rename_i hz; with_reducible exact absurd rfl hz))))
  | ((with_reducible apply ixN_litp); (focus rfl); (focus ((try simp only [LN] at *) <;> omega)))
  | with_reducible refine wr_i64 (by first | omega | (simp only [LN] at *; omega)) ?_
  | ((with_reducible refine rowN_map ?_ ?_); (focus ((try simp only [LN] at *) <;> omega)); intro x hx)
  | with_reducible first | refine Z.drawZ_rule tabOk mixOk ?_ | refine Z.apZ_mk (by kernel_rfl) ?_
  | fail)
 all_goals (try (conv => whnf))
 all_goals first
  | ((refine Z.rndK (i + 1) (fun s => []) rfl rfl rfl rfl ?_ ?_ ?_ ?_); (focus (repeat' (first | exact trivial | exact rfl | apply And.intro))); (focus (repeat' (first | exact trivial))); (focus (refine ⟨by simp only [LN] at *; omega, HL, eq_step HT (by assumption) (by assumption) ?_⟩; (first | exact kc_eq (by assumption)))); (try simp only [LN] at *); (try dsimp only); omega)
  | ((first | (with_reducible apply Z.retF1)); (focus rfl); (repeat' (first | exact trivial | (with_reducible apply Z.frz_one) | (with_reducible apply Z.fq_bool) | apply And.intro)); (all_goals (try exact (fun _ => none))); all_goals (first | exact bool_t (eq_end HL HT (by simp only [LN] at *; omega)) | (refine bool_f (ne_at (by assumption) (by assumption) ?_); intro e; subst e; first | contradiction | (simp_all; done))))
  | fail
theorem same_con (a b : List Kc) (hla : a.length ≤ 9223372036854775807) : Con Tryz.prog 33 [.agg [.ro false 4 (a.map eK)], .agg [.ro false 4 (b.map eK)]] (fun rx rK rt => rx = .val (.bool (decide (a = b))) ∧ rK = [] ∧ rt = 0) := by
 refine Z.con_ofF tabOk 10 Tryz.f33 _ Tryz.func33 (by kernel_rfl) rfl rfl rfl rfl ?_
 repeat' ((conv => whnf); first
  | ((first | (with_reducible apply Z.callZ_mk ?_ (eqk_con _ _ ?_) ?_)); (rotate_left 2); (focus ((repeat' (first | exact trivial | exact rfl | apply And.intro)); done)); (iterate 1 (focus (first | assumption))))
  | fail)
 all_goals (try (conv => whnf))
 all_goals try (show Nat.ble _ _ = true; rfl)
 all_goals first
  | ((first | (with_reducible apply Z.retF1)); (focus rfl); (repeat' (first | exact trivial | exact rfl | apply And.intro)); (all_goals (try exact (fun _ => none))); all_goals (rfl))
  | fail
end Tab
end Go.Proofs.YtopieffkpdlpbaaGreat
namespace Go.Proofs.YtopieffkpdlpbaaGreat
open Go Go.RowKit Wx
set_option maxHeartbeats 4000000
def snapR (x : Sn) : Bool := decide ((0 ≤ x.op ∧ x.op < 8) ∧ Tab.okS x.ix x.w) && (offR x.o0 x.o1 x.o2 x.o3 x.o4 x.o5 x.o6 x.o7 x.ix x.w && (namesR x.txs && (Tab.tabR x.rows && decide (Tab.partL x.rows x.ix x.w = x.rows))))
theorem maybe_con (x : Sn) (hr : x.rows.length ≤ 1000) (ht : x.txs.length ≤ 9223372036854775807) : Con Tryz.prog 27 [.agg [.v (.int .i64 x.op), .v (.int .i64 x.ix), .v (.int .i64 x.w), .v (.bool x.en), .ro false 4 (x.rows.map Tab.eK), .v (.int .i64 x.o0), .v (.int .i64 x.o1), .v (.int .i64 x.o2), .v (.int .i64 x.o3), .v (.int .i64 x.o4), .v (.int .i64 x.o5), .v (.int .i64 x.o6), .v (.int .i64 x.o7), .ro false 3 (x.txs.map eN)]] (fun rx rK rt => rx = .val (.bool (snapR x)) ∧ rK = [] ∧ rt = 0) := by
 refine Z.con_ofF tabOk 51 Tryz.f27 _ Tryz.func27 (by kernel_rfl) rfl rfl rfl rfl ?_
 unfold snapR
 by_cases ho : 0 ≤ x.op ∧ x.op < 8
 rotate_left
 ·rw [decide_eq_false (fun h => ho h.1), Bool.false_and]
  repeat' ((conv => whnf); first
   | with_reducible first | refine spB_t ?_
   | ((with_reducible apply spB_cong); (focus (simp only [splQ, Int.reduceBEq, Int.reduceBNe]; rfl)))
   | with_reducible first | refine spB_no (by decide) ?_ | refine spB_not ?_
   | (with_reducible refine spB_dec ?_ ?_ <;> intro _ <;> (try (exfalso; first | contradiction | omega | (rename_i hz; refine hz ?_; simp; done) | (rename_i hz; simp at hz; done) | (simp only [LN] at *; omega))))
   | with_reducible first | refine Z.callZ_in tabOk 9 Tryz.f63 _ Tryz.func63 (by kernel_rfl) rfl rfl rfl ?_
   | ((with_reducible apply ex_and); exact rfl)
   | fail)
  all_goals (try (conv => whnf))
  all_goals try first | (show Nat.ble _ _ = true; rfl) | (exfalso; rename_i hz; cases hz; done) | (exfalso; (try simp only [LN] at *) <;> omega)
  all_goals first
   | ((first | (with_reducible apply Z.retF1)); (focus rfl); (repeat' (first | exact trivial | (with_reducible apply Z.frz_one) | (with_reducible apply Z.fq_bool) | exact rfl | apply And.intro)); (all_goals (try exact (fun _ => none))); all_goals (first | (simp; done)))
   | fail
 by_cases hs : Tab.okS x.ix x.w
 rotate_left
 ·have cow := Tab.owned_bad x.ix x.w hs
  rw [decide_eq_false (fun h => hs h.2), Bool.false_and]
  repeat' ((conv => whnf); first
   | with_reducible first | refine spB_t ?_
   | ((with_reducible apply spB_cong); (focus (simp only [splQ, Int.reduceBEq, Int.reduceBNe]; rfl)))
   | with_reducible first | refine spB_no (by decide) ?_ | refine spB_not ?_
   | (with_reducible refine spB_dec ?_ ?_ <;> intro _ <;> (try (exfalso; first | contradiction | omega | (rename_i hz; refine hz ?_; simp; done) | (rename_i hz; simp at hz; done) | (simp only [LN] at *; omega))))
   | with_reducible first | refine Z.callZ_in tabOk 9 Tryz.f63 _ Tryz.func63 (by kernel_rfl) rfl rfl rfl ?_ | refine Z.callZ_in tabOk 15 Tryz.f64 _ Tryz.func64 (by kernel_rfl) rfl rfl rfl ?_
   | ((first | (with_reducible refine Z.callZ_mk ?_ (cow) ?_)); (focus ((repeat' (first | exact trivial | exact rfl | apply And.intro)); done)))
   | ((with_reducible apply ex_and); exact rfl)
   | fail)
  all_goals (try (conv => whnf))
  all_goals try first | (show Nat.ble _ _ = true; rfl) | (exfalso; rename_i hz; cases hz; done) | (exfalso; (try simp only [LN] at *) <;> omega)
  all_goals first
   | ((first | (with_reducible apply Z.retF1)); (focus rfl); (repeat' (first | exact trivial | (with_reducible apply Z.frz_one) | (with_reducible apply Z.fq_bool) | exact rfl | apply And.intro)); (all_goals (try exact (fun _ => none))); all_goals (first | (simp; done)))
   | fail
 obtain ⟨L, cow⟩ := Tab.owned_ok x.ix x.w hs
 rw [decide_eq_true ⟨ho, hs⟩, Bool.true_and]
 have cof := areoff_con x.o0 x.o1 x.o2 x.o3 x.o4 x.o5 x.o6 x.o7 x.ix x.w hs
 cases hof : offR x.o0 x.o1 x.o2 x.o3 x.o4 x.o5 x.o6 x.o7 x.ix x.w
 all_goals rw [hof] at cof
 ·rw [Bool.false_and]
  repeat' ((conv => whnf); first
   | with_reducible first | refine spB_t ?_
   | ((with_reducible apply spB_cong); (focus (simp only [splQ, Int.reduceBEq, Int.reduceBNe]; rfl)))
   | with_reducible first | refine spB_no (by decide) ?_ | refine spB_not ?_
   | (with_reducible refine spB_dec ?_ ?_ <;> intro _ <;> (try (exfalso; first | contradiction | omega | (rename_i hz; refine hz ?_; simp; done) | (rename_i hz; simp at hz; done) | (simp only [LN] at *; omega))))
   | with_reducible first | refine Z.callZ_in tabOk 9 Tryz.f63 _ Tryz.func63 (by kernel_rfl) rfl rfl rfl ?_ | refine Z.callZ_in tabOk 15 Tryz.f64 _ Tryz.func64 (by kernel_rfl) rfl rfl rfl ?_
   | ((first | (with_reducible refine Z.callZ_mk ?_ (cof) ?_) | (with_reducible refine Z.callZ_mk ?_ (cow) ?_)); (focus ((repeat' (first | exact trivial | exact rfl | apply And.intro)); done)))
   | ((with_reducible apply ex_and); exact rfl)
   | fail)
  all_goals (try (conv => whnf))
  all_goals try first | (show Nat.ble _ _ = true; rfl) | (exfalso; rename_i hz; cases hz; done) | (exfalso; (try simp only [LN] at *) <;> omega)
  all_goals first
   | ((first | (with_reducible apply Z.retF1)); (focus rfl); (repeat' (first | exact trivial | (with_reducible apply Z.frz_one) | (with_reducible apply Z.fq_bool) | exact rfl | apply And.intro)); (all_goals (try exact (fun _ => none))); all_goals (first | (simp; done)))
   | fail
 rw [Bool.true_and]
 have cnm := namesok_con x.txs ht
 cases hnm : namesR x.txs
 all_goals rw [hnm] at cnm
 ·rw [Bool.false_and]
  repeat' ((conv => whnf); first
   | with_reducible first | refine spB_t ?_
   | ((with_reducible apply spB_cong); (focus (simp only [splQ, Int.reduceBEq, Int.reduceBNe]; rfl)))
   | with_reducible first | refine spB_no (by decide) ?_ | refine spB_not ?_
   | (with_reducible refine spB_dec ?_ ?_ <;> intro _ <;> (try (exfalso; first | contradiction | omega | (rename_i hz; refine hz ?_; simp; done) | (rename_i hz; simp at hz; done) | (simp only [LN] at *; omega))))
   | with_reducible first | refine Z.callZ_in tabOk 9 Tryz.f63 _ Tryz.func63 (by kernel_rfl) rfl rfl rfl ?_ | refine Z.callZ_in tabOk 15 Tryz.f64 _ Tryz.func64 (by kernel_rfl) rfl rfl rfl ?_
   | ((first | (with_reducible refine Z.callZ_mk ?_ (cnm) ?_) | (with_reducible refine Z.callZ_mk ?_ (cof) ?_) | (with_reducible refine Z.callZ_mk ?_ (cow) ?_)); (focus ((repeat' (first | exact trivial | exact rfl | apply And.intro)); done)))
   | ((with_reducible apply ex_and); exact rfl)
   | fail)
  all_goals (try (conv => whnf))
  all_goals try first | (show Nat.ble _ _ = true; rfl) | (exfalso; rename_i hz; cases hz; done) | (exfalso; (try simp only [LN] at *) <;> omega)
  all_goals first
   | ((first | (with_reducible apply Z.retF1)); (focus rfl); (repeat' (first | exact trivial | (with_reducible apply Z.frz_one) | (with_reducible apply Z.fq_bool) | exact rfl | apply And.intro)); (all_goals (try exact (fun _ => none))); all_goals (first | (simp; done)))
   | fail
 rw [Bool.true_and]
 have cpa := Tab.tpart_con x.rows x.ix x.w hr
 unfold Tab.partT at cpa
 cases htb : Tab.tabR x.rows
 all_goals rw [htb] at cpa
 ·rw [if_pos rfl] at cpa
  rw [Bool.false_and]
  repeat' ((conv => whnf); first
   | with_reducible first | refine spB_t ?_
   | ((with_reducible apply spB_cong); (focus (simp only [splQ, Int.reduceBEq, Int.reduceBNe]; rfl)))
   | with_reducible first | refine spB_no (by decide) ?_ | refine spB_not ?_
   | (with_reducible refine spB_dec ?_ ?_ <;> intro _ <;> (try (exfalso; first | contradiction | omega | (rename_i hz; refine hz ?_; simp; done) | (rename_i hz; simp at hz; done) | (simp only [LN] at *; omega))))
   | with_reducible first | refine Z.callZ_in tabOk 9 Tryz.f63 _ Tryz.func63 (by kernel_rfl) rfl rfl rfl ?_ | refine Z.callZ_in tabOk 15 Tryz.f64 _ Tryz.func64 (by kernel_rfl) rfl rfl rfl ?_
   | ((first | (with_reducible refine Z.callZ_mk ?_ (cnm) ?_) | (with_reducible refine Z.callZ_mk ?_ (cof) ?_) | (with_reducible refine Z.callZ_mk ?_ (cpa) ?_) | (with_reducible refine Z.callZ_mk ?_ (cow) ?_)); (focus ((repeat' (first | exact trivial | exact rfl | apply And.intro)); done)))
   | ((with_reducible apply ex_and); exact rfl)
   | fail)
  all_goals (try (conv => whnf))
  all_goals try first | (show Nat.ble _ _ = true; rfl) | (exfalso; rename_i hz; cases hz; done) | (exfalso; (try simp only [LN] at *) <;> omega)
  all_goals first
   | ((first | (with_reducible apply Z.retF1)); (focus rfl); (repeat' (first | exact trivial | (with_reducible apply Z.frz_one) | (with_reducible apply Z.fq_bool) | exact rfl | apply And.intro)); (all_goals (try exact (fun _ => none))); all_goals (first | (simp; done)))
   | fail
 rw [if_neg (by decide), if_pos hs] at cpa
 dsimp only at cpa
 rw [Bool.true_and]
 have hpl := @Tab.part_len x.rows x.ix x.w
 have cs := Tab.same_con (Tab.partL x.rows x.ix x.w) x.rows (by omega)
 generalize Tab.partL x.rows x.ix x.w = Q at *
 generalize decide (Q = x.rows) = B at *
 repeat' ((conv => whnf); first
  | with_reducible first | refine spB_t ?_
  | ((with_reducible apply spB_cong); (focus (simp only [splQ, Int.reduceBEq, Int.reduceBNe]; rfl)))
  | with_reducible first | refine spB_no (by decide) ?_ | refine spB_not ?_
  | (with_reducible refine spB_dec ?_ ?_ <;> intro _ <;> (try (exfalso; first | contradiction | omega | (rename_i hz; refine hz ?_; simp; done) | (rename_i hz; simp at hz; done) | (simp only [LN] at *; omega))))
  | with_reducible first | refine Z.callZ_in tabOk 9 Tryz.f63 _ Tryz.func63 (by kernel_rfl) rfl rfl rfl ?_ | refine Z.callZ_in tabOk 15 Tryz.f64 _ Tryz.func64 (by kernel_rfl) rfl rfl rfl ?_
  | ((first | (with_reducible refine Z.callZ_mk ?_ (cnm) ?_) | (with_reducible refine Z.callZ_mk ?_ (cs) ?_) | (with_reducible refine Z.callZ_mk ?_ (cof) ?_) | (with_reducible refine Z.callZ_mk ?_ (cpa) ?_) | (with_reducible refine Z.callZ_mk ?_ (cow) ?_)); (focus ((repeat' (first | exact trivial | exact rfl | apply And.intro)); done)))
  | ((with_reducible apply ex_and); exact rfl)
  | fail)
 all_goals (try (conv => whnf))
 all_goals try first | (show Nat.ble _ _ = true; rfl) | (exfalso; rename_i hz; cases hz; done) | (exfalso; (try simp only [LN] at *) <;> omega)
 all_goals first
  | ((first | (with_reducible apply Z.retF1)); (focus rfl); (repeat' (first | exact trivial | exact rfl | apply And.intro)); (all_goals (try exact (fun _ => none))); all_goals (first | (simp; done)))
  | fail
theorem scheck_con (x : Sn) (hr : x.rows.length ≤ 1000) (ht : x.txs.length ≤ 9223372036854775807) : Con Tryz.prog 9 [.agg [.v (.int .i64 x.op), .v (.int .i64 x.ix), .v (.int .i64 x.w), .v (.bool x.en), .ro false 4 (x.rows.map Tab.eK), .v (.int .i64 x.o0), .v (.int .i64 x.o1), .v (.int .i64 x.o2), .v (.int .i64 x.o3), .v (.int .i64 x.o4), .v (.int .i64 x.o5), .v (.int .i64 x.o6), .v (.int .i64 x.o7), .ro false 3 (x.txs.map eN)]] (fun rx rK rt => rx = .val (.int .i64 (bif snapR x then 0 else 280)) ∧ rK = [] ∧ rt = 0) := by
 refine Z.con_ofF tabOk 6 Tryz.f9 _ Tryz.func9 (by kernel_rfl) rfl rfl rfl rfl ?_
 have cm := maybe_con x hr ht
 cases hz : snapR x
 all_goals rw [hz] at cm
 all_goals try simp only [cond_true, cond_false]
 ·skip
  repeat' ((conv => whnf); first
   | with_reducible first | refine spB_t ?_
   | ((with_reducible apply spB_cong); (focus (simp only [splQ, Int.reduceBEq, Int.reduceBNe]; rfl)))
   | ((first | (with_reducible refine Z.callZ_mk ?_ (cm) ?_)); (focus ((repeat' (first | exact trivial | exact rfl | apply And.intro)); done)))
   | fail)
  all_goals (try (conv => whnf))
  all_goals try first | (show Nat.ble _ _ = true; rfl) | (exfalso; rename_i hz; cases hz; done) | (exfalso; (try simp only [LN] at *) <;> omega)
  all_goals first
   | ((first | (with_reducible apply Z.retF1)); (focus rfl); (repeat' (first | exact trivial | (with_reducible apply Z.frz_one) | (with_reducible apply Z.fq_int) | exact rfl | apply And.intro)); (all_goals (try exact (fun _ => none))); all_goals (first | (simp; done)))
   | fail
 ·skip
  repeat' ((conv => whnf); first
   | ((with_reducible apply spB_cong); (focus (simp only [splQ, Int.reduceBEq, Int.reduceBNe]; rfl)))
   | with_reducible first | refine spB_no (by decide) ?_
   | ((first | (with_reducible refine Z.callZ_mk ?_ (cm) ?_)); (focus ((repeat' (first | exact trivial | exact rfl | apply And.intro)); done)))
   | fail)
  all_goals (try (conv => whnf))
  all_goals try first | (show Nat.ble _ _ = true; rfl) | (exfalso; rename_i hz; cases hz; done) | (exfalso; (try simp only [LN] at *) <;> omega)
  all_goals first
   | ((first | (with_reducible apply Z.retF1)); (focus rfl); (repeat' (first | exact trivial | (with_reducible apply Z.frz_one) | (with_reducible apply Z.fq_int) | exact rfl | apply And.intro)); (all_goals (try exact (fun _ => none))); all_goals (first | (simp; done)))
   | fail
end Go.Proofs.YtopieffkpdlpbaaGreat
namespace Go.Proofs.YtopieffkpdlpbaaGreat
open Go Go.RowKit Wx
set_option maxHeartbeats 4000000
def zeroS : Sn := ⟨0, 0, 0, false, [], 0, 0, 0, 0, 0, 0, 0, 0, []⟩
end Go.Proofs.YtopieffkpdlpbaaGreat
namespace Go.Proofs.YtopieffkpdlpbaaGreat
open Go Go.RowKit Wx
set_option maxHeartbeats 4000000
namespace Tab
theorem loopZ_unr1 {P : Program} {T : Tab} {n m : Nat} {rd : Option Nat} {s : Z.S} {c : Code} {Q : Exit → Z.S → Prop} (hT : TabOk P T) (hs : Wx.get s.F 5 = some (.val (.int .i64 1))) (h : Z.loopU P T n m rd c Q 2 s) : Z.LoopZ P n m rd c s Q := Z.loopZ_unroll hT 2 h
theorem wr_shl8 {x : Int} {A : Int → Prop} (h : 0 ≤ x ∧ x < 72057594037927936) (k : A (x * 256)) : wr .u64 (x * 2 ^ (min (Int.toNat 8) IntKind.u64.bits)) A := ⟨x * 256, by
 show IntKind.u64.wrap (x * 2 ^ 8) = _
 rw [u64_in _ (by omega)]; omega, k⟩
theorem or_add {x b : Int} (h : 0 ≤ x ∧ x < 72057594037927936) (hb : 0 ≤ b ∧ b ≤ 255) : IntKind.u64.wrap ((BitVec.ofInt IntKind.u64.bits (x * 256) ||| BitVec.ofInt IntKind.u64.bits b).toNat : Int) = x * 256 + b := by
 have e := or256 h hb
 rw [u64_in (x * 2 ^ 8) (by omega), u64_in b (by omega), show x * 2 ^ 8 = x * 256 by omega] at e
 exact e
theorem wr_or0 {b : Int} {A : Int → Prop} (hb : 0 ≤ b ∧ b ≤ 255) (k : A b) : wr .u8 (IntKind.u64.wrap ((BitVec.ofInt IntKind.u64.bits (0 * 256) ||| BitVec.ofInt IntKind.u64.bits b).toNat : Int)) A := ⟨b, by
 rw [or_add (by decide) hb, u8_mod]; omega, k⟩
theorem copy_rows {l : List Int} {m k n : Nat} {z : List Ce} {fl : Bool} (hm : m = l.length) (hk : l.length ≤ k) (hn : n = l.length) : (lay (List.replicate m z) 0 (List.take k ((l.map eB).map (List.map (RT.ce fl))))).take n = l.map cB := by
 subst hn
 rw [Z.lay_copy hm hk (fun _ => rfl)]
 exact List.take_of_length_le (by simp)
theorem tk_map {r : List Int} : List.take r.length (List.map eB r) = List.map eB r := List.take_of_length_le (by simp)
theorem loopQ3 {P : Program} {n m : Nat} {rd : Option Nat} {s : Z.S} {c : Code} {Q : Exit → Z.S → Prop} {s9 : Z.S} (h : ∀ Q0 : Exit → Z.S → Prop, Q0 (.exit 0) s9 → Z.LoopZ P n m rd c s Q0) (k : Q (.exit 0) s9) : Z.LoopZ P n m rd c s Q := h Q k
theorem copied_con (l : List Int) (hl : l.length ≤ 1099511627776) : Con Tryz.prog 79 [.one (.ro false 1 (l.map eB))] (fun rx rK rt => rx = .c (.ro true 1 (l.map eB)) ∧ rK = [] ∧ rt = 0) := by
 refine Z.con_ofF tabOk 11 Tryz.f79 _ Tryz.func79 (by kernel_rfl) rfl rfl rfl rfl ?_
 repeat' ((conv => whnf); first
  | with_reducible first | refine spB_t ?_
  | ((with_reducible apply spB_cong); (focus (simp only [splQ, Int.reduceBEq, Int.reduceBNe]; rfl)))
  | with_reducible first | refine spB_yes (by decide) ?_ | refine spB_no (by decide) ?_ | refine spB_f ?_ | refine spB_not ?_ | refine spB_yes (by assumption) ?_ | refine spB_no (by assumption) ?_
  | (with_reducible refine spB_dec ?_ ?_ <;> intro _ <;> (try (exfalso; first | contradiction | omega | (rename_i hz; refine hz ?_; simp; done) | (rename_i hz; simp at hz; done) | (simp only [LN] at *; omega))))
  | (with_reducible refine spB_beq ?_ ?_ <;> intro _ <;> (try (exfalso; first | contradiction | omega | (rename_i hz; refine hz ?_; simp; done) | (rename_i hz; simp at hz; done) | (simp only [LN] at *; omega))))
  | (with_reducible refine spB_bne ?_ ?_ <;> intro _ <;> (try (exfalso; first | contradiction | omega | (rename_i hz; refine hz ?_; simp; done) | (rename_i hz; simp at hz; done) | (simp only [LN] at *; omega))))
  | (with_reducible refine spB_mk ?_ ?_ <;> intro _ <;> (try (exfalso; first | contradiction | omega | (rename_i hz; refine hz ?_; simp; done) | (rename_i hz; simp at hz; done) | (simp only [LN] at *; omega))))
  | ((with_reducible apply rowN_mk); (focus rfl))
  | ((with_reducible apply ixN_lit); (focus rfl); (focus rfl))
  | ((with_reducible apply ixN_litp); (focus rfl); (focus ((try simp only [LN] at *) <;> omega)))
  | ((with_reducible refine eqN_mk2 ?_ ?_); (focus rfl))
  | ((with_reducible refine cpyN.mk ?_ ?_ ?_ ?_); (focus (first | rfl | (simp; done))); (focus (first | exact one_all (by rfl) | exact one_map (fun _ => rfl) | exact one_map2 (fun _ => rfl))); (focus ((try simp only [LN] at *) <;> omega)))
  | with_reducible refine wr_i64 (by first | omega | (simp only [LN] at *; omega)) ?_
  | with_reducible refine wr_u64 (by omega) ?_
  | with_reducible first | refine wr_mk _ rfl ?_
  | ((with_reducible refine ixN_nat ?_ ?_); (focus ((try simp only [LN] at *) <;> omega)))
  | ((with_reducible refine rowN_map ?_ ?_); (focus ((try simp only [LN] at *) <;> omega)); intro x hx)
  | with_reducible refine eqN_dec (by omega) ?_
  | with_reducible first | refine apN_mk (by kernel_rfl) ?_
  | ((with_reducible refine eqN_mk2 ?_ ?_); (focus (exact Z.kb_some rfl)))
  | ((with_reducible apply ex_and); exact rfl)
  | ((with_reducible refine Z.mkN_nat ?_ ?_ ?_ ?_); (focus ((try simp only [LN] at *) <;> omega)); (focus ((try simp only [LN] at *) <;> omega)); (focus ((try simp only [LN] at *) <;> omega))))
 all_goals (try (conv => whnf))
 all_goals try first | (show Nat.ble _ _ = true; rfl) | (exfalso; rename_i hz; cases hz; done) | (exfalso; (try simp only [LN] at *) <;> omega)
 all_goals first
  | ((first | (with_reducible apply Z.retF1) | (with_reducible apply Z.retF2) | (with_reducible apply Z.retF0)); (focus rfl); (repeat' (first | exact trivial | (refine Z.frz_oslw (l := l) (f := cB) (ty := 5) (bx := false) rfl ?_ ?_ (fun _ => rfl); (focus (simp; done)); exact copy_rows (by simp) (by simp) (by simp)) | (with_reducible apply Z.frz_one) | (with_reducible apply Z.frz_agg) | (with_reducible apply Z.fq_int) | (with_reducible apply Z.fq_bool) | (exact Z.frz_nil) | (exact Z.frz_osl0 rfl rfl rfl) | (with_reducible apply Z.fq_nil) | (with_reducible apply Z.fq_ro) | ((with_reducible apply Z.fq_gsl); (focus (first | rfl | exact Z.isB_map _ | exact Z.gB_snoc.symm)); (focus (exact fun _ => rfl))) | ((with_reducible apply Z.fq_osl); (focus rfl); (focus (first | exact rfl | (simp only [List.length_map, Nat.zero_add]; done) | ((try simp only [LN] at *) <;> omega))); (focus (exact fun _ => rfl))) | ((with_reducible apply Z.fq_src); (focus rfl); (focus (first | exact rfl | (simp only [List.length_map, Nat.zero_add]; done) | ((try simp only [LN] at *) <;> omega))); (focus (exact fun _ => rfl))) | exact rfl | ((apply Z.fq_osl); (focus rfl); (focus (first | exact rfl | (simp only [List.length_map, Nat.zero_add]; done) | ((try simp only [LN] at *) <;> omega))); (focus (exact fun _ => rfl))) | ((apply Z.fq_src); (focus rfl); (focus (first | exact rfl | (simp only [List.length_map, Nat.zero_add]; done) | ((try simp only [LN] at *) <;> omega))); (focus (exact fun _ => rfl))) | (apply Z.fq_ro) | (apply Z.fq_int) | (apply Z.fq_bool) | apply And.intro)); (all_goals (try exact (fun _ => none))); all_goals (first | rfl | (simp; done)))
  | (exfalso; rename_i hz; cases hz; done)
  | (exfalso; (try simp only [LN] at *) <;> omega)
  | (fail)
end Tab
end Go.Proofs.YtopieffkpdlpbaaGreat
