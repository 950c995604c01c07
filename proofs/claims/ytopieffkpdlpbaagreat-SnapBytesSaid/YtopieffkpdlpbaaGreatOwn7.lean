import Derived.Test.YtopieffkpdlpbaaGreatOwn6
set_option linter.unusedVariables false
set_option linter.unusedSimpArgs false
namespace Go.Proofs.YtopieffkpdlpbaaGreat
open Go Go.RowKit Wx
set_option maxHeartbeats 4000000
namespace Tab
end Tab
open Tab
theorem num4_le {l : List Int} (hB : isB l) (hl : l.length ≤ 4) : 0 ≤ numR l ∧ numR l ≤ 4294967295 := by
 have h := numR_lt (n := l.length) rfl hB
 have h2 : (256 : Int) ^ l.length ≤ 256 ^ 4 := by
  have : ∀ j : Fin 5, (256 : Int) ^ j.1 ≤ 256 ^ 4 := by decide
  exact this ⟨l.length, by omega⟩
 have h3 : (256 : Int) ^ 4 = 4294967296 := by decide
 omega
def encN (x : Nm) : List Int := x.s :: (be 4 x.a ++ be 4 x.n)
def encS (x : Sn) : List Int := x.op :: x.ix :: x.w :: (bif x.en then 1 else 0) :: (encT x.rows ++ (x.o0 :: x.o1 :: x.o2 :: x.o3 :: x.o4 :: x.o5 :: x.o6 :: x.o7 :: (x.txs.length : Int) :: x.txs.flatMap encN))
def encSR (x : Sn) : List Int × Int := if snapR x = true then (encS x, 0) else ([], 280)
theorem encN_len (x : Nm) : (encN x).length = 9 := by unfold encN; simp [be_len]
theorem encNs_len : ∀ l : List Nm, (l.flatMap encN).length = 9 * l.length
 | [] => rfl
 | x :: l => by rw [List.flatMap_cons, List.length_append, encN_len, encNs_len l, List.length_cons]; omega
theorem encNs_snoc {l : List Nm} {k : Nat} {x : Nm} (h : l[k]? = some x) : (l.take (k + 1)).flatMap encN = (l.take k).flatMap encN ++ encN x := by rw [take_snoc h, List.flatMap_append]; simp
theorem encS_len (x : Sn) : (encS x).length = 15 + 18 * x.rows.length + 9 * x.txs.length := by
 unfold encS
 simp only [List.length_cons, List.length_append, encT_len, encNs_len]
 omega
def nmD (b : List Int) : Nm := ⟨(b.take 1).headD 0, numR ((b.drop 1).take 4), numR ((b.drop 5).take 4)⟩
def decN : Nat → List Int → List Nm × Int × List Int
 | 0, b => ([], 0, b)
 | n + 1, b => if b.length < 9 then ([], 7, []) else if (decN n (b.drop 9)).2.1 = 0 then (nmD b :: (decN n (b.drop 9)).1, 0, (decN n (b.drop 9)).2.2) else ([], 7, [])
def okN (x : Nm) : Prop := (0 ≤ x.s ∧ x.s ≤ 255) ∧ (0 ≤ x.a ∧ x.a ≤ 4294967295) ∧ (0 ≤ x.n ∧ x.n ≤ 4294967295)
theorem decN_err : ∀ (n : Nat) (b : List Int), (decN n b).2.1 = if b.length < 9 * n then 7 else 0
 | 0, b => by simp [decN]
 | n + 1, b => by
  rw [decN]
  by_cases h : b.length < 9
  ·rw [if_pos h, if_pos (by omega)]
  ·rw [if_neg h, decN_err n, List.length_drop]
   by_cases h2 : b.length - 9 < 9 * n
   ·rw [if_pos h2, if_neg (by decide), if_pos (by omega)]
   ·rw [if_neg h2, if_pos rfl, if_neg (by omega)]
theorem num4 {l : List Int} (hl : l.length = 4) (hB : isB l) : be 4 (numR l) = l := be_numR hl hB
theorem ap4 {r : List Int} : r = r.take 4 ++ ((r.drop 4).take 4 ++ r.drop 8) := by
 conv => lhs; rw [← List.take_append_drop 4 r, ← List.take_append_drop 4 (r.drop 4), List.drop_drop]
theorem nmD_inv {b : List Int} (hB : isB b) (hl : 9 ≤ b.length) : b = encN (nmD b) ++ b.drop 9 ∧ okN (nmD b) := by
 match b, hl with
 | t :: r, hl =>
  have ht := hB t (by simp)
  have hBr : isB r := fun x hx => hB x (by simp [hx])
  simp only [List.length_cons] at hl
  have e : nmD (t :: r) = ⟨t, numR (r.take 4), numR ((r.drop 4).take 4)⟩ := rfl
  have r1 := num4_le (isB_take (n := 4) hBr) (by rw [List.length_take]; omega)
  have r2 := num4_le (isB_take (n := 4) (isB_drop (n := 4) hBr)) (by rw [List.length_take]; omega)
  refine ⟨?_, by rw [e]; exact ⟨ht, r1, r2⟩⟩
  rw [e]
  unfold encN
  simp only
  rw [num4 (by rw [List.length_take]; omega) (isB_take hBr), num4 (by rw [List.length_take, List.length_drop]; omega) (isB_take (isB_drop hBr))]
  show t :: r = (t :: (r.take 4 ++ (r.drop 4).take 4)) ++ r.drop 8
  conv => lhs; rw [@ap4 r]
  simp
theorem decN_inv : ∀ {n : Nat} {b : List Int} {L : List Nm} {r : List Int}, isB b → decN n b = (L, 0, r) → b = L.flatMap encN ++ r ∧ L.length = n ∧ ∀ x ∈ L, okN x
 | 0, b, L, r, _, h => by
  simp only [decN, Prod.mk.injEq, true_and] at h
  obtain ⟨rfl, rfl⟩ := h
  exact ⟨rfl, rfl, fun x hx => nomatch hx⟩
 | n + 1, b, L, r, hB, h => by
  rw [decN] at h
  split at h
  ·simp at h
  ·rename_i hl
   split at h
   ·rename_i h2
    simp only [Prod.mk.injEq, true_and] at h
    obtain ⟨rfl, rfl⟩ := h
    obtain ⟨e1, e2⟩ := nmD_inv hB (by omega)
    obtain ⟨i1, i2, i3⟩ := decN_inv (isB_drop (n := 9) hB) (L := (decN n (b.drop 9)).1) (r := (decN n (b.drop 9)).2.2) (by rw [← h2])
    refine ⟨?_, by rw [List.length_cons, i2], fun x hx => ?_⟩
    ·rw [List.flatMap_cons, List.append_assoc, ← i1]
     exact e1
    ·rcases List.mem_cons.1 hx with rfl | hx
     ·exact e2
     ·exact i3 x hx
   ·simp at h
theorem decN_rest : ∀ {n : Nat} {b : List Int}, (decN n b).2.1 = 0 → (decN n b).2.2 = b.drop (9 * n)
 | 0, b, _ => by simp [decN]
 | n + 1, b, h => by
  rw [decN] at h ⊢
  split at h
  ·simp at h
  ·rename_i hl
   split at h
   ·rename_i h2
    rw [if_neg hl, if_pos h2, decN_rest h2, List.drop_drop, show 9 + 9 * n = 9 * (n + 1) by omega]
   ·simp at h
def eS (b : List Int) : Nat := 6 + 18 * (numR ((b.drop 4).take 2)).toNat
def mS (b : List Int) : Nat := (b.getD (eS b + 8) 0).toNat
def snD (b : List Int) : Sn := ⟨b.getD 0 0, b.getD 1 0, b.getD 2 0, decide (b.getD 3 0 = 1), (decT ((b.drop 4).take (eS b - 4))).1, b.getD (eS b) 0, b.getD (eS b + 1) 0, b.getD (eS b + 2) 0, b.getD (eS b + 3) 0, b.getD (eS b + 4) 0, b.getD (eS b + 5) 0, b.getD (eS b + 6) 0, b.getD (eS b + 7) 0, (decN (mS b) (b.drop (eS b + 9))).1⟩
def shS (b : List Int) : Prop := b.length < 6 ∨ b.length < eS b + 9 ∨ b.length < eS b + 9 + 9 * mS b
instance (b : List Int) : Decidable (shS b) := by unfold shS; infer_instance
def okB (b : List Int) : Prop := ((decT ((b.drop 4).take (eS b - 4))).2 = 0 ∧ b.getD 3 0 ≤ 1) ∧ b.length = eS b + 9 + 9 * mS b ∧ snapR (snD b) = true
instance (b : List Int) : Decidable (okB b) := by unfold okB; infer_instance
def decS (b : List Int) : Sn × Int := if shS b then (zeroS, 7) else if okB b then (snD b, 0) else (zeroS, 280)
theorem drp_cons {α : Type} {A : List α} {x : α} {B : List α} {k : Nat} (h : A.length = k) (d : α) : (A ++ x :: B).getD k d = x := by
 subst h; simp [List.getD_eq_getElem?_getD]
theorem decS_parts {t0 t1 t2 t3 p0 p1 p2 p3 p4 p5 p6 p7 m : Int} {R1 R3 b : List Int} {N : Nat} (hb : b = t0 :: t1 :: t2 :: t3 :: (R1 ++ (p0 :: p1 :: p2 :: p3 :: p4 :: p5 :: p6 :: p7 :: m :: R3))) (hN : numR (R1.take 2) = (N : Int)) (h1 : R1.length = 2 + 18 * N) : eS b = 6 + 18 * N ∧ mS b = m.toNat ∧ b.length = 15 + 18 * N + R3.length ∧ (b.drop 4).take (eS b - 4) = R1 ∧ b.drop (eS b + 9) = R3 ∧ snD b = ⟨t0, t1, t2, decide (t3 = 1), (decT R1).1, p0, p1, p2, p3, p4, p5, p6, p7, (decN m.toNat R3).1⟩ := by
 have e1 : (b.drop 4).take 2 = R1.take 2 := by
  rw [hb]; show (R1 ++ _).take 2 = _
  rw [List.take_append_of_le_length (by omega)]
 have hE : eS b = 6 + 18 * N := by unfold eS; rw [e1, hN, Int.toNat_natCast]
 have hg : ∀ (A : List Int) (x : Int) (B : List Int), R1 ++ (p0 :: p1 :: p2 :: p3 :: p4 :: p5 :: p6 :: p7 :: m :: R3) = R1 ++ (A ++ x :: B) → b.getD (6 + 18 * N + A.length) 0 = x := fun A x B hA => by
  rw [hb, hA, show t0 :: t1 :: t2 :: t3 :: (R1 ++ (A ++ x :: B)) = (t0 :: t1 :: t2 :: t3 :: (R1 ++ A)) ++ x :: B by simp]
  exact drp_cons (by simp only [List.length_cons, List.length_append]; omega) 0
 have g0 : b.getD (6 + 18 * N) 0 = p0 := hg [] p0 _ rfl
 have g1 : b.getD (6 + 18 * N + 1) 0 = p1 := hg [p0] p1 _ rfl
 have g2 : b.getD (6 + 18 * N + 2) 0 = p2 := hg [p0, p1] p2 _ rfl
 have g3 : b.getD (6 + 18 * N + 3) 0 = p3 := hg [p0, p1, p2] p3 _ rfl
 have g4 : b.getD (6 + 18 * N + 4) 0 = p4 := hg [p0, p1, p2, p3] p4 _ rfl
 have g5 : b.getD (6 + 18 * N + 5) 0 = p5 := hg [p0, p1, p2, p3, p4] p5 _ rfl
 have g6 : b.getD (6 + 18 * N + 6) 0 = p6 := hg [p0, p1, p2, p3, p4, p5] p6 _ rfl
 have g7 : b.getD (6 + 18 * N + 7) 0 = p7 := hg [p0, p1, p2, p3, p4, p5, p6] p7 _ rfl
 have g8 : b.getD (6 + 18 * N + 8) 0 = m := hg [p0, p1, p2, p3, p4, p5, p6, p7] m _ rfl
 have hM : mS b = m.toNat := by unfold mS; rw [hE, g8]
 have hR : (b.drop 4).take (6 + 18 * N - 4) = R1 := by rw [hb]; show (R1 ++ _).take _ = _; exact List.take_left' (by omega)
 have hD : b.drop (6 + 18 * N + 9) = R3 := by
  rw [hb, show t0 :: t1 :: t2 :: t3 :: (R1 ++ (p0 :: p1 :: p2 :: p3 :: p4 :: p5 :: p6 :: p7 :: m :: R3)) = (t0 :: t1 :: t2 :: t3 :: (R1 ++ [p0, p1, p2, p3, p4, p5, p6, p7, m])) ++ R3 by simp]
  exact List.drop_left' (by simp only [List.length_cons, List.length_append, List.length_nil]; omega)
 refine ⟨hE, hM, by rw [hb]; simp only [List.length_cons, List.length_append]; omega, by rw [hE]; exact hR, by rw [hE]; exact hD, ?_⟩
 unfold snD
 rw [hE, hM, hR, hD, g0, g1, g2, g3, g4, g5, g6, g7, hb]
 rfl
theorem decS_eq {t0 t1 t2 t3 p0 p1 p2 p3 p4 p5 p6 p7 m : Int} {R1 R3 : List Int} {N : Nat} (hN : numR (R1.take 2) = (N : Int)) (h1 : R1.length = 2 + 18 * N) : decS (t0 :: t1 :: t2 :: t3 :: (R1 ++ (p0 :: p1 :: p2 :: p3 :: p4 :: p5 :: p6 :: p7 :: m :: R3))) = if R3.length < 9 * m.toNat then (zeroS, 7) else if ((decT R1).2 = 0 ∧ t3 ≤ 1) ∧ R3.length = 9 * m.toNat ∧ snapR ⟨t0, t1, t2, decide (t3 = 1), (decT R1).1, p0, p1, p2, p3, p4, p5, p6, p7, (decN m.toNat R3).1⟩ = true then (⟨t0, t1, t2, decide (t3 = 1), (decT R1).1, p0, p1, p2, p3, p4, p5, p6, p7, (decN m.toNat R3).1⟩, 0) else (zeroS, 280) := by
 obtain ⟨b, hb⟩ : ∃ b, b = t0 :: t1 :: t2 :: t3 :: (R1 ++ (p0 :: p1 :: p2 :: p3 :: p4 :: p5 :: p6 :: p7 :: m :: R3)) := ⟨_, rfl⟩
 obtain ⟨hE, hM, hL, hR, hD, hS⟩ := decS_parts hb hN h1
 have h3 : b.getD 3 0 = t3 := by rw [hb]; rfl
 rw [← hb]
 have i1 : shS b ↔ R3.length < 9 * m.toNat := by unfold shS; rw [hM, hL, hE]; omega
 have i2 : okB b ↔ ((decT R1).2 = 0 ∧ t3 ≤ 1) ∧ R3.length = 9 * m.toNat ∧ snapR ⟨t0, t1, t2, decide (t3 = 1), (decT R1).1, p0, p1, p2, p3, p4, p5, p6, p7, (decN m.toNat R3).1⟩ = true := by
  unfold okB
  rw [hR, hS, h3, hM, hL, hE]
  constructor
  ·rintro ⟨k1, k2, k3⟩; exact ⟨k1, by omega, k3⟩
  ·rintro ⟨k1, k2, k3⟩; exact ⟨k1, by omega, k3⟩
 unfold decS
 rw [hS]
 by_cases hs : R3.length < 9 * m.toNat
 ·rw [if_pos (i1.2 hs), if_pos hs]
 ·rw [if_neg (fun q => hs (i1.1 q)), if_neg hs]
  by_cases hq : okB b
  ·rw [if_pos hq, if_pos (i2.1 hq)]
  ·rw [if_neg hq, if_neg (fun q => hq (i2.2 q))]
theorem decS_sh {b : List Int} (h : shS b) : decS b = (zeroS, 7) := by unfold decS; rw [if_pos h]
theorem sh_six {b : List Int} (h : b.length < 6) : decS b = (zeroS, 7) := decS_sh (.inl h)
theorem sh_raw {t0 t1 t2 t3 t4 t5 : Int} {r : List Int} {N : Nat} (hN : numR [t4, t5] = (N : Int)) (h : r.length < 18 * N + 9) : decS (t0 :: t1 :: t2 :: t3 :: t4 :: t5 :: r) = (zeroS, 7) := by
 refine decS_sh (.inr (.inl ?_))
 have e : eS (t0 :: t1 :: t2 :: t3 :: t4 :: t5 :: r) = 6 + 18 * N := by
  show 6 + 18 * (numR [t4, t5]).toNat = _
  rw [hN, Int.toNat_natCast]
 rw [e]
 simp only [List.length_cons]
 omega
theorem offs_rng {o0 o1 o2 o3 o4 o5 o6 o7 i w : Int} (h : offR o0 o1 o2 o3 o4 o5 o6 o7 i w = true) : RNG o0 o1 o2 o3 o4 o5 o6 o7 := by
 unfold offR at h
 rw [Bool.and_eq_true] at h
 exact of_decide_eq_true h.1
theorem nOk_all : ∀ {l : List Nm} {p : Option Nm}, nOk p l = true → ∀ x ∈ l, nmOk x = true
 | [], _, _, x, hx => nomatch hx
 | y :: l, p, h, x, hx => by
  have h' : nmOk y = true ∧ nOk (some y) l = true := by
   cases p with
   | none => simp only [nOk, Bool.and_eq_true] at h; exact h
   | some p => simp only [nOk, Bool.and_eq_true] at h; exact ⟨h.1.1, h.2⟩
  rcases List.mem_cons.1 hx with rfl | hx
  ·exact h'.1
  ·exact nOk_all h'.2 x hx
theorem snapR_all {x : Sn} (h : snapR x = true) : ((0 ≤ x.op ∧ x.op < 8) ∧ (0 ≤ x.ix ∧ x.ix < 3) ∧ 1 ≤ x.w ∧ x.w ≤ 3) ∧ RNG x.o0 x.o1 x.o2 x.o3 x.o4 x.o5 x.o6 x.o7 ∧ tabR x.rows = true ∧ x.txs.length ≤ 24 ∧ ∀ n ∈ x.txs, nmOk n = true := by
 unfold snapR at h
 simp only [Bool.and_eq_true] at h
 obtain ⟨h1, h2, h3, h4, _⟩ := h
 have h1 := of_decide_eq_true h1
 unfold namesR at h3
 rw [Bool.and_eq_true] at h3
 have h5 := h1.2
 unfold Tab.okS at h5
 exact ⟨⟨h1.1, by omega, by omega⟩, offs_rng h2, h4, of_decide_eq_true h3.1, nOk_all h3.2⟩
theorem split6 {b : List Int} (h : 6 ≤ b.length) : ∃ t0 t1 t2 t3 t4 t5 r, b = t0 :: t1 :: t2 :: t3 :: t4 :: t5 :: r := by
 match b, h with
 | t0 :: t1 :: t2 :: t3 :: t4 :: t5 :: r, _ => exact ⟨t0, t1, t2, t3, t4, t5, r, rfl⟩
theorem split9 {b : List Int} (h : 9 ≤ b.length) : ∃ p0 p1 p2 p3 p4 p5 p6 p7 m r, b = p0 :: p1 :: p2 :: p3 :: p4 :: p5 :: p6 :: p7 :: m :: r := by
 match b, h with
 | p0 :: p1 :: p2 :: p3 :: p4 :: p5 :: p6 :: p7 :: m :: r, _ => exact ⟨p0, p1, p2, p3, p4, p5, p6, p7, m, r, rfl⟩
theorem numR2 {a c : Int} : numR [a, c] = a * 256 + c := by simp [numR]
theorem shapeS {b : List Int} (hB : isB b) : b.length < 6 ∨ (∃ t0 t1 t2 t3 t4 t5 r, ∃ N : Nat, b = t0 :: t1 :: t2 :: t3 :: t4 :: t5 :: r ∧ numR [t4, t5] = (N : Int) ∧ N ≤ 65535 ∧ r.length < 18 * N + 9) ∨ ∃ t0 t1 t2 t3 p0 p1 p2 p3 p4 p5 p6 p7 m R1 R3, ∃ N : Nat, b = t0 :: t1 :: t2 :: t3 :: (R1 ++ (p0 :: p1 :: p2 :: p3 :: p4 :: p5 :: p6 :: p7 :: m :: R3)) ∧ numR (R1.take 2) = (N : Int) ∧ N ≤ 65535 ∧ R1.length = 2 + 18 * N := by
 by_cases h6 : b.length < 6
 ·exact .inl h6
 obtain ⟨t0, t1, t2, t3, t4, t5, r, rfl⟩ := split6 (Nat.le_of_not_lt h6)
 have h4 := hB t4 (by simp)
 have h5 := hB t5 (by simp)
 obtain ⟨N, hN⟩ : ∃ N : Nat, numR [t4, t5] = (N : Int) := ⟨(numR [t4, t5]).toNat, by rw [numR2]; omega⟩
 have hN9 : N ≤ 65535 := by rw [numR2] at hN; omega
 by_cases hr : r.length < 18 * N + 9
 ·exact .inr (.inl ⟨t0, t1, t2, t3, t4, t5, r, N, rfl, hN, hN9, hr⟩)
 obtain ⟨p0, p1, p2, p3, p4, p5, p6, p7, m, R3, hp⟩ := split9 (b := r.drop (18 * N)) (by rw [List.length_drop]; omega)
 refine .inr (.inr ⟨t0, t1, t2, t3, p0, p1, p2, p3, p4, p5, p6, p7, m, t4 :: t5 :: r.take (18 * N), R3, N, ?_, hN, hN9, by simp only [List.length_cons, List.length_take]; omega⟩)
 rw [← hp, List.cons_append, List.cons_append, List.take_append_drop]
theorem decS_any {b : List Int} (hB : isB b) : ((decS b).2 = 0 ∧ snapR (decS b).1 = true ∧ encS (decS b).1 = b ∧ (decS b).1.rows.length ≤ 256 ∧ (decS b).1.txs.length ≤ 24 ∧ ∀ y ∈ (decS b).1.rows, okK y) ∨ ((decS b).1 = zeroS ∧ ((decS b).2 = 7 ∨ (decS b).2 = 280)) := by
 rcases shapeS hB with h6 | ⟨t0, t1, t2, t3, t4, t5, r, N, rfl, hN, _, hr⟩ | ⟨t0, t1, t2, t3, p0, p1, p2, p3, p4, p5, p6, p7, m, R1, R3, N, rfl, hN, _, h1⟩
 ·rw [sh_six h6]; exact .inr ⟨rfl, .inl rfl⟩
 ·rw [sh_raw hN hr]; exact .inr ⟨rfl, .inl rfl⟩
 have hBR : isB R1 := fun z hz => hB z (by simp [hz])
 have hB3 : isB R3 := fun z hz => hB z (by simp [hz])
 have h3 := hB t3 (by simp)
 have hm := hB m (by simp)
 rw [decS_eq hN h1]
 by_cases hs : R3.length < 9 * m.toNat
 ·rw [if_pos hs]; exact .inr ⟨rfl, .inl rfl⟩
 rw [if_neg hs]
 split
 ·rename_i hk
  obtain ⟨⟨k1, k2⟩, k3, k4⟩ := hk
  have ht := decT_any hBR
  rcases ht with ⟨_, hE, _, hok⟩ | ⟨_, h | h⟩
  rotate_left
  ·rw [h] at k1; cases k1
  ·rw [h] at k1; cases k1
  have hr := snapR_all k4
  have hT : encT (decT R1).1 = R1 := by
   have h9 := hr.2.2.1
   dsimp only at h9
   unfold encTR at hE
   rw [if_pos h9] at hE
   exact congrArg Prod.fst hE
  have he := decN_err m.toNat R3
  rw [if_neg hs] at he
  have hre := decN_rest he
  rw [show R3.drop (9 * m.toNat) = [] by rw [← k3]; simp] at hre
  obtain ⟨i1, i2, i3⟩ := decN_inv (L := (decN m.toNat R3).1) (r := []) hB3 (by rw [← he, ← hre])
  rw [List.append_nil] at i1
  refine .inl ⟨rfl, k4, ?_, tab_len hr.2.2.1, hr.2.2.2.1, hok⟩
  unfold encS
  dsimp only
  rw [hT, ← i1, i2, show (bif decide (t3 = 1) then (1 : Int) else 0) = t3 by
   by_cases h : t3 = 1
   ·rw [decide_eq_true h, h]; rfl
   ·rw [decide_eq_false h]; show (0 : Int) = t3; omega, Int.toNat_of_nonneg hm.1]
 ·exact .inr ⟨rfl, .inr rfl⟩
end Go.Proofs.YtopieffkpdlpbaaGreat
namespace Go.Proofs.YtopieffkpdlpbaaGreat
open Go Go.RowKit Wx
set_option maxHeartbeats 4000000
namespace Tab
theorem slN_lh {x y : Int} {len : Nat} {cap : Option Nat} {A : Nat → Nat → Prop} (l h : Nat) (e : x = (l : Int)) (e2 : y = (h : Int)) (h1 : l ≤ h) (h2 : h ≤ len) (k : A l h) : slN (some x) (some y) len cap A := ⟨l, h, e, e2, h1, .inl h2, k⟩
theorem num_con (l : List Int) (hl : l.length ≤ 8) (hB : isB l) : Con Tryz.prog 49 [.one (.ro false 1 (l.map eB))] (fun rx rK rt => rx = .val (.int .u64 (numR l)) ∧ rK = [] ∧ rt = 0) := by
 refine Z.con_ofF tabOk 20 Tryz.f49 _ Tryz.func49 (by kernel_rfl) rfl rfl rfl rfl ?_
 repeat' ((conv => whnf); first
  | with_reducible first | refine spB_t ?_
  | fail)
 all_goals (try (conv => whnf))
 all_goals try first | (show Nat.ble _ _ = true; rfl) | (exfalso; rename_i hz; cases hz; done) | (exfalso; (try simp only [LN] at *) <;> omega)
 refine Z.loopK tabOk (fun zq : Nat => [(4, .val (.int .i64 (zq : Int))), (3, .val (.int .u64 (numR (l.take zq))))]) (fun zq : Nat => ([] : Z.Kr)) (fun zq => zq ≤ l.length) (fun zq => l.length - zq) 0 0 [(0, _)] ⟨rfl, trivial⟩ [] trivial ?_ ?_ rfl rfl (Nat.zero_le _) ?_
 ·repeat' (first | exact trivial | apply And.intro | exact ⟨_, rfl, Z.Imp.refl _⟩)
 ·repeat' (first | exact trivial)
 rintro i HINV
 dsimp only at HINV ⊢
 by_cases hi : i < l.length
 ·obtain ⟨z, hx⟩ := getElem?_some' (xs := l) (i := i) hi
  have hzb := hB z (List.mem_of_getElem? hx)
  have hn9 := num_lt (l := l) (i := i) (by omega) (by omega) hB
  have hor : IntKind.u64.wrap ((BitVec.ofInt IntKind.u64.bits (numR (l.take i) * 256) ||| BitVec.ofInt IntKind.u64.bits z).toNat : Int) = numR (l.take (i + 1)) := by
   rw [take_snoc hx, numR_snoc]; exact or_add hn9 hzb
  repeat' ((conv => whnf); first
   | (with_reducible refine spB_dec ?_ ?_ <;> intro _ <;> (try (exfalso; (first | (simp only [LN] at *; omega)))))
   | ((with_reducible refine wr_shl8 ?_ ?_); (focus (exact hn9)))
   | with_reducible first | refine Z.rowN_known hx ?_
   | ((with_reducible apply ixN_litp); (focus rfl); (focus ((try simp only [LN] at *) <;> omega)))
   | ((with_reducible refine eqN_mk2 ?_ ?_); (focus rfl))
   | with_reducible refine wr_i64 (by first | omega | (simp only [LN] at *; omega)) ?_
   | with_reducible refine wr_u64 (by omega) ?_
   | fail)
  all_goals (try (conv => whnf))
  all_goals try first | (show Nat.ble _ _ = true; rfl) | (exfalso; rename_i hz; cases hz; done) | (exfalso; (try simp only [LN] at *) <;> omega)
  all_goals first
   | ((refine Z.rndK ((i + 1)) (fun s => []) rfl rfl rfl rfl ?_ ?_ ?_ ?_); (focus (repeat' (first | exact trivial | exact congrArg (fun z => some (AV.val (Value.int .u64 z))) hor | exact rfl | apply And.intro))); (focus (repeat' (first | exact trivial))); (focus (((try dsimp only); omega))); ((try dsimp only); omega))
   | fail
 have hil : i = l.length := by omega
 subst hil
 rw [List.take_length]
 repeat' ((conv => whnf); first
  | (with_reducible refine spB_dec ?_ ?_ <;> intro _ <;> (try (exfalso; (first | (rename_i hz; simp at hz; done)))))
  | fail)
 all_goals (try (conv => whnf))
 all_goals try (show Nat.ble _ _ = true; rfl)
 all_goals first
  | ((first | (with_reducible apply Z.retF1)); (focus rfl); (repeat' (first | exact trivial | (with_reducible apply Z.frz_one) | (with_reducible apply Z.fq_int) | exact rfl | apply And.intro)); (all_goals (try exact (fun _ => none))); all_goals (rfl))
  | fail
end Tab
end Go.Proofs.YtopieffkpdlpbaaGreat
namespace Go.Proofs.YtopieffkpdlpbaaGreat
open Go Go.RowKit Wx
set_option maxHeartbeats 4000000
namespace Tab
theorem tk_drop {α : Type} (l : List α) (k : Nat) : List.take (l.length - k) (l.drop k) = l.drop k := List.take_of_length_le (by simp)
theorem loopZ_unr2 {P : Program} {T : Tab} {n m : Nat} {rd : Option Nat} {s : Z.S} {c : Code} {Q : Exit → Z.S → Prop} (hT : TabOk P T) (hs : Wx.get s.F 5 = some (.val (.int .i64 2))) (h : Z.loopU P T n m rd c Q 3 s) : Z.LoopZ P n m rd c s Q := Z.loopZ_unroll hT 3 h
theorem wr_n16 {a b : Int} {A : Int → Prop} (ha : 0 ≤ a ∧ a ≤ 255) (hb : 0 ≤ b ∧ b ≤ 255) (k : A (a * 256 + b)) : wr .u16 (IntKind.u64.wrap ((BitVec.ofInt IntKind.u64.bits (IntKind.u64.wrap (IntKind.u64.wrap ((BitVec.ofInt IntKind.u64.bits (0 * 256) ||| BitVec.ofInt IntKind.u64.bits a).toNat : Int) * 2 ^ min (Int.toNat 8) IntKind.u64.bits)) ||| BitVec.ofInt IntKind.u64.bits b).toNat : Int)) A := ⟨a * 256 + b, by
 rw [or_add (x := 0) (b := a) (by decide) ha, Int.zero_mul, Int.zero_add]
 have e : IntKind.u64.wrap (a * 2 ^ min (Int.toNat 8) IntKind.u64.bits) = a * 256 := by
  show IntKind.u64.wrap (a * 2 ^ 8) = _
  rw [u64_in _ (by omega)]; omega
 rw [e, or_add (by omega) hb]
 simp [IntKind.wrap, IntKind.bits, IntKind.signed]; omega, k⟩
end Tab
end Go.Proofs.YtopieffkpdlpbaaGreat
namespace Go.Proofs.YtopieffkpdlpbaaGreat
open Go Go.RowKit Wx
set_option maxHeartbeats 4000000
namespace Tab
def lbs : Code → List Code
 | .loop b => b :: lbs b
 | .seq a b => lbs a ++ lbs b
 | .cond _ a b => lbs a ++ lbs b
 | .block _ b => lbs b
 | .rangeFunc _ _ a b => lbs a ++ lbs b
 | .scope b => lbs b
 | _ => []
def lbody (f : Func) : Code := ((f.body.map lbs).getD []).headD .skip
def loopPost (R : Z.S → Prop) (Q : Exit → Z.S → Prop) : Exit → Z.S → Prop := fun e s' => match e with
 | .normal => R s'
 | e => Q e s'
abbrev dG := Nat × List Int × List Kc × Int
abbrev dCH (zq : dG) : Fr := [(6, .val (.int .i64 (zq.1 : Int)))]
abbrev dCK (zq : dG) : Z.Kr := [(1, some (Z.Ob.b ⟨[[.ro true 1 (zq.2.1.map eB), .v (.int .i64 zq.2.2.2)]], 2, 130, true⟩)), (2, some (Z.Ob.b ⟨[[.gsl 5 (zq.2.2.1.map cK)]], 1, 30, true⟩)), (5, (gB 4 55 (zq.2.2.1.map cK)).map Z.Ob.b)]
abbrev dFk : Fr := [(2, .c (.own 0 0 0)), (4, .c (.own 1 0 0)), (5, .c (.own 2 0 0))]
abbrev dKk : Z.Kr := [(0, some (Z.Ob.b ⟨[[.v (.slice none 0 0)]], 1, 30, true⟩))]
def preK (acc : List Kc) (x : List Kc × Int × List Int) : List Kc × Int × List Int := if x.2.1 = 0 then (acc ++ x.1, 0, x.2.2) else ([], 7, [])
theorem preK_nil (n : Nat) (b : List Int) : decK n b = preK [] (decK n b) := by
 unfold preK
 cases n with
 | zero => simp [decK]
 | succ n =>
  rw [decK]
  split
  ·simp
  ·split
   ·simp
   ·simp
theorem preK_step {acc : List Kc} {n : Nat} {b : List Int} {x : Kc} (hl : ¬ b.length < 18) (h : rowD b = x) : preK acc (decK (n + 1) b) = preK (acc ++ [x]) (decK n (b.drop 18)) := by
 unfold preK
 simp only [decK, if_neg hl, h]
 by_cases h2 : (decK n (b.drop 18)).2.1 = 0
 ·simp [h2]
 ·simp [h2]
theorem preK_bad {acc : List Kc} {n : Nat} {b : List Int} (hl : b.length < 18) : preK acc (decK (n + 1) b) = ([], 7, []) := by
 unfold preK
 simp only [decK, if_pos hl]
 rfl
abbrev dInv (b : List Int) (N : Nat) (zq : dG) : Prop := zq.1 ≤ N ∧ (isB zq.2.1 ∧ zq.2.1.length ≤ 1099511627776) ∧ zq.2.2.1.length + zq.1 = N ∧ ((zq.2.2.2 = 0 ∧ decK N b = preK zq.2.2.1 (decK zq.1 zq.2.1)) ∨ (zq.2.2.2 = 7 ∧ decK N b = ([], 7, [])))
abbrev dRnd (b : List Int) (N : Nat) (p : dG) (s' : Z.S) : Prop := Z.rndZ 0 (fun zq => (⟨dCH zq ++ dFk, dCK zq ++ dKk, 6⟩ : Z.S)) (dInv b N) (fun zq => zq.1) p s'
end Tab
end Go.Proofs.YtopieffkpdlpbaaGreat
namespace Go.Proofs.YtopieffkpdlpbaaGreat
open Go Go.RowKit Wx
set_option maxHeartbeats 40000000
namespace Tab
theorem dec_a (b : List Int) (N i : Nat) (acc : List Kc)  (hB : isB ([] : List Int)) (hL : (([] : List Int) : List Int).length ≤ 1099511627776) (HC : acc.length + (i + 1) = N) (HD : decK N b = preK acc (decK (i + 1) ([] : List Int))) (hN : N ≤ 65535)  {Q : Exit → Z.S → Prop} : Z.codeZ Tryz.prog tab 59 0 none (lbody Tryz.f47) ⟨dCH (i + 1, ([] : List Int), acc, 0) ++ dFk, dCK (i + 1, ([] : List Int), acc, 0) ++ dKk, 6⟩ (loopPost (dRnd b N (i + 1, ([] : List Int), acc, 0)) Q) := by
 dsimp only [dCH, dFk, dCK, dKk, dRnd]
 have hj1 : IntKind.i64.wrap (((i + 1 : Nat) : Int) - 1) = (i : Int) := by
  rw [show (((i + 1 : Nat) : Int) - 1) = (i : Int) by omega]
  simp [IntKind.wrap, IntKind.bits, IntKind.signed]; omega
 repeat' ((conv => whnf); first
  | with_reducible first | refine spB_t ?_
  | ((with_reducible apply spB_cong); (focus (simp only [splQ, Int.reduceBEq, Int.reduceBNe]; rfl)))
  | with_reducible first | refine spB_yes (by decide) ?_ | refine spB_no (by decide) ?_
  | (with_reducible refine spB_dec ?_ ?_ <;> intro _ <;> (try (exfalso; (first | omega))))
  | ((with_reducible refine wr_mk (i : Int) hj1 ?_))
  | ((with_reducible refine posE_pos ?_ ?_); (focus ((try simp only [LN] at *) <;> omega)))
  | ((with_reducible refine apdN.mk ?_ ?_ ?_ ?_ ?_ ?_); (focus (first | rfl)); (focus (first | exact one_all (by rfl))); (focus ((try simp only [LN] at *) <;> omega)); (focus ((try simp only [LN] at *) <;> omega)); (focus ((try simp only [LN] at *) <;> omega)))
  | with_reducible refine wr_i64 (by first | omega | (simp only [LN] at *; omega)) ?_
  | with_reducible refine wr_u8 (by omega) ?_
  | with_reducible first | refine Z.callZ_in tabOk 6 Tryz.f43 _ Tryz.func43 (by kernel_rfl) rfl rfl rfl ?_ | refine Z.callZ_in tabOk 10 Tryz.f46 _ Tryz.func46 (by kernel_rfl) rfl rfl rfl ?_ | refine Z.callZ_in tabOk 5 Tryz.f83 _ Tryz.func83 (by kernel_rfl) rfl rfl rfl ?_ | refine Z.callZ_in tabOk 10 Tryz.f80 _ Tryz.func80 (by kernel_rfl) rfl rfl rfl ?_ | refine Z.callZ_in tabOk 58 Tryz.f103 _ Tryz.func103 (by kernel_rfl) rfl rfl rfl ?_
  | ((with_reducible refine eqN_mk2 ?_ ?_); (focus (exact Z.kb_some rfl)))
  | ((with_reducible apply ex_and); exact rfl)
  | fail)
 all_goals (try (conv => whnf))
 all_goals try first | (show Nat.ble _ _ = true; rfl) | (exfalso; rename_i hz; cases hz; done) | (exfalso; (try simp only [LN] at *) <;> omega)
 all_goals first
  | ((refine Z.rndK ((i, ([] : List Int), acc ++ [(⟨0, 0, 0, 0⟩ : Kc)], 7)) (fun s => [0, 1, 2, 3, 4, s.idIn 2 0]) rfl rfl rfl rfl ?_ ?_ ?_ ?_); (focus (repeat' (first | exact trivial | exact rfl | apply And.intro))); (focus (repeat' (first | exact trivial | (intro b hb; cases hb; rfl) | (intro b hb; cases hb; rw [List.map_append]; rfl) | exact Z.gB_sub' rfl (by first | rfl | (rw [List.map_append]; rfl) | simp only [List.map_append, List.map_cons, List.map_nil]) (ren_map fun _ => rfl) | apply And.intro))); (focus (exact ⟨by (try dsimp only); omega, ⟨by (try dsimp only); first | (intro x hx; cases hx; done) | exact hBr | exact isB_drop hBr, by (try dsimp only); (try simp only [List.length_cons, List.length_drop, List.length_nil] at *); omega⟩, by (try dsimp only); simp only [List.length_append, List.length_cons, List.length_nil]; omega, .inr ⟨rfl, by (try dsimp only); rw [HD]; exact preK_bad (by simp only [List.length_cons, List.length_nil]; omega)⟩⟩)); ((try dsimp only); omega))
  | fail
end Tab
end Go.Proofs.YtopieffkpdlpbaaGreat
namespace Go.Proofs.YtopieffkpdlpbaaGreat
open Go Go.RowKit Wx
set_option maxHeartbeats 40000000
namespace Tab
theorem dec_b (b : List Int) (N i : Nat) (acc : List Kc) (t : Int) (hB : isB [t]) (hL : ([t] : List Int).length ≤ 1099511627776) (HC : acc.length + (i + 1) = N) (HD : decK N b = preK acc (decK (i + 1) [t])) (hN : N ≤ 65535)  {Q : Exit → Z.S → Prop} : Z.codeZ Tryz.prog tab 59 0 none (lbody Tryz.f47) ⟨dCH (i + 1, [t], acc, 0) ++ dFk, dCK (i + 1, [t], acc, 0) ++ dKk, 6⟩ (loopPost (dRnd b N (i + 1, [t], acc, 0)) Q) := by
 dsimp only [dCH, dFk, dCK, dKk, dRnd]
 have hj1 : IntKind.i64.wrap (((i + 1 : Nat) : Int) - 1) = (i : Int) := by
  rw [show (((i + 1 : Nat) : Int) - 1) = (i : Int) by omega]
  simp [IntKind.wrap, IntKind.bits, IntKind.signed]; omega
 have hb_t := hB t (by simp)
 repeat' ((conv => whnf); first
  | with_reducible first | refine spB_t ?_
  | ((with_reducible apply spB_cong); (focus (simp only [splQ, Int.reduceBEq, Int.reduceBNe]; rfl)))
  | with_reducible first | refine spB_no (by decide) ?_
  | (with_reducible refine spB_dec ?_ ?_ <;> intro _ <;> (try (exfalso; (first | omega | (rename_i hz; simp at hz; done)))))
  | ((refine sl3N_mk 0 1 1 rfl rfl rfl ?_ ?_ ?_ ?_ ?_); (iterate 4 (focus (first | exact .inl rfl | ((try simp only [LN] at *) <;> omega)))))
  | ((with_reducible refine Z.slN_lo 1 ?_ ?_ ?_); (focus rfl); (focus ((try simp only [LN] at *) <;> omega)))
  | (refine loopZ_unr1 tabOk rfl ?_)
  | ((with_reducible refine wr_shl8 ?_ ?_); (focus omega))
  | ((with_reducible refine wr_or0 ?_ ?_); (focus omega))
  | with_reducible first | refine rowN_mk _ rfl ?_
  | ((with_reducible refine wr_mk (i : Int) hj1 ?_))
  | ((with_reducible refine posE_pos ?_ ?_); (focus ((try simp only [LN] at *) <;> omega)))
  | ((with_reducible apply ixN_lit); (focus rfl); (focus rfl))
  | ((with_reducible refine eqN_mk2 ?_ ?_); (focus rfl))
  | ((with_reducible refine apdN.mk ?_ ?_ ?_ ?_ ?_ ?_); (focus (first | rfl)); (focus (first | exact one_all (by rfl))); (focus ((try simp only [LN] at *) <;> omega)); (focus ((try simp only [LN] at *) <;> omega)); (focus ((try simp only [LN] at *) <;> omega)))
  | with_reducible refine wr_i64 (by first | omega | (simp only [LN] at *; omega)) ?_
  | with_reducible refine wr_u64 (by omega) ?_
  | with_reducible refine wr_u8 (by omega) ?_
  | with_reducible first | refine Z.callZ_in tabOk 18 Tryz.f104 _ Tryz.func104 (by kernel_rfl) rfl rfl rfl ?_ | refine Z.callZ_in tabOk 6 Tryz.f43 _ Tryz.func43 (by kernel_rfl) rfl rfl rfl ?_ | refine Z.callZ_in tabOk 10 Tryz.f46 _ Tryz.func46 (by kernel_rfl) rfl rfl rfl ?_ | refine Z.callZ_in tabOk 5 Tryz.f83 _ Tryz.func83 (by kernel_rfl) rfl rfl rfl ?_ | refine Z.callZ_in tabOk 10 Tryz.f80 _ Tryz.func80 (by kernel_rfl) rfl rfl rfl ?_ | refine Z.callZ_in tabOk 58 Tryz.f103 _ Tryz.func103 (by kernel_rfl) rfl rfl rfl ?_
  | ((with_reducible refine eqN_mk2 ?_ ?_); (focus (exact Z.kb_some rfl)))
  | ((with_reducible apply ex_and); exact rfl)
  | with_reducible first | refine Z.drawZ_rule tabOk mixOk ?_ | refine Z.apZ_mk (by kernel_rfl) ?_
  | fail)
 all_goals (try (conv => whnf))
 all_goals try first | (show Nat.ble _ _ = true; rfl) | (exfalso; rename_i hz; cases hz; done) | (exfalso; (try simp only [LN] at *) <;> omega)
 all_goals first
  | ((refine Z.rndK ((i, ([] : List Int), acc ++ [(⟨t, 0, 0, 0⟩ : Kc)], 7)) (fun s => [0, 1, 2, 3, 4, s.idIn 2 0]) rfl rfl rfl rfl ?_ ?_ ?_ ?_); (focus (repeat' (first | exact trivial | exact rfl | apply And.intro))); (focus (repeat' (first | exact trivial | (intro b hb; cases hb; rfl) | (intro b hb; cases hb; rw [List.map_append]; rfl) | exact Z.gB_sub' rfl (by first | rfl | (rw [List.map_append]; rfl) | simp only [List.map_append, List.map_cons, List.map_nil]) (ren_map fun _ => rfl) | apply And.intro))); (focus (exact ⟨by (try dsimp only); omega, ⟨by (try dsimp only); first | (intro x hx; cases hx; done) | exact hBr | exact isB_drop hBr, by (try dsimp only); (try simp only [List.length_cons, List.length_drop, List.length_nil] at *); omega⟩, by (try dsimp only); simp only [List.length_append, List.length_cons, List.length_nil]; omega, .inr ⟨rfl, by (try dsimp only); rw [HD]; exact preK_bad (by simp only [List.length_cons, List.length_nil]; omega)⟩⟩)); ((try dsimp only); omega))
  | fail
end Tab
end Go.Proofs.YtopieffkpdlpbaaGreat
namespace Go.Proofs.YtopieffkpdlpbaaGreat
open Go Go.RowKit Wx
set_option maxHeartbeats 40000000
namespace Tab
theorem dec_c (b : List Int) (N i : Nat) (acc : List Kc) (t w : Int) (r : List Int) (hB : isB (t :: w :: r)) (hL : ((t :: w :: r) : List Int).length ≤ 1099511627776) (HC : acc.length + (i + 1) = N) (HD : decK N b = preK acc (decK (i + 1) (t :: w :: r))) (hN : N ≤ 65535) (h4 : r.length < 8) {Q : Exit → Z.S → Prop} : Z.codeZ Tryz.prog tab 59 0 none (lbody Tryz.f47) ⟨dCH (i + 1, (t :: w :: r), acc, 0) ++ dFk, dCK (i + 1, (t :: w :: r), acc, 0) ++ dKk, 6⟩ (loopPost (dRnd b N (i + 1, (t :: w :: r), acc, 0)) Q) := by
 dsimp only [dCH, dFk, dCK, dKk, dRnd]
 have hj1 : IntKind.i64.wrap (((i + 1 : Nat) : Int) - 1) = (i : Int) := by
  rw [show (((i + 1 : Nat) : Int) - 1) = (i : Int) by omega]
  simp [IntKind.wrap, IntKind.bits, IntKind.signed]; omega
 have hb_t := hB t (by simp)
 have hb_w := hB w (by simp)
 have hBr : isB r := fun x hx => hB x (by simp [hx])
 repeat' ((conv => whnf); first
  | with_reducible first | refine spB_t ?_
  | ((with_reducible apply spB_cong); (focus (simp only [splQ, Int.reduceBEq, Int.reduceBNe]; rfl)))
  | with_reducible first | refine spB_no (by decide) ?_
  | (with_reducible refine spB_dec ?_ ?_ <;> intro _ <;> (try (exfalso; (first | omega | (simp only [LN] at *; omega)))))
  | ((refine sl3N_mk 0 1 1 rfl rfl rfl ?_ ?_ ?_ ?_ ?_); (iterate 4 (focus (first | exact .inl rfl | ((try simp only [LN] at *) <;> omega)))))
  | ((with_reducible refine Z.slN_lo 1 ?_ ?_ ?_); (focus rfl); (focus ((try simp only [LN] at *) <;> omega)))
  | (refine loopZ_unr1 tabOk rfl ?_)
  | ((with_reducible refine wr_shl8 ?_ ?_); (focus omega))
  | ((with_reducible refine wr_or0 ?_ ?_); (focus omega))
  | with_reducible first | refine rowN_mk _ rfl ?_
  | ((with_reducible refine wr_mk (i : Int) hj1 ?_))
  | ((with_reducible refine posE_pos ?_ ?_); (focus ((try simp only [LN] at *) <;> omega)))
  | ((with_reducible apply ixN_lit); (focus rfl); (focus rfl))
  | ((with_reducible refine eqN_mk2 ?_ ?_); (focus rfl))
  | ((with_reducible refine apdN.mk ?_ ?_ ?_ ?_ ?_ ?_); (focus (first | rfl)); (focus (first | exact one_all (by rfl))); (focus ((try simp only [LN] at *) <;> omega)); (focus ((try simp only [LN] at *) <;> omega)); (focus ((try simp only [LN] at *) <;> omega)))
  | with_reducible refine wr_i64 (by first | omega | (simp only [LN] at *; omega)) ?_
  | with_reducible refine wr_u64 (by omega) ?_
  | with_reducible first | refine Z.callZ_in tabOk 18 Tryz.f104 _ Tryz.func104 (by kernel_rfl) rfl rfl rfl ?_ | refine Z.callZ_in tabOk 6 Tryz.f43 _ Tryz.func43 (by kernel_rfl) rfl rfl rfl ?_ | refine Z.callZ_in tabOk 10 Tryz.f46 _ Tryz.func46 (by kernel_rfl) rfl rfl rfl ?_ | refine Z.callZ_in tabOk 5 Tryz.f83 _ Tryz.func83 (by kernel_rfl) rfl rfl rfl ?_ | refine Z.callZ_in tabOk 10 Tryz.f80 _ Tryz.func80 (by kernel_rfl) rfl rfl rfl ?_ | refine Z.callZ_in tabOk 58 Tryz.f103 _ Tryz.func103 (by kernel_rfl) rfl rfl rfl ?_
  | ((with_reducible refine eqN_mk2 ?_ ?_); (focus (exact Z.kb_some rfl)))
  | ((with_reducible apply ex_and); exact rfl)
  | with_reducible first | refine Z.drawZ_rule tabOk mixOk ?_ | refine Z.apZ_mk (by kernel_rfl) ?_
  | fail)
 all_goals (try (conv => whnf))
 all_goals try first | (show Nat.ble _ _ = true; rfl) | (exfalso; rename_i hz; cases hz; done) | (exfalso; (try simp only [LN] at *) <;> omega)
 all_goals first
  | ((refine Z.rnd_bi 1 [[.ro true 1 (r.map eB), _]] rfl rfl ⟨⟨Z.Imp.of_eq (congrArg (Ce.ro true 1) (by first | ((try simp only [tk_drop]); simp only [← List.map_drop, List.drop_drop, List.map_cons, List.drop_succ_cons, List.drop_zero]; done) | (simp; done) | (simp [tk_map]; done))), Z.Imp.refl _, trivial⟩, trivial⟩ ?_); ((refine Z.rndK ((i, r, acc ++ [(⟨t, w, 0, 0⟩ : Kc)], 7)) (fun s => [0, 1, 2, 3, 4, s.idIn 2 0]) rfl rfl rfl rfl ?_ ?_ ?_ ?_); (focus (repeat' (first | exact trivial | exact rfl | apply And.intro))); (focus (repeat' (first | exact trivial | (intro b hb; cases hb; rfl) | (intro b hb; cases hb; rw [List.map_append]; rfl) | exact Z.gB_sub' rfl (by first | rfl | (rw [List.map_append]; rfl) | simp only [List.map_append, List.map_cons, List.map_nil]) (ren_map fun _ => rfl) | apply And.intro))); (focus (exact ⟨by (try dsimp only); omega, ⟨by (try dsimp only); first | (intro x hx; cases hx; done) | exact hBr | exact isB_drop hBr, by (try dsimp only); (try simp only [List.length_cons, List.length_drop, List.length_nil] at *); omega⟩, by (try dsimp only); simp only [List.length_append, List.length_cons, List.length_nil]; omega, .inr ⟨rfl, by (try dsimp only); rw [HD]; exact preK_bad (by simp only [List.length_cons, List.length_nil]; omega)⟩⟩)); ((try dsimp only); omega)))
  | fail
end Tab
end Go.Proofs.YtopieffkpdlpbaaGreat
namespace Go.Proofs.YtopieffkpdlpbaaGreat
open Go Go.RowKit Wx
set_option maxHeartbeats 40000000
namespace Tab
theorem dec_d (b : List Int) (N i : Nat) (acc : List Kc) (t w : Int) (r : List Int) (hB : isB (t :: w :: r)) (hL : ((t :: w :: r) : List Int).length ≤ 1099511627776) (HC : acc.length + (i + 1) = N) (HD : decK N b = preK acc (decK (i + 1) (t :: w :: r))) (hN : N ≤ 65535) (h4 : 8 ≤ r.length) (h5 : r.length < 16) {Q : Exit → Z.S → Prop} : Z.codeZ Tryz.prog tab 59 0 none (lbody Tryz.f47) ⟨dCH (i + 1, (t :: w :: r), acc, 0) ++ dFk, dCK (i + 1, (t :: w :: r), acc, 0) ++ dKk, 6⟩ (loopPost (dRnd b N (i + 1, (t :: w :: r), acc, 0)) Q) := by
 dsimp only [dCH, dFk, dCK, dKk, dRnd]
 have hj1 : IntKind.i64.wrap (((i + 1 : Nat) : Int) - 1) = (i : Int) := by
  rw [show (((i + 1 : Nat) : Int) - 1) = (i : Int) by omega]
  simp [IntKind.wrap, IntKind.bits, IntKind.signed]; omega
 have hb_t := hB t (by simp)
 have hb_w := hB w (by simp)
 have hBr : isB r := fun x hx => hB x (by simp [hx])
 repeat' ((conv => whnf); first
  | with_reducible first | refine spB_t ?_
  | ((with_reducible apply spB_cong); (focus (simp only [splQ, Int.reduceBEq, Int.reduceBNe]; rfl)))
  | with_reducible first | refine spB_no (by decide) ?_
  | (with_reducible refine spB_dec ?_ ?_ <;> intro _ <;> (try (exfalso; (first | omega | (simp only [LN] at *; omega)))))
  | ((refine sl3N_mk 0 1 1 rfl rfl rfl ?_ ?_ ?_ ?_ ?_); (iterate 4 (focus (first | exact .inl rfl | ((try simp only [LN] at *) <;> omega)))))
  | ((refine sl3N_mk 0 8 8 rfl rfl rfl ?_ ?_ ?_ ?_ ?_); (iterate 4 (focus (first | exact .inl rfl | ((try simp only [LN] at *) <;> omega)))))
  | ((with_reducible refine Z.slN_lo 1 ?_ ?_ ?_); (focus rfl); (focus ((try simp only [LN] at *) <;> omega)))
  | (refine loopZ_unr1 tabOk rfl ?_)
  | ((with_reducible refine wr_shl8 ?_ ?_); (focus omega))
  | ((with_reducible refine wr_or0 ?_ ?_); (focus omega))
  | with_reducible first | refine rowN_mk _ rfl ?_
  | ((with_reducible apply ixN_lit); (focus rfl); (focus rfl))
  | ((with_reducible refine eqN_mk2 ?_ ?_); (focus rfl))
  | with_reducible refine wr_i64 (by first | omega | (simp only [LN] at *; omega)) ?_
  | with_reducible refine wr_u64 (by omega) ?_
  | with_reducible first | refine Z.callZ_in tabOk 18 Tryz.f104 _ Tryz.func104 (by kernel_rfl) rfl rfl rfl ?_ | refine Z.callZ_in tabOk 6 Tryz.f43 _ Tryz.func43 (by kernel_rfl) rfl rfl rfl ?_ | refine Z.callZ_in tabOk 10 Tryz.f46 _ Tryz.func46 (by kernel_rfl) rfl rfl rfl ?_ | refine Z.callZ_in tabOk 5 Tryz.f83 _ Tryz.func83 (by kernel_rfl) rfl rfl rfl ?_ | refine Z.callZ_in tabOk 10 Tryz.f80 _ Tryz.func80 (by kernel_rfl) rfl rfl rfl ?_ | refine Z.callZ_in tabOk 58 Tryz.f103 _ Tryz.func103 (by kernel_rfl) rfl rfl rfl ?_
  | ((with_reducible apply ex_and); exact rfl)
  | with_reducible first | refine Z.drawZ_rule tabOk mixOk ?_ | refine Z.apZ_mk (by kernel_rfl) ?_
  | fail)
 all_goals (try (conv => whnf))
 all_goals try first | (show Nat.ble _ _ = true; rfl) | (exfalso; rename_i hz; cases hz; done) | (exfalso; (try simp only [LN] at *) <;> omega)
 all_goals (
  apply loopQ3
  ·intro Q0 hq9
   refine Z.loopK tabOk (fun zq : Nat => [(6, .val (.int .i64 (zq : Int)))]) (fun zq : Nat => ([(12, some (Z.Ob.b ⟨[[.v (.int .u64 (numR (r.take zq)))]], 1, 81, true⟩)), (0, some (Z.Ob.b ⟨[[.v (.slice none 0 0)]], 1, 30, true⟩)), (1, some (Z.Ob.b ⟨[[.ro true 1 (r.map eB), .v (.int .i64 0)]], 2, 130, true⟩)), (2, some (Z.Ob.b ⟨[[.gsl 5 (acc.map cK)]], 1, 30, true⟩)), (5, (gB 4 55 (acc.map cK)).map Z.Ob.b), (10, some (Z.Ob.b ⟨[[.v (.int .i64 t), .v (.int .i64 w), .v (.int .i64 0), .v (.int .i64 0)]], 4, 55, true⟩))] : Z.Kr)) (fun zq => zq ≤ 8) (fun zq => 8 - zq) 0 13 [(0, _), (2, _), (5, _)] ⟨rfl, rfl, rfl, trivial⟩ [] trivial ?_ ?_ rfl rfl (Nat.zero_le _) ?_
   ·repeat' (first | exact trivial | apply And.intro | exact ⟨_, rfl, Z.Imp.refl _⟩)
   ·repeat' (first | exact trivial | exact (fun b hb => ⟨b, hb, Z.ImpO.refl b⟩) | (intro b hb; cases hb; refine ⟨_, rfl, ⟨rfl, rfl, rfl⟩, ⟨⟨Z.Imp.of_eq (congrArg (Ce.ro true 1) (by first | ((try simp only [tk_drop]); simp only [← List.map_drop, List.drop_drop, List.map_cons, List.drop_succ_cons, List.drop_zero]; done) | (simp [tk_map]; done) | (simp [tk_map, List.take_of_length_le]; done))), Z.Imp.refl _, trivial⟩, trivial⟩⟩; done) | apply And.intro)
   rintro j HINV
   (try dsimp only at HINV); (try dsimp only)
   by_cases hj : j < 8
   ·obtain ⟨z9, hzr⟩ := getElem?_some' (xs := r) (i := j) (by (try rw [List.length_drop]); omega)
    have hzd : (r.take 8)[j]? = some z9 := by rw [List.getElem?_take, if_pos hj]; exact hzr
    have hzb := hBr z9 (List.mem_of_getElem? hzr)
    have hnl := num_lt (l := r) (i := j) (by omega) (by (try rw [List.length_drop]); omega) hBr
    generalize hnv : numR (r.take j) = nv at *
    repeat' ((conv => whnf); first
     | (with_reducible refine spB_dec ?_ ?_ <;> intro _ <;> (try (exfalso; (first | omega))))
     | ((with_reducible refine wr_shl8 ?_ ?_); (focus omega))
     | ((with_reducible refine rowN_mk (eB z9) ?_ ?_); (focus (exact rest_at (by first | ((try simp only [tk_drop]); simp only [Nat.sub_zero, List.drop_zero, ← List.map_drop, ← List.map_take, List.map_cons, List.drop_succ_cons]; done) | (simp [tk_map]; done)) hzd)))
     | ((with_reducible refine ixN_mk (j) ?_ ?_ ?_); (focus (first | rfl)); (focus ((try simp only [LN] at *) <;> omega)))
     | ((with_reducible refine eqN_mk2 ?_ ?_); (focus rfl))
     | with_reducible refine wr_i64 (by first | omega | (simp only [LN] at *; omega)) ?_
     | with_reducible refine wr_u64 (by omega) ?_
     | with_reducible first | refine Z.drawZ_rule tabOk mixOk ?_ | refine Z.apZ_mk (by kernel_rfl) ?_
     | fail)
    all_goals (try (conv => whnf))
    all_goals try first | (show Nat.ble _ _ = true; rfl) | (exfalso; rename_i hz; cases hz; done) | (exfalso; (try simp only [LN] at *) <;> omega)
    all_goals first
     | ((refine Z.rnd_rw 12 ([[.v (.int .u64 (numR (r.take (j + 1))))]]) rfl rfl ?_ ?_); (focus (rw [take_snoc hzr, numR_snoc, hnv]; exact congrArg (fun z => [[Ce.v (.int .u64 z)]]) (or_add hnl hzb))); ((refine Z.rndK ((j + 1)) (fun s => [0, 1, 2, 3, 4, 5, 6, 7, 8, 9, 10, 11, 12]) rfl rfl rfl rfl ?_ ?_ ?_ ?_); (focus (repeat' (first | exact trivial | exact rfl | apply And.intro))); (focus (repeat' (first | exact trivial | (intro b hb; cases hb; rfl) | exact Z.gB_sub rfl rfl (ren_map fun _ => rfl) | apply And.intro))); (focus (((try dsimp only); omega))); ((try dsimp only); omega)))
     | fail
   have hj8 : j = 8 := by omega
   repeat' ((conv => whnf); first
    | (with_reducible refine spB_dec ?_ ?_ <;> intro _ <;> (try (exfalso; (first | omega))))
    | fail)
   all_goals (try (conv => whnf))
   subst hj8
   exact hq9
  generalize hnv8 : numR (r.take 8) = v8 at *)
 repeat' ((conv => whnf); first
  | ((with_reducible apply spB_cong); (focus (simp only [splQ, Int.reduceBEq, Int.reduceBNe]; rfl)))
  | with_reducible first | refine spB_no (by decide) ?_
  | (with_reducible refine spB_dec ?_ ?_ <;> intro _ <;> (try (exfalso; (first | (simp only [LN] at *; omega)))))
  | ((with_reducible refine Z.slN_lo 8 ?_ ?_ ?_); (focus rfl); (focus ((try simp only [LN] at *) <;> omega)))
  | ((with_reducible refine wr_mk (i : Int) hj1 ?_))
  | (refine wr_mk (IntKind.i64.wrap v8) rfl ?_)
  | ((with_reducible refine posE_pos ?_ ?_); (focus ((try simp only [LN] at *) <;> omega)))
  | ((with_reducible refine apdN.mk ?_ ?_ ?_ ?_ ?_ ?_); (focus (first | rfl)); (focus (first | exact one_all (by rfl))); (focus ((try simp only [LN] at *) <;> omega)); (focus ((try simp only [LN] at *) <;> omega)); (focus ((try simp only [LN] at *) <;> omega)))
  | with_reducible refine wr_i64 (by first | omega | (simp only [LN] at *; omega)) ?_
  | with_reducible first | refine Z.callZ_in tabOk 5 Tryz.f83 _ Tryz.func83 (by kernel_rfl) rfl rfl rfl ?_ | refine Z.callZ_in tabOk 10 Tryz.f80 _ Tryz.func80 (by kernel_rfl) rfl rfl rfl ?_ | refine Z.callZ_in tabOk 58 Tryz.f103 _ Tryz.func103 (by kernel_rfl) rfl rfl rfl ?_
  | ((with_reducible refine eqN_mk2 ?_ ?_); (focus (exact Z.kb_some rfl)))
  | ((with_reducible apply ex_and); exact rfl)
  | fail)
 all_goals (try (conv => whnf))
 all_goals try first | (show Nat.ble _ _ = true; rfl) | (exfalso; rename_i hz; cases hz; done) | (exfalso; (try simp only [LN] at *) <;> omega)
 all_goals first
  | ((refine Z.rnd_bi 1 [[.ro true 1 ((r.drop 8).map eB), _]] rfl rfl ⟨⟨Z.Imp.of_eq (congrArg (Ce.ro true 1) (by first | ((try simp only [tk_drop]); simp only [← List.map_drop, List.drop_drop, List.map_cons, List.drop_succ_cons, List.drop_zero]; done) | (simp; done) | (simp [tk_map]; done))), Z.Imp.refl _, trivial⟩, trivial⟩ ?_); ((refine Z.rndK ((i, (r.drop 8), acc ++ [(⟨t, w, IntKind.i64.wrap v8, 0⟩ : Kc)], 7)) (fun s => [0, 1, 2, 3, 4, s.idIn 2 0]) rfl rfl rfl rfl ?_ ?_ ?_ ?_); (focus (repeat' (first | exact trivial | exact rfl | apply And.intro))); (focus (repeat' (first | exact trivial | (intro b hb; cases hb; rfl) | (intro b hb; cases hb; rw [List.map_append]; rfl) | exact Z.gB_sub' rfl (by first | rfl | (rw [List.map_append]; rfl) | simp only [List.map_append, List.map_cons, List.map_nil]) (ren_map fun _ => rfl) | apply And.intro))); (focus (exact ⟨by (try dsimp only); omega, ⟨by (try dsimp only); first | (intro x hx; cases hx; done) | exact hBr | exact isB_drop hBr, by (try dsimp only); (try simp only [List.length_cons, List.length_drop, List.length_nil] at *); omega⟩, by (try dsimp only); simp only [List.length_append, List.length_cons, List.length_nil]; omega, .inr ⟨rfl, by (try dsimp only); rw [HD]; exact preK_bad (by simp only [List.length_cons, List.length_nil]; omega)⟩⟩)); ((try dsimp only); omega)))
  | fail
end Tab
end Go.Proofs.YtopieffkpdlpbaaGreat
namespace Go.Proofs.YtopieffkpdlpbaaGreat
open Go Go.RowKit Wx
set_option maxHeartbeats 40000000
namespace Tab
theorem dec_e (b : List Int) (N i : Nat) (acc : List Kc) (t w : Int) (r : List Int) (hB : isB (t :: w :: r)) (hL : ((t :: w :: r) : List Int).length ≤ 1099511627776) (HC : acc.length + (i + 1) = N) (HD : decK N b = preK acc (decK (i + 1) (t :: w :: r))) (hN : N ≤ 65535) (h4 : 16 ≤ r.length) {Q : Exit → Z.S → Prop} : Z.codeZ Tryz.prog tab 59 0 none (lbody Tryz.f47) ⟨dCH (i + 1, (t :: w :: r), acc, 0) ++ dFk, dCK (i + 1, (t :: w :: r), acc, 0) ++ dKk, 6⟩ (loopPost (dRnd b N (i + 1, (t :: w :: r), acc, 0)) Q) := by
 dsimp only [dCH, dFk, dCK, dKk, dRnd]
 have hj1 : IntKind.i64.wrap (((i + 1 : Nat) : Int) - 1) = (i : Int) := by
  rw [show (((i + 1 : Nat) : Int) - 1) = (i : Int) by omega]
  simp [IntKind.wrap, IntKind.bits, IntKind.signed]; omega
 have hb_t := hB t (by simp)
 have hb_w := hB w (by simp)
 have hBr : isB r := fun x hx => hB x (by simp [hx])
 repeat' ((conv => whnf); first
  | with_reducible first | refine spB_t ?_
  | ((with_reducible apply spB_cong); (focus (simp only [splQ, Int.reduceBEq, Int.reduceBNe]; rfl)))
  | with_reducible first | refine spB_no (by decide) ?_
  | (with_reducible refine spB_dec ?_ ?_ <;> intro _ <;> (try (exfalso; (first | omega | (simp only [LN] at *; omega)))))
  | ((refine sl3N_mk 0 1 1 rfl rfl rfl ?_ ?_ ?_ ?_ ?_); (iterate 4 (focus (first | exact .inl rfl | ((try simp only [LN] at *) <;> omega)))))
  | ((refine sl3N_mk 0 8 8 rfl rfl rfl ?_ ?_ ?_ ?_ ?_); (iterate 4 (focus (first | exact .inl rfl | ((try simp only [LN] at *) <;> omega)))))
  | ((with_reducible refine Z.slN_lo 1 ?_ ?_ ?_); (focus rfl); (focus ((try simp only [LN] at *) <;> omega)))
  | (refine loopZ_unr1 tabOk rfl ?_)
  | ((with_reducible refine wr_shl8 ?_ ?_); (focus omega))
  | ((with_reducible refine wr_or0 ?_ ?_); (focus omega))
  | with_reducible first | refine rowN_mk _ rfl ?_
  | ((with_reducible apply ixN_lit); (focus rfl); (focus rfl))
  | ((with_reducible refine eqN_mk2 ?_ ?_); (focus rfl))
  | with_reducible refine wr_i64 (by first | omega | (simp only [LN] at *; omega)) ?_
  | with_reducible refine wr_u64 (by omega) ?_
  | with_reducible first | refine Z.callZ_in tabOk 18 Tryz.f104 _ Tryz.func104 (by kernel_rfl) rfl rfl rfl ?_ | refine Z.callZ_in tabOk 6 Tryz.f43 _ Tryz.func43 (by kernel_rfl) rfl rfl rfl ?_ | refine Z.callZ_in tabOk 10 Tryz.f46 _ Tryz.func46 (by kernel_rfl) rfl rfl rfl ?_ | refine Z.callZ_in tabOk 5 Tryz.f83 _ Tryz.func83 (by kernel_rfl) rfl rfl rfl ?_ | refine Z.callZ_in tabOk 10 Tryz.f80 _ Tryz.func80 (by kernel_rfl) rfl rfl rfl ?_ | refine Z.callZ_in tabOk 58 Tryz.f103 _ Tryz.func103 (by kernel_rfl) rfl rfl rfl ?_
  | ((with_reducible apply ex_and); exact rfl)
  | with_reducible first | refine Z.drawZ_rule tabOk mixOk ?_ | refine Z.apZ_mk (by kernel_rfl) ?_
  | fail)
 all_goals (try (conv => whnf))
 all_goals try first | (show Nat.ble _ _ = true; rfl) | (exfalso; rename_i hz; cases hz; done) | (exfalso; (try simp only [LN] at *) <;> omega)
 all_goals (
  apply loopQ3
  ·intro Q0 hq9
   refine Z.loopK tabOk (fun zq : Nat => [(6, .val (.int .i64 (zq : Int)))]) (fun zq : Nat => ([(12, some (Z.Ob.b ⟨[[.v (.int .u64 (numR (r.take zq)))]], 1, 81, true⟩)), (0, some (Z.Ob.b ⟨[[.v (.slice none 0 0)]], 1, 30, true⟩)), (1, some (Z.Ob.b ⟨[[.ro true 1 (r.map eB), .v (.int .i64 0)]], 2, 130, true⟩)), (2, some (Z.Ob.b ⟨[[.gsl 5 (acc.map cK)]], 1, 30, true⟩)), (5, (gB 4 55 (acc.map cK)).map Z.Ob.b), (10, some (Z.Ob.b ⟨[[.v (.int .i64 t), .v (.int .i64 w), .v (.int .i64 0), .v (.int .i64 0)]], 4, 55, true⟩))] : Z.Kr)) (fun zq => zq ≤ 8) (fun zq => 8 - zq) 0 13 [(0, _), (2, _), (5, _)] ⟨rfl, rfl, rfl, trivial⟩ [] trivial ?_ ?_ rfl rfl (Nat.zero_le _) ?_
   ·repeat' (first | exact trivial | apply And.intro | exact ⟨_, rfl, Z.Imp.refl _⟩)
   ·repeat' (first | exact trivial | exact (fun b hb => ⟨b, hb, Z.ImpO.refl b⟩) | (intro b hb; cases hb; refine ⟨_, rfl, ⟨rfl, rfl, rfl⟩, ⟨⟨Z.Imp.of_eq (congrArg (Ce.ro true 1) (by first | ((try simp only [tk_drop]); simp only [← List.map_drop, List.drop_drop, List.map_cons, List.drop_succ_cons, List.drop_zero]; done) | (simp [tk_map]; done) | (simp [tk_map, List.take_of_length_le]; done))), Z.Imp.refl _, trivial⟩, trivial⟩⟩; done) | apply And.intro)
   rintro j HINV
   (try dsimp only at HINV); (try dsimp only)
   by_cases hj : j < 8
   ·obtain ⟨z9, hzr⟩ := getElem?_some' (xs := r) (i := j) (by (try rw [List.length_drop]); omega)
    have hzd : (r.take 8)[j]? = some z9 := by rw [List.getElem?_take, if_pos hj]; exact hzr
    have hzb := hBr z9 (List.mem_of_getElem? hzr)
    have hnl := num_lt (l := r) (i := j) (by omega) (by (try rw [List.length_drop]); omega) hBr
    generalize hnv : numR (r.take j) = nv at *
    repeat' ((conv => whnf); first
     | (with_reducible refine spB_dec ?_ ?_ <;> intro _ <;> (try (exfalso; (first | omega))))
     | ((with_reducible refine wr_shl8 ?_ ?_); (focus omega))
     | ((with_reducible refine rowN_mk (eB z9) ?_ ?_); (focus (exact rest_at (by first | ((try simp only [tk_drop]); simp only [Nat.sub_zero, List.drop_zero, ← List.map_drop, ← List.map_take, List.map_cons, List.drop_succ_cons]; done) | (simp [tk_map]; done)) hzd)))
     | ((with_reducible refine ixN_mk (j) ?_ ?_ ?_); (focus (first | rfl)); (focus ((try simp only [LN] at *) <;> omega)))
     | ((with_reducible refine eqN_mk2 ?_ ?_); (focus rfl))
     | with_reducible refine wr_i64 (by first | omega | (simp only [LN] at *; omega)) ?_
     | with_reducible refine wr_u64 (by omega) ?_
     | with_reducible first | refine Z.drawZ_rule tabOk mixOk ?_ | refine Z.apZ_mk (by kernel_rfl) ?_
     | fail)
    all_goals (try (conv => whnf))
    all_goals try first | (show Nat.ble _ _ = true; rfl) | (exfalso; rename_i hz; cases hz; done) | (exfalso; (try simp only [LN] at *) <;> omega)
    all_goals first
     | ((refine Z.rnd_rw 12 ([[.v (.int .u64 (numR (r.take (j + 1))))]]) rfl rfl ?_ ?_); (focus (rw [take_snoc hzr, numR_snoc, hnv]; exact congrArg (fun z => [[Ce.v (.int .u64 z)]]) (or_add hnl hzb))); ((refine Z.rndK ((j + 1)) (fun s => [0, 1, 2, 3, 4, 5, 6, 7, 8, 9, 10, 11, 12]) rfl rfl rfl rfl ?_ ?_ ?_ ?_); (focus (repeat' (first | exact trivial | exact rfl | apply And.intro))); (focus (repeat' (first | exact trivial | (intro b hb; cases hb; rfl) | exact Z.gB_sub rfl rfl (ren_map fun _ => rfl) | apply And.intro))); (focus (((try dsimp only); omega))); ((try dsimp only); omega)))
     | fail
   have hj8 : j = 8 := by omega
   repeat' ((conv => whnf); first
    | (with_reducible refine spB_dec ?_ ?_ <;> intro _ <;> (try (exfalso; (first | omega))))
    | fail)
   all_goals (try (conv => whnf))
   subst hj8
   exact hq9
  generalize hnv8 : numR (r.take 8) = v8 at *)
 repeat' ((conv => whnf); first
  | ((with_reducible apply spB_cong); (focus (simp only [splQ, Int.reduceBEq, Int.reduceBNe]; rfl)))
  | with_reducible first | refine spB_no (by decide) ?_
  | (with_reducible refine spB_dec ?_ ?_ <;> intro _ <;> (try (exfalso; (first | (simp only [LN] at *; omega)))))
  | ((refine sl3N_mk 0 8 8 rfl rfl rfl ?_ ?_ ?_ ?_ ?_); (iterate 4 (focus (first | exact .inl rfl | ((try simp only [LN] at *) <;> omega)))))
  | ((with_reducible refine Z.slN_lo 8 ?_ ?_ ?_); (focus rfl); (focus ((try simp only [LN] at *) <;> omega)))
  | (refine wr_mk (IntKind.i64.wrap v8) rfl ?_)
  | with_reducible first | refine Z.callZ_in tabOk 18 Tryz.f104 _ Tryz.func104 (by kernel_rfl) rfl rfl rfl ?_ | refine Z.callZ_in tabOk 5 Tryz.f83 _ Tryz.func83 (by kernel_rfl) rfl rfl rfl ?_ | refine Z.callZ_in tabOk 10 Tryz.f80 _ Tryz.func80 (by kernel_rfl) rfl rfl rfl ?_ | refine Z.callZ_in tabOk 58 Tryz.f103 _ Tryz.func103 (by kernel_rfl) rfl rfl rfl ?_
  | ((with_reducible apply ex_and); exact rfl)
  | fail)
 all_goals (try (conv => whnf))
 all_goals try first | (show Nat.ble _ _ = true; rfl) | (exfalso; rename_i hz; cases hz; done) | (exfalso; (try simp only [LN] at *) <;> omega)
 all_goals (
  apply loopQ3
  ·intro Q0 hq9
   refine Z.loopK tabOk (fun zq : Nat => [(6, .val (.int .i64 (zq : Int)))]) (fun zq : Nat => ([(14, some (Z.Ob.b ⟨[[.v (.int .u64 (numR ((r.drop 8).take zq)))]], 1, 81, true⟩)), (0, some (Z.Ob.b ⟨[[.v (.slice none 0 0)]], 1, 30, true⟩)), (1, some (Z.Ob.b ⟨[[.ro true 1 ((r.drop 8).map eB), .v (.int .i64 0)]], 2, 130, true⟩)), (2, some (Z.Ob.b ⟨[[.gsl 5 (acc.map cK)]], 1, 30, true⟩)), (5, (gB 4 55 (acc.map cK)).map Z.Ob.b), (10, some (Z.Ob.b ⟨[[.v (.int .i64 t), .v (.int .i64 w), .v (.int .i64 0), .v (.int .i64 0)]], 4, 55, true⟩))] : Z.Kr)) (fun zq => zq ≤ 8) (fun zq => 8 - zq) 0 15 [(0, _), (2, _), (5, _)] ⟨rfl, rfl, rfl, trivial⟩ [] trivial ?_ ?_ rfl rfl (Nat.zero_le _) ?_
   ·repeat' (first | exact trivial | apply And.intro | exact ⟨_, rfl, Z.Imp.refl _⟩)
   ·repeat' (first | exact trivial | exact (fun b hb => ⟨b, hb, Z.ImpO.refl b⟩) | (intro b hb; cases hb; refine ⟨_, rfl, ⟨rfl, rfl, rfl⟩, ⟨⟨Z.Imp.of_eq (congrArg (Ce.ro true 1) (by first | ((try simp only [tk_drop]); simp only [← List.map_drop, List.drop_drop, List.map_cons, List.drop_succ_cons, List.drop_zero]; done) | (simp [tk_map]; done) | (simp [tk_map, List.take_of_length_le]; done))), Z.Imp.refl _, trivial⟩, trivial⟩⟩; done) | apply And.intro)
   rintro j HINV
   (try dsimp only at HINV); (try dsimp only)
   by_cases hj : j < 8
   ·obtain ⟨z9, hzr⟩ := getElem?_some' (xs := (r.drop 8)) (i := j) (by (try rw [List.length_drop]); omega)
    have hzd : ((r.drop 8).take 8)[j]? = some z9 := by rw [List.getElem?_take, if_pos hj]; exact hzr
    have hzb := (isB_drop hBr) z9 (List.mem_of_getElem? hzr)
    have hnl := num_lt (l := (r.drop 8)) (i := j) (by omega) (by (try rw [List.length_drop]); omega) (isB_drop hBr)
    generalize hnv : numR ((r.drop 8).take j) = nv at *
    repeat' ((conv => whnf); first
     | (with_reducible refine spB_dec ?_ ?_ <;> intro _ <;> (try (exfalso; (first | omega))))
     | ((with_reducible refine wr_shl8 ?_ ?_); (focus omega))
     | ((with_reducible refine rowN_mk (eB z9) ?_ ?_); (focus (exact rest_at (by first | ((try simp only [tk_drop]); simp only [Nat.sub_zero, List.drop_zero, ← List.map_drop, ← List.map_take, List.map_cons, List.drop_succ_cons]; done) | (simp [tk_map]; done)) hzd)))
     | ((with_reducible refine ixN_mk (j) ?_ ?_ ?_); (focus (first | rfl)); (focus ((try simp only [LN] at *) <;> omega)))
     | ((with_reducible refine eqN_mk2 ?_ ?_); (focus rfl))
     | with_reducible refine wr_i64 (by first | omega | (simp only [LN] at *; omega)) ?_
     | with_reducible refine wr_u64 (by omega) ?_
     | with_reducible first | refine Z.drawZ_rule tabOk mixOk ?_ | refine Z.apZ_mk (by kernel_rfl) ?_
     | fail)
    all_goals (try (conv => whnf))
    all_goals try first | (show Nat.ble _ _ = true; rfl) | (exfalso; rename_i hz; cases hz; done) | (exfalso; (try simp only [LN] at *) <;> omega)
    all_goals first
     | ((refine Z.rnd_rw 14 ([[.v (.int .u64 (numR ((r.drop 8).take (j + 1))))]]) rfl rfl ?_ ?_); (focus (rw [take_snoc hzr, numR_snoc, hnv]; exact congrArg (fun z => [[Ce.v (.int .u64 z)]]) (or_add hnl hzb))); ((refine Z.rndK ((j + 1)) (fun s => [0, 1, 2, 3, 4, 5, 6, 7, 8, 9, 10, 11, 12, 13, 14]) rfl rfl rfl rfl ?_ ?_ ?_ ?_); (focus (repeat' (first | exact trivial | exact rfl | apply And.intro))); (focus (repeat' (first | exact trivial | (intro b hb; cases hb; rfl) | exact Z.gB_sub rfl rfl (ren_map fun _ => rfl) | apply And.intro))); (focus (((try dsimp only); omega))); ((try dsimp only); omega)))
     | fail
   have hj8 : j = 8 := by omega
   repeat' ((conv => whnf); first
    | (with_reducible refine spB_dec ?_ ?_ <;> intro _ <;> (try (exfalso; (first | omega))))
    | fail)
   all_goals (try (conv => whnf))
   subst hj8
   exact hq9
  generalize hnv9 : numR ((r.drop 8).take 8) = v9 at *
  have hd1 : rowD (t :: w :: r) = ⟨t, w, IntKind.i64.wrap v8, IntKind.i64.wrap v9⟩ := by rw [← hnv8, ← hnv9]; rfl)
 repeat' ((conv => whnf); first
  | ((with_reducible refine Z.slN_lo 8 ?_ ?_ ?_); (focus rfl); (focus ((try simp only [LN] at *) <;> omega)))
  | ((with_reducible refine wr_mk (i : Int) hj1 ?_))
  | (refine wr_mk (IntKind.i64.wrap v9) rfl ?_)
  | ((with_reducible refine posE_pos ?_ ?_); (focus ((try simp only [LN] at *) <;> omega)))
  | ((with_reducible refine apdN.mk ?_ ?_ ?_ ?_ ?_ ?_); (focus (first | rfl)); (focus (first | exact one_all (by rfl))); (focus ((try simp only [LN] at *) <;> omega)); (focus ((try simp only [LN] at *) <;> omega)); (focus ((try simp only [LN] at *) <;> omega)))
  | ((with_reducible refine eqN_mk2 ?_ ?_); (focus (exact Z.kb_some rfl)))
  | ((with_reducible apply ex_and); exact rfl)
  | fail)
 all_goals (try (conv => whnf))
 all_goals try first | (show Nat.ble _ _ = true; rfl) | (exfalso; rename_i hz; cases hz; done) | (exfalso; (try simp only [LN] at *) <;> omega)
 all_goals first
  | ((refine Z.rnd_bi 1 [[.ro true 1 ((r.drop 16).map eB), _]] rfl rfl ⟨⟨Z.Imp.of_eq (congrArg (Ce.ro true 1) (by first | ((try simp only [tk_drop]); simp only [← List.map_drop, List.drop_drop, List.map_cons, List.drop_succ_cons, List.drop_zero]; done) | (simp; done) | (simp [tk_map]; done))), Z.Imp.refl _, trivial⟩, trivial⟩ ?_); ((refine Z.rndK ((i, (r.drop 16), acc ++ [(⟨t, w, IntKind.i64.wrap v8, IntKind.i64.wrap v9⟩ : Kc)], 0)) (fun s => [0, 1, 2, 3, 4, s.idIn 2 0]) rfl rfl rfl rfl ?_ ?_ ?_ ?_); (focus (repeat' (first | exact trivial | exact rfl | apply And.intro))); (focus (repeat' (first | exact trivial | (intro b hb; cases hb; rfl) | (intro b hb; cases hb; rw [List.map_append]; rfl) | exact Z.gB_sub' rfl (by first | rfl | (rw [List.map_append]; rfl) | simp only [List.map_append, List.map_cons, List.map_nil]) (ren_map fun _ => rfl) | apply And.intro))); (focus (exact ⟨by (try dsimp only); omega, ⟨by (try dsimp only); first | (intro x hx; cases hx; done) | exact hBr | exact isB_drop hBr, by (try dsimp only); (try simp only [List.length_cons, List.length_drop, List.length_nil] at *); omega⟩, by (try dsimp only); simp only [List.length_append, List.length_cons, List.length_nil]; omega, .inl ⟨rfl, by (try dsimp only); rw [HD, preK_step (by simp only [List.length_cons]; omega) hd1]; rfl⟩⟩)); ((try dsimp only); omega)))
  | fail
end Tab
end Go.Proofs.YtopieffkpdlpbaaGreat
namespace Go.Proofs.YtopieffkpdlpbaaGreat
open Go Go.RowKit Wx
set_option maxHeartbeats 4000000
namespace Tab
theorem decode_con (b : List Int) (hl : b.length ≤ 1099511627776) (hB : isB b) : Con Tryz.prog 47 [.one (.ro false 1 (b.map eB))] (fun rx rK rt => rx = .tup [.agg [.ro true 4 ((decT b).1.map eK)], .one (.v (.int .i64 (decT b).2))] ∧ rK = [] ∧ rt = 0) := by
 refine Z.con_ofF tabOk 59 Tryz.f47 _ Tryz.func47 (by kernel_rfl) rfl rfl rfl rfl ?_
 rcases b with _ | ⟨n0, b⟩
 ·have ccp := copied_con [] (by simp)
  repeat' ((conv => whnf); first
   | ((with_reducible apply spB_cong); (focus (simp only [splQ, Int.reduceBEq, Int.reduceBNe]; rfl)))
   | with_reducible first | refine spB_yes (by decide) ?_ | refine spB_no (by decide) ?_
   | with_reducible first | refine wr_mk _ rfl ?_
   | with_reducible first | refine Z.callZ_in tabOk 8 Tryz.f42 _ Tryz.func42 (by kernel_rfl) rfl rfl rfl ?_ | refine Z.callZ_in tabOk 6 Tryz.f81 _ Tryz.func81 (by kernel_rfl) rfl rfl rfl ?_ | refine Z.callZ_in tabOk 10 Tryz.f80 _ Tryz.func80 (by kernel_rfl) rfl rfl rfl ?_ | refine Z.callZ_in tabOk 58 Tryz.f103 _ Tryz.func103 (by kernel_rfl) rfl rfl rfl ?_
   | ((first | (with_reducible refine Z.callZ_mk ?_ (ccp) ?_)); (focus ((repeat' (first | exact trivial | exact rfl | apply And.intro)); done)))
   | ((with_reducible apply ex_and); exact rfl)
   | fail)
  all_goals (try (conv => whnf))
  all_goals try first | (show Nat.ble _ _ = true; rfl) | (exfalso; rename_i hz; cases hz; done) | (exfalso; (try simp only [LN] at *) <;> omega)
  all_goals (refine Z.loopZ_unroll tabOk 1 ?_)
  repeat' ((conv => whnf); first
   | with_reducible first | refine spB_t ?_
   | ((with_reducible apply spB_cong); (focus (simp only [splQ, Int.reduceBEq, Int.reduceBNe]; rfl)))
   | with_reducible first | refine spB_no (by decide) ?_
   | with_reducible first | refine Z.callZ_in tabOk 10 Tryz.f46 _ Tryz.func46 (by kernel_rfl) rfl rfl rfl ?_
   | ((with_reducible apply ex_and); exact rfl)
   | fail)
  all_goals (try (conv => whnf))
  all_goals try first | (show Nat.ble _ _ = true; rfl) | (exfalso; rename_i hz; cases hz; done) | (exfalso; (try simp only [LN] at *) <;> omega)
  all_goals first
   | ((first | (with_reducible apply Z.retF2)); (focus rfl); (repeat' (first | exact trivial | (with_reducible apply Z.frz_one) | (with_reducible apply Z.frz_agg) | (with_reducible apply Z.fq_int) | (exact Z.frz_nil) | exact rfl | apply And.intro)); (all_goals (try exact (fun _ => none))); all_goals (first | (simp; done)))
   | fail
 have hn0 := hB n0 (List.mem_cons_self ..)
 rcases b with _ | ⟨n1, b⟩
 ·have ccp := copied_con [n0] (by simp)
  repeat' ((conv => whnf); first
   | ((with_reducible apply spB_cong); (focus (simp only [splQ, Int.reduceBEq, Int.reduceBNe]; rfl)))
   | with_reducible first | refine spB_no (by decide) ?_
   | (with_reducible refine spB_dec ?_ ?_ <;> intro _ <;> (try (exfalso; (first | (rename_i hz; simp at hz; done)))))
   | with_reducible first | refine wr_mk _ rfl ?_
   | with_reducible first | refine Z.callZ_in tabOk 8 Tryz.f42 _ Tryz.func42 (by kernel_rfl) rfl rfl rfl ?_ | refine Z.callZ_in tabOk 6 Tryz.f81 _ Tryz.func81 (by kernel_rfl) rfl rfl rfl ?_ | refine Z.callZ_in tabOk 10 Tryz.f80 _ Tryz.func80 (by kernel_rfl) rfl rfl rfl ?_ | refine Z.callZ_in tabOk 58 Tryz.f103 _ Tryz.func103 (by kernel_rfl) rfl rfl rfl ?_
   | ((first | (with_reducible refine Z.callZ_mk ?_ (ccp) ?_)); (focus ((repeat' (first | exact trivial | exact rfl | apply And.intro)); done)))
   | ((with_reducible apply ex_and); exact rfl)
   | fail)
  all_goals (try (conv => whnf))
  all_goals try first | (show Nat.ble _ _ = true; rfl) | (exfalso; rename_i hz; cases hz; done) | (exfalso; (try simp only [LN] at *) <;> omega)
  all_goals (refine Z.loopZ_unroll tabOk 1 ?_)
  repeat' ((conv => whnf); first
   | with_reducible first | refine spB_t ?_
   | ((with_reducible apply spB_cong); (focus (simp only [splQ, Int.reduceBEq, Int.reduceBNe]; rfl)))
   | with_reducible first | refine spB_no (by decide) ?_
   | with_reducible first | refine Z.callZ_in tabOk 10 Tryz.f46 _ Tryz.func46 (by kernel_rfl) rfl rfl rfl ?_
   | ((with_reducible apply ex_and); exact rfl)
   | fail)
  all_goals (try (conv => whnf))
  all_goals try first | (show Nat.ble _ _ = true; rfl) | (exfalso; rename_i hz; cases hz; done) | (exfalso; (try simp only [LN] at *) <;> omega)
  all_goals first
   | ((first | (with_reducible apply Z.retF2)); (focus rfl); (repeat' (first | exact trivial | (with_reducible apply Z.frz_one) | (with_reducible apply Z.frz_agg) | (with_reducible apply Z.fq_int) | (exact Z.frz_nil) | exact rfl | apply And.intro)); (all_goals (try exact (fun _ => none))); all_goals (first | (simp; done)))
   | fail
 have hn1 := hB n1 (by simp)
 have hBb : isB b := fun x hx => hB x (by simp [hx])
 have ccp := copied_con (n0 :: n1 :: b) hl
 have hll : b.length + 2 ≤ 1099511627776 := by simpa using hl
 obtain ⟨N, hNn⟩ : ∃ N : Nat, n0 * 256 + n1 = (N : Int) := ⟨(n0 * 256 + n1).toNat, by omega⟩
 have hN : N ≤ 65535 := by omega
 have hNe : Z.ImpV (AV.val (Value.int .i64 (n0 * 256 + n1))) (AV.val (Value.int .i64 (N : Int))) := by rw [hNn]; exact Z.ImpV.refl _
 have hdT : decT (n0 :: n1 :: b) = if (decK N b).2.1 = 0 then (if tabR (decK N b).1 = true ∧ (decK N b).2.2 = [] then ((decK N b).1, 0) else ([], 220)) else ([], 7) := by
  have e : numR ((n0 :: n1 :: b).take 2) = (N : Int) := by rw [← hNn]; show (0 * 256 + n0) * 256 + n1 = _; omega
  unfold decT
  rw [if_neg (by simp), e, Int.toNat_natCast]
  rfl
 rw [hdT]
 repeat' ((conv => whnf); first
  | with_reducible first | refine spB_t ?_
  | ((with_reducible apply spB_cong); (focus (simp only [splQ, Int.reduceBEq, Int.reduceBNe]; rfl)))
  | with_reducible first | refine spB_yes (by decide) ?_ | refine spB_no (by decide) ?_
  | (with_reducible refine spB_dec ?_ ?_ <;> intro _ <;> (try (exfalso; (first | (simp only [LN] at *; omega)))))
  | ((with_reducible refine wr_shl8 ?_ ?_); (focus omega))
  | with_reducible first | refine rowN_mk _ rfl ?_
  | ((with_reducible refine Z.slN_lo 2 ?_ ?_ ?_); (focus rfl); (focus ((try simp only [LN] at *) <;> omega)))
  | (refine loopZ_unr2 tabOk rfl ?_)
  | (refine wr_n16 hn0 hn1 ?_)
  | ((with_reducible apply ixN_lit); (focus rfl); (focus rfl))
  | ((with_reducible refine eqN_mk2 ?_ ?_); (focus rfl))
  | ((with_reducible apply sl3N_mk); (focus rfl); (focus rfl); (focus rfl); (focus ((try simp only [LN] at *) <;> omega)); (focus ((try simp only [LN] at *) <;> omega)); (focus ((try simp only [LN] at *) <;> omega)); (focus ((try simp only [LN] at *) <;> omega)))
  | with_reducible refine wr_i64 (by first | omega | (simp only [LN] at *; omega)) ?_
  | with_reducible refine wr_u64 (by omega) ?_
  | with_reducible first | refine wr_mk _ rfl ?_
  | with_reducible first | refine Z.callZ_in tabOk 18 Tryz.f104 _ Tryz.func104 (by kernel_rfl) rfl rfl rfl ?_ | refine Z.callZ_in tabOk 8 Tryz.f42 _ Tryz.func42 (by kernel_rfl) rfl rfl rfl ?_ | refine Z.callZ_in tabOk 6 Tryz.f81 _ Tryz.func81 (by kernel_rfl) rfl rfl rfl ?_ | refine Z.callZ_in tabOk 10 Tryz.f80 _ Tryz.func80 (by kernel_rfl) rfl rfl rfl ?_ | refine Z.callZ_in tabOk 58 Tryz.f103 _ Tryz.func103 (by kernel_rfl) rfl rfl rfl ?_
  | ((first | (with_reducible refine Z.callZ_mk ?_ (ccp) ?_)); (focus ((repeat' (first | exact trivial | exact rfl | apply And.intro)); done)))
  | ((with_reducible apply ex_and); exact rfl)
  | with_reducible first | refine Z.drawZ_rule tabOk mixOk ?_ | refine Z.apZ_mk (by kernel_rfl) ?_
  | fail)
 all_goals (try (conv => whnf))
 all_goals try first | (show Nat.ble _ _ = true; rfl) | (exfalso; rename_i hz; cases hz; done) | (exfalso; (try simp only [LN] at *) <;> omega)
 refine Z.loopK tabOk dCH dCK (dInv b N) (fun zq => zq.1) (N, b, [], 0) 6 dFk ⟨rfl, rfl, rfl, trivial⟩ dKk ⟨rfl, trivial⟩ ?_ ?_ rfl rfl ⟨Nat.le_refl _, ⟨hBb, by (try dsimp only); omega⟩, by simp, .inl ⟨rfl, preK_nil N b⟩⟩ ?_
 ·repeat' (first | exact trivial | apply And.intro | exact ⟨_, rfl, hNe⟩)
 ·repeat' (first | exact trivial | (intro b hb; cases hb; done) | (intro b hb; cases hb; refine ⟨_, rfl, ⟨rfl, rfl, rfl⟩, ?_⟩; (try exact ⟨⟨Z.Imp.of_eq (congrArg (Ce.ro true 1) (by simp [tk_map])), Z.Imp.refl _, trivial⟩, trivial⟩); (repeat' (first | exact trivial | apply And.intro | exact Z.Imp.nilg _)); done) | apply And.intro)
 rintro ⟨i, r, acc, rf⟩ HINV
 obtain ⟨HI, ⟨HBr, HLr⟩, HC, HD⟩ := HINV
 dsimp only at HI HBr HLr HC HD
 rcases HD with ⟨rfl, HD⟩ | ⟨rfl, HD⟩
 rotate_left
 ·rw [HD]
  dsimp only [dCH, dFk, dCK, dKk]
  simp only [show ((7 : Int) = 0) = False by simp, if_false]
  rcases i with _ | i
  all_goals (
  repeat' ((conv => whnf); first
   | with_reducible first | refine spB_t ?_
   | ((with_reducible apply spB_cong); (focus (simp only [splQ, Int.reduceBEq, Int.reduceBNe]; rfl)))
   | with_reducible first | refine spB_no (by decide) ?_
   | (with_reducible refine spB_dec ?_ ?_ <;> intro _ <;> (try (exfalso; (first | omega))))
   | with_reducible first | refine Z.callZ_in tabOk 10 Tryz.f46 _ Tryz.func46 (by kernel_rfl) rfl rfl rfl ?_
   | ((with_reducible apply ex_and); exact rfl)
   | fail)
  all_goals (try (conv => whnf)))
  all_goals try first | (show Nat.ble _ _ = true; rfl) | (exfalso; rename_i hz; cases hz; done) | (exfalso; (try simp only [LN] at *) <;> omega)
  all_goals first
   | ((first | (with_reducible apply Z.retF2)); (focus rfl); (repeat' (first | exact trivial | (with_reducible apply Z.frz_one) | (with_reducible apply Z.frz_agg) | (with_reducible apply Z.fq_int) | (exact Z.frz_nil) | exact rfl | apply And.intro)); (all_goals (try exact (fun _ => none))); all_goals (first | (simp; done)))
   | fail
 rcases i with _ | i
 rotate_left
 ·rcases r with _ | ⟨t, r⟩
  ·exact dec_a b N i acc HBr HLr HC HD (by omega)
  rcases r with _ | ⟨w, r⟩
  ·exact dec_b b N i acc t HBr HLr HC HD (by omega)
  by_cases h4 : r.length < 8
  ·exact dec_c b N i acc t w r HBr HLr HC HD (by omega) h4
  by_cases h5 : r.length < 16
  ·exact dec_d b N i acc t w r HBr HLr HC HD (by omega) (by omega) h5
  exact dec_e b N i acc t w r HBr HLr HC HD (by omega) (by omega)
 have hD9 : decK N b = (acc, 0, r) := by rw [HD]; simp [preK, decK]
 rw [hD9]
 dsimp only [dCH, dFk, dCK, dKk]
 simp only [if_true]
 have cc := check_con acc (by omega)
 cases hk : tabR acc
 all_goals rw [hk] at cc
 all_goals simp only [cond_true, cond_false] at cc
 all_goals rcases r with _ | ⟨x, r⟩
 all_goals simp only [true_and, if_true, reduceCtorEq, if_false, and_false, false_and, Bool.false_eq_true]
 all_goals (
  repeat' ((conv => whnf); first
   | with_reducible first | refine spB_t ?_
   | ((with_reducible apply spB_cong); (focus (simp only [splQ, Int.reduceBEq, Int.reduceBNe]; rfl)))
   | with_reducible first | refine spB_no (by decide) ?_
   | (with_reducible refine spB_dec ?_ ?_ <;> intro _ <;> (try (exfalso; (first | (rename_i hz; simp at hz; done)))))
   | with_reducible first | refine Z.callZ_in tabOk 10 Tryz.f46 _ Tryz.func46 (by kernel_rfl) rfl rfl rfl ?_ | refine Z.callZ_in tabOk 11 Tryz.f48 _ Tryz.func48 (by kernel_rfl) rfl rfl rfl ?_
   | ((first | (with_reducible refine Z.callZ_mk ?_ (cc) ?_)); (focus ((repeat' (first | exact trivial | exact Z.low_gslm (by first | rfl | exact Z.kb_some rfl) (fun _ => rfl) | apply And.intro)); done)))
   | ((with_reducible apply ex_and); exact rfl)
   | fail)
  all_goals (try (conv => whnf)))
 all_goals try first | (show Nat.ble _ _ = true; rfl) | (exfalso; rename_i hz; cases hz; done) | (exfalso; (try simp only [LN] at *) <;> omega)
 all_goals first
  | ((first | (with_reducible apply Z.retF2)); (focus rfl); (repeat' (first | exact trivial | (with_reducible apply Z.frz_one) | (with_reducible apply Z.frz_agg) | (with_reducible apply Z.fq_int) | (exact Z.frz_nil) | ((with_reducible apply Z.fq_gsl); (focus (first | exact Z.isB_map _)); (focus (exact fun _ => rfl))) | exact rfl | apply And.intro)); (all_goals (try exact (fun _ => none))); all_goals (first | (simp; done)))
  | fail
end Tab
end Go.Proofs.YtopieffkpdlpbaaGreat
namespace Go.Proofs.YtopieffkpdlpbaaGreat
open Go Go.RowKit Wx
set_option maxHeartbeats 4000000
namespace Tab
theorem rcheck_con (l : List Kc) (hl : l.length ≤ 9223372036854775807) : Con Tryz.prog 23 [.agg [.ro false 4 (l.map eK)]] (fun rx rK rt => rx = .val (.bool (tabR l)) ∧ rK = [] ∧ rt = 0) := by
 refine Z.con_ofF tabOk 41 Tryz.f23 _ Tryz.func23 (by kernel_rfl) rfl rfl rfl rfl ?_
 repeat' ((conv => whnf); first
  | with_reducible first | refine spB_t ?_
  | fail)
 all_goals (try (conv => whnf))
 all_goals try first | (show Nat.ble _ _ = true; rfl) | (exfalso; rename_i hz; cases hz; done) | (exfalso; (try simp only [LN] at *) <;> omega)
 refine Z.loopK tabOk (fun zq : Nat => [(8, .val (.int .i64 (zq : Int)))]) (fun zq : Nat => ([(0, some (Z.Ob.b ⟨[[.ro false 4 (l.map eK)]], 1, 30, true⟩))] : Z.Kr)) (fun zq => zq ≤ l.length ∧ tabR l = okT (prevR l zq) (l.drop zq)) (fun zq => l.length - zq) 0 1 [(1, _), (6, _), (7, _)] ⟨rfl, rfl, rfl, trivial⟩ [] trivial ?_ ?_ rfl rfl ⟨Nat.zero_le _, rfl⟩ ?_
 ·repeat' (first | exact trivial | apply And.intro | exact ⟨_, rfl, Z.Imp.refl _⟩)
 ·repeat' (first | exact trivial | exact (fun b hb => ⟨b, hb, Z.ImpO.refl b⟩) | apply And.intro)
 rintro i HINV
 (try dsimp only at HINV); (try dsimp only)
 obtain ⟨HI, HT⟩ := HINV
 by_cases hi : i < l.length
 ·obtain ⟨x, hx⟩ := getElem?_some' (xs := l) (i := i) hi
  rw [okT_at hx] at HT
  have ck := rrec_con x.src x.key 0
  cases hk : keyOk x.src x.key
  ·rw [hk] at ck HT
   simp only [Bool.false_and, cond_false] at ck HT
   rw [HT]
   try simp only [cond_false]
   repeat' ((conv => whnf); first
    | with_reducible first | refine spB_t ?_
    | ((with_reducible apply spB_cong); (focus (simp only [splQ, Int.reduceBEq, Int.reduceBNe]; rfl)))
    | (with_reducible refine spB_dec ?_ ?_ <;> intro _ <;> (try (exfalso; first | contradiction | omega | (rename_i hz; refine hz ?_; simp; done) | (rename_i hz; simp at hz; done) | (simp only [LN] at *; omega))))
    | with_reducible first | refine Z.rowN_known hx ?_
    | ((with_reducible apply ixN_litp); (focus rfl); (focus ((try simp only [LN] at *) <;> omega)))
    | with_reducible first | refine Z.callZ_in tabOk 8 Tryz.f58 _ Tryz.func58 (by kernel_rfl) rfl rfl rfl ?_
    | ((first | (with_reducible refine Z.conZ_mz ?_ (ck) ?_)); (focus ((repeat' (first | exact trivial | exact rfl | apply And.intro)); done)))
    | ((with_reducible apply ex_and); exact rfl)
    | with_reducible first | refine Z.drawZ_rule tabOk mixOk ?_ | refine Z.apZ_mk (by kernel_rfl) ?_
    | ((with_reducible refine Z.ConZ.red ?_); (try subst hlb); (apply Z.conZ_all); (focus (repeat (first | exact Z.FK.nil | (apply Z.FK.keep; exact rfl)))); (focus rfl); (focus rfl); (focus (repeat (first | exact trivial | (refine ⟨(fun o ho => (by first | (cases ho; rfl) | (cases ho; exact Z.inL_map fun _ => rfl) | (cases ho; exact Z.inL_mapr fun _ => rfl) | exact Z.inL_gB ho fun _ => rfl)), ?_⟩)))))
    | ((refine ⟨rfl, ?_, rfl⟩); (focus (repeat (first | exact Z.DK.nil | apply Z.DK.cons))))
    | fail)
   all_goals (try (conv => whnf))
   all_goals try first | (show Nat.ble _ _ = true; rfl) | (exfalso; rename_i hz; cases hz; done) | (exfalso; (try simp only [LN] at *) <;> omega)
   all_goals first
    | ((first | (with_reducible apply Z.retF1)); (focus rfl); (repeat' (first | exact trivial | (with_reducible apply Z.frz_one) | (with_reducible apply Z.fq_bool) | exact rfl | apply And.intro)); (all_goals (try exact (fun _ => none))); all_goals (first | (simp; done)))
    | fail
  rw [hk] at ck HT
  simp only [Bool.true_and, cond_true] at ck HT
  by_cases hc : 0 < x.cnt
  rotate_left
  ·rw [decide_eq_false hc, Bool.false_and, Bool.false_and] at HT
   rw [HT]
   try simp only [cond_false]
   repeat' ((conv => whnf); first
    | with_reducible first | refine spB_t ?_
    | ((with_reducible apply spB_cong); (focus (simp only [splQ, Int.reduceBEq, Int.reduceBNe]; rfl)))
    | with_reducible first | refine spB_no (by decide) ?_
    | (with_reducible refine spB_dec ?_ ?_ <;> intro _ <;> (try (exfalso; first | contradiction | omega | (rename_i hz; refine hz ?_; simp; done) | (rename_i hz; simp at hz; done) | (simp only [LN] at *; omega))))
    | with_reducible first | refine Z.rowN_known hx ?_
    | ((with_reducible apply ixN_litp); (focus rfl); (focus ((try simp only [LN] at *) <;> omega)))
    | with_reducible first | refine Z.callZ_in tabOk 8 Tryz.f58 _ Tryz.func58 (by kernel_rfl) rfl rfl rfl ?_
    | ((first | (with_reducible refine Z.conZ_mz ?_ (ck) ?_)); (focus ((repeat' (first | exact trivial | exact rfl | apply And.intro)); done)))
    | ((with_reducible apply ex_and); exact rfl)
    | with_reducible first | refine Z.drawZ_rule tabOk mixOk ?_ | refine Z.apZ_mk (by kernel_rfl) ?_
    | ((with_reducible refine Z.ConZ.red ?_); (try subst hlb); (apply Z.conZ_all); (focus (repeat (first | exact Z.FK.nil | (apply Z.FK.keep; exact rfl)))); (focus rfl); (focus rfl); (focus (repeat (first | exact trivial | (refine ⟨(fun o ho => (by first | (cases ho; rfl) | (cases ho; exact Z.inL_map fun _ => rfl) | (cases ho; exact Z.inL_mapr fun _ => rfl) | exact Z.inL_gB ho fun _ => rfl)), ?_⟩)))))
    | ((refine ⟨rfl, ?_, rfl⟩); (focus (repeat (first | exact Z.DK.nil | apply Z.DK.cons))))
    | fail)
   all_goals (try (conv => whnf))
   all_goals try first | (show Nat.ble _ _ = true; rfl) | (exfalso; rename_i hz; cases hz; done) | (exfalso; (try simp only [LN] at *) <;> omega)
   all_goals first
    | ((first | (with_reducible apply Z.retF1)); (focus rfl); (repeat' (first | exact trivial | (with_reducible apply Z.frz_one) | (with_reducible apply Z.fq_bool) | exact rfl | apply And.intro)); (all_goals (try exact (fun _ => none))); all_goals (first | (simp; done)))
    | fail
  rw [decide_eq_true hc, Bool.true_and] at HT
  rcases i with _ | j
  ·have HT2 : tabR l = okT (prevR l 1) (l.drop 1) := by rw [HT]; rfl
   repeat' ((conv => whnf); first
    | ((with_reducible apply spB_cong); (focus (simp only [splQ, Int.reduceBEq, Int.reduceBNe]; rfl)))
    | with_reducible first | refine spB_no (by decide) ?_
    | (with_reducible refine spB_dec ?_ ?_ <;> intro _ <;> (try (exfalso; first | contradiction | omega | (rename_i hz; refine hz ?_; simp; done) | (rename_i hz; simp at hz; done) | (simp only [LN] at *; omega))))
    | with_reducible first | refine Z.rowN_known hx ?_
    | ((with_reducible apply ixN_litp); (focus rfl); (focus ((try simp only [LN] at *) <;> omega)))
    | with_reducible refine wr_i64 (by first | omega | (simp only [LN] at *; omega)) ?_
    | with_reducible first | refine Z.callZ_in tabOk 8 Tryz.f58 _ Tryz.func58 (by kernel_rfl) rfl rfl rfl ?_
    | ((first | (with_reducible refine Z.conZ_mz ?_ (ck) ?_)); (focus ((repeat' (first | exact trivial | exact rfl | apply And.intro)); done)))
    | ((with_reducible apply ex_and); exact rfl)
    | with_reducible first | refine Z.drawZ_rule tabOk mixOk ?_ | refine Z.apZ_mk (by kernel_rfl) ?_
    | ((with_reducible refine Z.ConZ.red ?_); (try subst hlb); (apply Z.conZ_all); (focus (repeat (first | exact Z.FK.nil | (apply Z.FK.keep; exact rfl)))); (focus rfl); (focus rfl); (focus (repeat (first | exact trivial | (refine ⟨(fun o ho => (by first | (cases ho; rfl) | (cases ho; exact Z.inL_map fun _ => rfl) | (cases ho; exact Z.inL_mapr fun _ => rfl) | exact Z.inL_gB ho fun _ => rfl)), ?_⟩)))))
    | ((refine ⟨rfl, ?_, rfl⟩); (focus (repeat (first | exact Z.DK.nil | apply Z.DK.cons))))
    | fail)
   all_goals (try (conv => whnf))
   all_goals try first | (show Nat.ble _ _ = true; rfl) | (exfalso; rename_i hz; cases hz; done) | (exfalso; (try simp only [LN] at *) <;> omega)
   all_goals first
    | ((refine Z.rndK (1) (fun s => [0]) rfl rfl rfl rfl ?_ ?_ ?_ ?_); (focus (repeat' (first | exact trivial | exact rfl | apply And.intro))); (focus (repeat' (first | exact trivial | (intro b hb; cases hb; rfl) | apply And.intro))); (focus (exact ⟨by (try dsimp only); omega, HT2⟩)); ((try dsimp only); omega))
    | fail
  obtain ⟨q, hq⟩ := getElem?_some' (xs := l) (i := j) (by omega)
  have hpr : prevR l (j + 1) = some q := hq
  rw [hpr] at HT
  simp only at HT
  have cc := rcompare_con q.src q.key 0 x.src x.key 0
  have hcl := @cmp_lt q.src q.key x.src x.key
  generalize cmpR q.src q.key x.src x.key = C at *
  by_cases hlt : kLt q.src q.key x.src x.key
  ·rw [decide_eq_true hlt] at HT hcl
   have hC : ¬ 0 ≤ C := of_decide_eq_false (by simpa using hcl)
   rw [Bool.true_and] at HT
   repeat' ((conv => whnf); first
    | with_reducible first | refine spB_t ?_
    | ((with_reducible apply spB_cong); (focus (simp only [splQ, Int.reduceBEq, Int.reduceBNe]; rfl)))
    | with_reducible first | refine spB_no (by decide) ?_
    | (with_reducible refine spB_dec ?_ ?_ <;> intro _ <;> (try (exfalso; first | contradiction | omega | (rename_i hz; refine hz ?_; simp; done) | (rename_i hz; simp at hz; done) | (simp only [LN] at *; omega))))
    | with_reducible first | refine Z.rowN_known hx ?_ | refine Z.rowN_known hq ?_
    | ((with_reducible refine ixN_mk (j) ?_ ?_ ?_); (focus (first | ((try simp only [LN] at *) <;> omega))); (focus ((try simp only [LN] at *) <;> omega)))
    | ((with_reducible apply ixN_litp); (focus rfl); (focus ((try simp only [LN] at *) <;> omega)))
    | with_reducible refine wr_i64 (by first | omega | (simp only [LN] at *; omega)) ?_
    | with_reducible first | refine Z.callZ_in tabOk 8 Tryz.f58 _ Tryz.func58 (by kernel_rfl) rfl rfl rfl ?_
    | ((first | (with_reducible refine Z.conZ_mz ?_ (ck) ?_) | (with_reducible refine Z.conZ_mz ?_ (cc) ?_)); (focus ((repeat' (first | exact trivial | exact rfl | apply And.intro)); done)))
    | ((with_reducible apply ex_and); exact rfl)
    | with_reducible first | refine Z.drawZ_rule tabOk mixOk ?_ | refine Z.apZ_mk (by kernel_rfl) ?_
    | ((with_reducible refine Z.ConZ.red ?_); (try subst hlb); (apply Z.conZ_all); (focus (repeat (first | exact Z.FK.nil | (apply Z.FK.keep; exact rfl)))); (focus rfl); (focus rfl); (focus (repeat (first | exact trivial | (refine ⟨(fun o ho => (by first | (cases ho; rfl) | (cases ho; exact Z.inL_map fun _ => rfl) | (cases ho; exact Z.inL_mapr fun _ => rfl) | exact Z.inL_gB ho fun _ => rfl)), ?_⟩)))))
    | ((refine ⟨rfl, ?_, rfl⟩); (focus (repeat (first | exact Z.DK.nil | apply Z.DK.cons))))
    | fail)
   all_goals (try (conv => whnf))
   all_goals try first | (show Nat.ble _ _ = true; rfl) | (exfalso; rename_i hz; cases hz; done) | (exfalso; (try simp only [LN] at *) <;> omega)
   all_goals first
    | ((refine Z.rndK ((j + 1 + 1)) (fun s => [0]) rfl rfl rfl rfl ?_ ?_ ?_ ?_); (focus (repeat' (first | exact trivial | exact rfl | apply And.intro))); (focus (repeat' (first | exact trivial | (intro b hb; cases hb; rfl) | apply And.intro))); (focus (exact ⟨by (try dsimp only); omega, HT⟩)); ((try dsimp only); omega))
    | fail
  ·rw [decide_eq_false hlt] at HT hcl
   have hC : 0 ≤ C := of_decide_eq_true (by simpa using hcl)
   rw [Bool.false_and] at HT
   rw [HT]
   try simp only [cond_false]
   repeat' ((conv => whnf); first
    | with_reducible first | refine spB_t ?_
    | ((with_reducible apply spB_cong); (focus (simp only [splQ, Int.reduceBEq, Int.reduceBNe]; rfl)))
    | with_reducible first | refine spB_no (by decide) ?_
    | (with_reducible refine spB_dec ?_ ?_ <;> intro _ <;> (try (exfalso; first | contradiction | omega | (rename_i hz; refine hz ?_; simp; done) | (rename_i hz; simp at hz; done) | (simp only [LN] at *; omega))))
    | with_reducible first | refine Z.rowN_known hx ?_ | refine Z.rowN_known hq ?_
    | ((with_reducible refine ixN_mk (j) ?_ ?_ ?_); (focus (first | ((try simp only [LN] at *) <;> omega))); (focus ((try simp only [LN] at *) <;> omega)))
    | ((with_reducible apply ixN_litp); (focus rfl); (focus ((try simp only [LN] at *) <;> omega)))
    | with_reducible refine wr_i64 (by first | omega | (simp only [LN] at *; omega)) ?_
    | with_reducible first | refine Z.callZ_in tabOk 8 Tryz.f58 _ Tryz.func58 (by kernel_rfl) rfl rfl rfl ?_
    | ((first | (with_reducible refine Z.conZ_mz ?_ (ck) ?_) | (with_reducible refine Z.conZ_mz ?_ (cc) ?_)); (focus ((repeat' (first | exact trivial | exact rfl | apply And.intro)); done)))
    | ((with_reducible apply ex_and); exact rfl)
    | with_reducible first | refine Z.drawZ_rule tabOk mixOk ?_ | refine Z.apZ_mk (by kernel_rfl) ?_
    | ((with_reducible refine Z.ConZ.red ?_); (try subst hlb); (apply Z.conZ_all); (focus (repeat (first | exact Z.FK.nil | (apply Z.FK.keep; exact rfl)))); (focus rfl); (focus rfl); (focus (repeat (first | exact trivial | (refine ⟨(fun o ho => (by first | (cases ho; rfl) | (cases ho; exact Z.inL_map fun _ => rfl) | (cases ho; exact Z.inL_mapr fun _ => rfl) | exact Z.inL_gB ho fun _ => rfl)), ?_⟩)))))
    | ((refine ⟨rfl, ?_, rfl⟩); (focus (repeat (first | exact Z.DK.nil | apply Z.DK.cons))))
    | fail)
   all_goals (try (conv => whnf))
   all_goals try first | (show Nat.ble _ _ = true; rfl) | (exfalso; rename_i hz; cases hz; done) | (exfalso; (try simp only [LN] at *) <;> omega)
   all_goals first
    | ((first | (with_reducible apply Z.retF1)); (focus rfl); (repeat' (first | exact trivial | (with_reducible apply Z.frz_one) | (with_reducible apply Z.fq_bool) | exact rfl | apply And.intro)); (all_goals (try exact (fun _ => none))); all_goals (first | (simp; done)))
    | fail
 have hil : i = l.length := by omega
 subst hil
 rw [List.drop_length] at HT
 have HT3 : tabR l = true := by rw [HT]; cases prevR l l.length <;> rfl
 rw [HT3]
 try simp only [cond_true]
 repeat' ((conv => whnf); first
  | (with_reducible refine spB_dec ?_ ?_ <;> intro _ <;> (try (exfalso; first | contradiction | omega | (rename_i hz; refine hz ?_; simp; done) | (rename_i hz; simp at hz; done) | (simp only [LN] at *; omega))))
  | fail)
 all_goals (try (conv => whnf))
 all_goals try first | (show Nat.ble _ _ = true; rfl) | (exfalso; rename_i hz; cases hz; done) | (exfalso; (try simp only [LN] at *) <;> omega)
 all_goals first
  | ((first | (with_reducible apply Z.retF1)); (focus rfl); (repeat' (first | exact trivial | (with_reducible apply Z.frz_one) | (with_reducible apply Z.fq_bool) | exact rfl | apply And.intro)); (all_goals (try exact (fun _ => none))); all_goals (first | (simp; done)))
  | fail
end Tab
end Go.Proofs.YtopieffkpdlpbaaGreat
namespace Go.Proofs.YtopieffkpdlpbaaGreat
open Go Go.RowKit Wx
set_option maxHeartbeats 4000000
namespace Tab
def rowsB (b : List Int) (n : Nat) : List Kc := (List.range n).map fun j => rowD (b.drop (2 + 18 * j))
theorem rowsB_len {b : List Int} {n : Nat} : (rowsB b n).length = n := by simp [rowsB]
theorem rowsB_succ {b : List Int} {n : Nat} : rowsB b (n + 1) = rowsB b n ++ [rowD (b.drop (2 + 18 * n))] := by unfold rowsB; rw [List.range_succ, List.map_append]; rfl
theorem decK_rows : ∀ {n : Nat} {b : List Int}, 18 * n ≤ b.length → decK n b = ((List.range n).map fun j => rowD (b.drop (18 * j)), 0, b.drop (18 * n))
 | 0, b, _ => by simp [decK]
 | n + 1, b, h => by
  rw [decK, if_neg (by omega), decK_rows (n := n) (by rw [List.length_drop]; omega), if_pos rfl, List.range_succ_eq_map]
  simp only [List.map_cons, List.map_map, List.drop_drop, Nat.mul_zero, List.drop_zero, Prod.mk.injEq, true_and, List.cons.injEq]
  refine ⟨List.map_congr_left fun j _ => ?_, by rw [show 18 + 18 * n = 18 * (n + 1) by omega]⟩
  simp only [Function.comp]
  rw [show 18 + 18 * j = 18 * Nat.succ j by omega]
theorem decT_short {b : List Int} (h : b.length < 2 + 18 * (numR (b.take 2)).toNat) : decT b = ([], 7) := by
 unfold decT
 by_cases h2 : b.length < 2
 ·rw [if_pos h2]
 ·have e := decK_err (numR (b.take 2)).toNat (b.drop 2)
  rw [if_pos (show (b.drop 2).length < 18 * (numR (b.take 2)).toNat by rw [List.length_drop]; omega)] at e
  rw [if_neg h2, if_neg (by rw [e]; decide)]
theorem decT_full {b : List Int} (h : 2 + 18 * (numR (b.take 2)).toNat ≤ b.length) : decT b = if b.length = 2 + 18 * (numR (b.take 2)).toNat ∧ tabR (rowsB b (numR (b.take 2)).toNat) = true then (rowsB b (numR (b.take 2)).toNat, 0) else ([], 220) := by
 have e : (List.range (numR (b.take 2)).toNat).map (fun j => rowD ((b.drop 2).drop (18 * j))) = rowsB b (numR (b.take 2)).toNat := by
  unfold rowsB; exact List.map_congr_left fun j _ => by rw [List.drop_drop]
 unfold decT
 rw [if_neg (by omega), decK_rows (by rw [List.length_drop]; omega), if_pos rfl]
 dsimp only
 rw [e, List.drop_drop]
 by_cases h1 : b.length = 2 + 18 * (numR (b.take 2)).toNat
 ·have h0 : b.drop (2 + 18 * (numR (b.take 2)).toNat) = [] := by rw [← h1]; simp
  by_cases h2 : tabR (rowsB b (numR (b.take 2)).toNat) = true
  ·rw [if_pos ⟨h2, h0⟩, if_pos ⟨h1, h2⟩]
  ·rw [if_neg (fun q => h2 q.1), if_neg (fun q => h2 q.2)]
 ·rw [if_neg (fun q => h1 (by have := congrArg List.length q.2; simp at this; omega)), if_neg (fun q => h1 q.1)]
theorem rdec_con (b : List Int) (hl : b.length ≤ 1099511627776) (hB : isB b) : Con Tryz.prog 50 [.one (.ro false 1 (b.map eB))] (fun rx rK rt => rx = .tup [.agg [.ro true 4 ((decT b).1.map eK)], .one (.v (.int .i64 (decT b).2))] ∧ rK = [] ∧ rt = 0) := by
 refine Z.con_ofF tabOk 76 Tryz.f50 _ Tryz.func50 (by kernel_rfl) rfl rfl rfl rfl ?_
 by_cases h2 : b.length < 2
 ·rw [show decT b = ([], 7) by unfold decT; rw [if_pos h2]]
  repeat' ((conv => whnf); first
   | with_reducible first | refine spB_t ?_
   | (with_reducible refine spB_dec ?_ ?_ <;> intro _ <;> (try (exfalso; (first | (simp only [LN] at *; omega)))))
   | fail)
  all_goals (try (conv => whnf))
  all_goals try first | (show Nat.ble _ _ = true; rfl) | (exfalso; rename_i hz; cases hz; done) | (exfalso; (try simp only [LN] at *) <;> omega)
  all_goals first
   | ((first | (with_reducible apply Z.retF2)); (focus rfl); (repeat' (first | exact trivial | (with_reducible apply Z.frz_one) | (with_reducible apply Z.frz_agg) | (with_reducible apply Z.fq_int) | (exact Z.frz_nil) | exact rfl | apply And.intro)); (all_goals (try exact (fun _ => none))); all_goals (first | (simp; done)))
   | fail
 have hB2 : isB (b.take 2) := isB_take hB
 have hn9 := numR_lt (n := 2) (l := b.take 2) (by rw [List.length_take]; omega) hB2
 have cn0 := num_con (b.take 2) (by rw [List.length_take]; omega) hB2
 rw [show (b.take 2).map eB = ((b.map eB).drop 0).take (2 - 0) by rw [List.drop_zero, Nat.sub_zero, List.map_take]] at cn0
 have hds := decT_short (b := b)
 have hdf := decT_full (b := b)
 obtain ⟨N, hN⟩ : ∃ N : Nat, numR (b.take 2) = (N : Int) := ⟨(numR (b.take 2)).toNat, by omega⟩
 rw [hN] at cn0 hn9 hds hdf
 rw [Int.toNat_natCast] at hds hdf
 have hNw : IntKind.i64.wrap ((N : Nat) : Int) = ((N : Nat) : Int) := by simp [IntKind.wrap, IntKind.bits, IntKind.signed]; omega
 by_cases hs : b.length < 2 + 18 * N
 ·rw [hds hs]
  repeat' ((conv => whnf); first
   | with_reducible first | refine spB_no (by decide) ?_
   | (with_reducible refine spB_dec ?_ ?_ <;> intro _ <;> (try (exfalso; (first | (simp only [LN] at *; omega)))))
   | ((with_reducible refine slN_hi 2 ?_ ?_ ?_); (focus (first | rfl)); (focus ((try simp only [LN] at *) <;> omega)))
   | ((with_reducible refine wr_mk ((N : Nat) : Int) hNw ?_))
   | with_reducible refine wr_i64 (by first | omega | (simp only [LN] at *; omega)) ?_
   | ((first | (with_reducible refine Z.callZ_mk ?_ (cn0) ?_)); (focus ((repeat' (first | exact trivial | exact rfl | apply And.intro)); done)))
   | fail)
  all_goals (try (conv => whnf))
  all_goals try first | (show Nat.ble _ _ = true; rfl) | (exfalso; rename_i hz; cases hz; done) | (exfalso; (try simp only [LN] at *) <;> omega)
  all_goals first
   | ((first | (with_reducible apply Z.retF2)); (focus rfl); (repeat' (first | exact trivial | (with_reducible apply Z.frz_one) | (with_reducible apply Z.frz_agg) | (with_reducible apply Z.fq_int) | (exact Z.frz_nil) | exact rfl | apply And.intro)); (all_goals (try exact (fun _ => none))); all_goals (first | (simp; done)))
   | fail
 rw [hdf (by omega)]
 clear hds hdf
 repeat' ((conv => whnf); first
  | with_reducible first | refine spB_no (by decide) ?_
  | (with_reducible refine spB_dec ?_ ?_ <;> intro _ <;> (try (exfalso; (first | (simp only [LN] at *; omega)))))
  | ((with_reducible refine slN_hi 2 ?_ ?_ ?_); (focus (first | rfl)); (focus ((try simp only [LN] at *) <;> omega)))
  | ((with_reducible refine wr_mk ((N : Nat) : Int) hNw ?_))
  | with_reducible refine wr_i64 (by first | omega | (simp only [LN] at *; omega)) ?_
  | ((first | (with_reducible refine Z.callZ_mk ?_ (cn0) ?_)); (focus ((repeat' (first | exact trivial | exact rfl | apply And.intro)); done)))
  | fail)
 all_goals (try (conv => whnf))
 all_goals try first | (show Nat.ble _ _ = true; rfl) | (exfalso; rename_i hz; cases hz; done) | (exfalso; (try simp only [LN] at *) <;> omega)
 refine Z.loopK tabOk (fun zq : Nat => [(28, .val (.int .i64 (zq : Int)))]) (fun zq : Nat => ([(1, some (Z.Ob.b ⟨[[.gsl 2 ((rowsB b zq).map cK)]], 1, 30, true⟩)), (2, (gB 4 55 ((rowsB b zq).map cK)).map Z.Ob.b)] : Z.Kr)) (fun zq => zq ≤ N) (fun zq => N - zq) 0 3 [(0, _), (2, _), (4, _), (5, _), (27, _)] ⟨rfl, rfl, rfl, rfl, rfl, trivial⟩ [(0, some _)] ⟨rfl, trivial⟩ ?_ ?_ rfl rfl (Nat.zero_le _) ?_
 ·repeat' (first | exact trivial | apply And.intro | exact ⟨_, rfl, Z.Imp.refl _⟩)
 ·repeat' (first | exact trivial | (intro b hb; cases hb; done) | (intro b hb; cases hb; refine ⟨_, rfl, ⟨rfl, rfl, rfl⟩, ?_⟩; (repeat' (first | exact trivial | apply And.intro | exact Z.Imp.nilg _)); done) | apply And.intro)
 rintro i HINV
 (try dsimp only at HINV); (try dsimp only)
 by_cases hi : i < N
 ·have hbl : 20 + 18 * i ≤ b.length := by omega
  have hrs := @rowsB_succ b i
  obtain ⟨D, hD⟩ : ∃ D, D = b.drop (2 + 18 * i) := ⟨_, rfl⟩
  have hDl : 18 ≤ D.length := by rw [hD, List.length_drop]; omega
  have hDB : isB D := by rw [hD]; exact isB_drop hB
  have hX : List.take (20 + 18 * i - (2 + 18 * i)) (List.drop (2 + 18 * i) (List.map eB b)) = (D.take 18).map eB := by rw [show 20 + 18 * i - (2 + 18 * i) = 18 by omega, hD, List.map_take, List.map_drop]
  rw [← hD] at hrs
  match D, hDl, hDB with
  | t :: w :: r, hDl, hDB =>
   have e1 : rowD (t :: w :: r) = ⟨t, w, IntKind.i64.wrap (numR (r.take 8)), IntKind.i64.wrap (numR ((r.drop 8).take 8))⟩ := rfl
   have hr1 : (r.take 8).map eB = List.take (10 - 2) (List.drop 2 (List.take (20 + 18 * i - (2 + 18 * i)) (List.drop (2 + 18 * i) (List.map eB b)))) := by rw [hX]; simp [List.map_take, List.take_take]
   have hr2 : ((r.drop 8).take 8).map eB = List.take (18 - 10) (List.drop 10 (List.take (20 + 18 * i - (2 + 18 * i)) (List.drop (2 + 18 * i) (List.map eB b)))) := by rw [hX]; simp only [List.map_take, List.map_drop, List.map_cons]; rw [List.drop_take]; simp [List.take_take]
   have hrl := @rowsB_len b i
   have hBr : isB r := fun x hx => hDB x (by simp [hx])
   have ht := hDB t (by simp)
   have hw := hDB w (by simp)
   have cn1 := num_con (r.take 8) (by rw [List.length_take]; omega) (isB_take hBr)
   have cn2 := num_con ((r.drop 8).take 8) (by rw [List.length_take]; omega) (isB_take (isB_drop hBr))
   rw [hr1] at cn1
   rw [hr2] at cn2
   repeat' ((conv => whnf); first
    | (with_reducible refine spB_dec ?_ ?_ <;> intro _ <;> (try (exfalso; (first | omega))))
    | ((with_reducible refine slN_lh (2 + 18 * i) (20 + 18 * i) ?_ ?_ ?_ ?_ ?_); (iterate 4 (focus ((try simp only [LN] at *) <;> omega))))
    | ((with_reducible refine rowN_mk (eB t) ?_ ?_); (focus (first | exact (congrArg (fun q : List (List RT) => q[0]?) hX).trans rfl)))
    | ((with_reducible refine rowN_mk (eB w) ?_ ?_); (focus (first | exact (congrArg (fun q : List (List RT) => q[1]?) hX).trans rfl)))
    | ((with_reducible refine slN_lh (2) (10) ?_ ?_ ?_ ?_ ?_); (iterate 4 (focus ((try simp only [LN] at *) <;> omega))))
    | ((with_reducible refine slN_lh (10) (18) ?_ ?_ ?_ ?_ ?_); (iterate 4 (focus ((try simp only [LN] at *) <;> omega))))
    | ((with_reducible refine wr_mk (IntKind.i64.wrap (numR (r.take 8))) rfl ?_))
    | ((with_reducible refine wr_mk (IntKind.i64.wrap (numR ((r.drop 8).take 8))) rfl ?_))
    | ((with_reducible refine posE_pos ?_ ?_); (focus ((try simp only [LN] at *) <;> omega)))
    | ((with_reducible apply ixN_litp); (focus rfl); (focus ((try simp only [LN] at *) <;> omega)))
    | ((with_reducible refine apdN.mk ?_ ?_ ?_ ?_ ?_ ?_); (focus (first | rfl)); (focus (first | exact one_all (by rfl))); (focus ((try simp only [LN] at *) <;> omega)); (focus ((try simp only [LN] at *) <;> omega)); (focus ((try simp only [LN] at *) <;> omega)))
    | with_reducible refine wr_i64 (by first | omega | (simp only [LN] at *; omega)) ?_
    | ((first | (with_reducible refine Z.conZ_mz ?_ (cn1) ?_)); (focus ((repeat' (first | exact trivial | exact rfl | apply And.intro)); done)))
    | ((first | (with_reducible refine Z.conZ_mz ?_ (cn2) ?_)); (focus ((repeat' (first | exact trivial | exact rfl | apply And.intro)); done)))
    | ((with_reducible refine eqN_mk2 ?_ ?_); (focus (exact Z.kb_some rfl)))
    | with_reducible first | refine Z.drawZ_rule tabOk mixOk ?_ | refine Z.apZ_mk (by kernel_rfl) ?_
    | fail)
   all_goals (try (conv => whnf))
   all_goals try first | (show Nat.ble _ _ = true; rfl) | (exfalso; rename_i hz; cases hz; done) | (exfalso; (try simp only [LN] at *) <;> omega)
   rw [e1] at hrs
   all_goals first
    | ((refine Z.rndK ((i + 1)) (fun s => [0, 1, s.idIn 1 0]) rfl rfl rfl rfl ?_ ?_ ?_ ?_); (focus (repeat' (first | exact trivial | exact rfl | apply And.intro))); (focus (repeat' (first | exact trivial | (intro b9 hb9; cases hb9; rw [hrs, List.map_append]; rfl) | exact Z.gB_sub' rfl (by rw [hrs, List.map_append]; rfl) (ren_map fun _ => rfl) | (intro b hb; cases hb; rfl) | apply And.intro))); (focus (((try dsimp only); omega))); ((try dsimp only); omega))
    | fail
 have hil : i = N := by omega
 subst hil
 have cc := rcheck_con (rowsB b i) (by rw [rowsB_len]; omega)
 have hrl := @rowsB_len b i
 generalize rowsB b i = L at *
 by_cases h1 : b.length = 2 + 18 * i
 all_goals cases h3 : tabR L
 all_goals rw [h3] at cc
 all_goals simp only [h1, true_and, false_and, if_true, if_false, Bool.false_eq_true]
 all_goals (
  repeat' ((conv => whnf); first
   | with_reducible first | refine spB_t ?_
   | ((with_reducible apply spB_cong); (focus (simp only [splQ, Int.reduceBEq, Int.reduceBNe]; rfl)))
   | with_reducible first | refine spB_no (by decide) ?_
   | (with_reducible refine spB_dec ?_ ?_ <;> intro _ <;> (try (exfalso; (first | omega))))
   | (with_reducible refine spB_bne ?_ ?_ <;> intro _ <;> (try (exfalso; (first | (simp only [LN] at *; omega)))))
   | with_reducible refine wr_i64 (by first | omega | (simp only [LN] at *; omega)) ?_
   | ((first | (with_reducible refine Z.callZ_mk ?_ (cc) ?_)); (focus ((repeat' (first | exact trivial | exact Z.low_gslm (by first | rfl | exact Z.kb_some rfl) (fun _ => rfl) | apply And.intro)); done)))
   | fail)
  all_goals (try (conv => whnf)))
 all_goals try first | (show Nat.ble _ _ = true; rfl) | (exfalso; rename_i hz; cases hz; done) | (exfalso; (try simp only [LN] at *) <;> omega)
 all_goals first
  | ((first | (with_reducible apply Z.retF2)); (focus rfl); (repeat' (first | exact trivial | (with_reducible apply Z.frz_one) | (with_reducible apply Z.frz_agg) | (with_reducible apply Z.fq_int) | (exact Z.frz_nil) | ((with_reducible apply Z.fq_gsl); (focus (first | exact Z.isB_map _)); (focus (exact fun _ => rfl))) | exact rfl | apply And.intro)); (all_goals (try exact (fun _ => none))); all_goals (first | (simp; done)))
  | fail
end Tab
end Go.Proofs.YtopieffkpdlpbaaGreat
namespace Go.Proofs.YtopieffkpdlpbaaGreat
open Go Go.RowKit Wx
set_option maxHeartbeats 4000000
theorem rown_0_0_1 : Con Tryz.prog 25 [.one (.v (.int .i64 0)), .one (.v (.int .i64 0)), .one (.v (.int .i64 1))] (fun rx rK rt => rx = .val (.bool true) ∧ rK = [] ∧ rt = 0) := Y.con_eval ftabOk tabOk mixOk 40 12 (by kernel_rfl) (by rfl) (by kernel_rfl)
theorem rown_0_0_2 : Con Tryz.prog 25 [.one (.v (.int .i64 0)), .one (.v (.int .i64 0)), .one (.v (.int .i64 2))] (fun rx rK rt => rx = .val (.bool true) ∧ rK = [] ∧ rt = 0) := Y.con_eval ftabOk tabOk mixOk 40 12 (by kernel_rfl) (by rfl) (by kernel_rfl)
theorem rown_0_1_2 : Con Tryz.prog 25 [.one (.v (.int .i64 0)), .one (.v (.int .i64 1)), .one (.v (.int .i64 2))] (fun rx rK rt => rx = .val (.bool false) ∧ rK = [] ∧ rt = 0) := Y.con_eval ftabOk tabOk mixOk 40 12 (by kernel_rfl) (by rfl) (by kernel_rfl)
theorem rown_0_0_3 : Con Tryz.prog 25 [.one (.v (.int .i64 0)), .one (.v (.int .i64 0)), .one (.v (.int .i64 3))] (fun rx rK rt => rx = .val (.bool true) ∧ rK = [] ∧ rt = 0) := Y.con_eval ftabOk tabOk mixOk 40 12 (by kernel_rfl) (by rfl) (by kernel_rfl)
theorem rown_0_1_3 : Con Tryz.prog 25 [.one (.v (.int .i64 0)), .one (.v (.int .i64 1)), .one (.v (.int .i64 3))] (fun rx rK rt => rx = .val (.bool false) ∧ rK = [] ∧ rt = 0) := Y.con_eval ftabOk tabOk mixOk 40 12 (by kernel_rfl) (by rfl) (by kernel_rfl)
theorem rown_0_2_3 : Con Tryz.prog 25 [.one (.v (.int .i64 0)), .one (.v (.int .i64 2)), .one (.v (.int .i64 3))] (fun rx rK rt => rx = .val (.bool false) ∧ rK = [] ∧ rt = 0) := Y.con_eval ftabOk tabOk mixOk 40 12 (by kernel_rfl) (by rfl) (by kernel_rfl)
theorem rown_1_0_1 : Con Tryz.prog 25 [.one (.v (.int .i64 1)), .one (.v (.int .i64 0)), .one (.v (.int .i64 1))] (fun rx rK rt => rx = .val (.bool true) ∧ rK = [] ∧ rt = 0) := Y.con_eval ftabOk tabOk mixOk 40 12 (by kernel_rfl) (by rfl) (by kernel_rfl)
theorem rown_1_0_2 : Con Tryz.prog 25 [.one (.v (.int .i64 1)), .one (.v (.int .i64 0)), .one (.v (.int .i64 2))] (fun rx rK rt => rx = .val (.bool true) ∧ rK = [] ∧ rt = 0) := Y.con_eval ftabOk tabOk mixOk 40 12 (by kernel_rfl) (by rfl) (by kernel_rfl)
theorem rown_1_1_2 : Con Tryz.prog 25 [.one (.v (.int .i64 1)), .one (.v (.int .i64 1)), .one (.v (.int .i64 2))] (fun rx rK rt => rx = .val (.bool false) ∧ rK = [] ∧ rt = 0) := Y.con_eval ftabOk tabOk mixOk 40 12 (by kernel_rfl) (by rfl) (by kernel_rfl)
theorem rown_1_0_3 : Con Tryz.prog 25 [.one (.v (.int .i64 1)), .one (.v (.int .i64 0)), .one (.v (.int .i64 3))] (fun rx rK rt => rx = .val (.bool true) ∧ rK = [] ∧ rt = 0) := Y.con_eval ftabOk tabOk mixOk 40 12 (by kernel_rfl) (by rfl) (by kernel_rfl)
theorem rown_1_1_3 : Con Tryz.prog 25 [.one (.v (.int .i64 1)), .one (.v (.int .i64 1)), .one (.v (.int .i64 3))] (fun rx rK rt => rx = .val (.bool false) ∧ rK = [] ∧ rt = 0) := Y.con_eval ftabOk tabOk mixOk 40 12 (by kernel_rfl) (by rfl) (by kernel_rfl)
theorem rown_1_2_3 : Con Tryz.prog 25 [.one (.v (.int .i64 1)), .one (.v (.int .i64 2)), .one (.v (.int .i64 3))] (fun rx rK rt => rx = .val (.bool false) ∧ rK = [] ∧ rt = 0) := Y.con_eval ftabOk tabOk mixOk 40 12 (by kernel_rfl) (by rfl) (by kernel_rfl)
theorem rown_2_0_1 : Con Tryz.prog 25 [.one (.v (.int .i64 2)), .one (.v (.int .i64 0)), .one (.v (.int .i64 1))] (fun rx rK rt => rx = .val (.bool true) ∧ rK = [] ∧ rt = 0) := Y.con_eval ftabOk tabOk mixOk 40 12 (by kernel_rfl) (by rfl) (by kernel_rfl)
theorem rown_2_0_2 : Con Tryz.prog 25 [.one (.v (.int .i64 2)), .one (.v (.int .i64 0)), .one (.v (.int .i64 2))] (fun rx rK rt => rx = .val (.bool true) ∧ rK = [] ∧ rt = 0) := Y.con_eval ftabOk tabOk mixOk 40 12 (by kernel_rfl) (by rfl) (by kernel_rfl)
theorem rown_2_1_2 : Con Tryz.prog 25 [.one (.v (.int .i64 2)), .one (.v (.int .i64 1)), .one (.v (.int .i64 2))] (fun rx rK rt => rx = .val (.bool false) ∧ rK = [] ∧ rt = 0) := Y.con_eval ftabOk tabOk mixOk 40 12 (by kernel_rfl) (by rfl) (by kernel_rfl)
theorem rown_2_0_3 : Con Tryz.prog 25 [.one (.v (.int .i64 2)), .one (.v (.int .i64 0)), .one (.v (.int .i64 3))] (fun rx rK rt => rx = .val (.bool true) ∧ rK = [] ∧ rt = 0) := Y.con_eval ftabOk tabOk mixOk 40 12 (by kernel_rfl) (by rfl) (by kernel_rfl)
theorem rown_2_1_3 : Con Tryz.prog 25 [.one (.v (.int .i64 2)), .one (.v (.int .i64 1)), .one (.v (.int .i64 3))] (fun rx rK rt => rx = .val (.bool false) ∧ rK = [] ∧ rt = 0) := Y.con_eval ftabOk tabOk mixOk 40 12 (by kernel_rfl) (by rfl) (by kernel_rfl)
theorem rown_2_2_3 : Con Tryz.prog 25 [.one (.v (.int .i64 2)), .one (.v (.int .i64 2)), .one (.v (.int .i64 3))] (fun rx rK rt => rx = .val (.bool false) ∧ rK = [] ∧ rt = 0) := Y.con_eval ftabOk tabOk mixOk 40 12 (by kernel_rfl) (by rfl) (by kernel_rfl)
theorem rown_3_0_1 : Con Tryz.prog 25 [.one (.v (.int .i64 3)), .one (.v (.int .i64 0)), .one (.v (.int .i64 1))] (fun rx rK rt => rx = .val (.bool true) ∧ rK = [] ∧ rt = 0) := Y.con_eval ftabOk tabOk mixOk 40 12 (by kernel_rfl) (by rfl) (by kernel_rfl)
theorem rown_3_0_2 : Con Tryz.prog 25 [.one (.v (.int .i64 3)), .one (.v (.int .i64 0)), .one (.v (.int .i64 2))] (fun rx rK rt => rx = .val (.bool true) ∧ rK = [] ∧ rt = 0) := Y.con_eval ftabOk tabOk mixOk 40 12 (by kernel_rfl) (by rfl) (by kernel_rfl)
theorem rown_3_1_2 : Con Tryz.prog 25 [.one (.v (.int .i64 3)), .one (.v (.int .i64 1)), .one (.v (.int .i64 2))] (fun rx rK rt => rx = .val (.bool false) ∧ rK = [] ∧ rt = 0) := Y.con_eval ftabOk tabOk mixOk 40 12 (by kernel_rfl) (by rfl) (by kernel_rfl)
theorem rown_3_0_3 : Con Tryz.prog 25 [.one (.v (.int .i64 3)), .one (.v (.int .i64 0)), .one (.v (.int .i64 3))] (fun rx rK rt => rx = .val (.bool false) ∧ rK = [] ∧ rt = 0) := Y.con_eval ftabOk tabOk mixOk 40 12 (by kernel_rfl) (by rfl) (by kernel_rfl)
theorem rown_3_1_3 : Con Tryz.prog 25 [.one (.v (.int .i64 3)), .one (.v (.int .i64 1)), .one (.v (.int .i64 3))] (fun rx rK rt => rx = .val (.bool true) ∧ rK = [] ∧ rt = 0) := Y.con_eval ftabOk tabOk mixOk 40 12 (by kernel_rfl) (by rfl) (by kernel_rfl)
theorem rown_3_2_3 : Con Tryz.prog 25 [.one (.v (.int .i64 3)), .one (.v (.int .i64 2)), .one (.v (.int .i64 3))] (fun rx rK rt => rx = .val (.bool false) ∧ rK = [] ∧ rt = 0) := Y.con_eval ftabOk tabOk mixOk 40 12 (by kernel_rfl) (by rfl) (by kernel_rfl)
theorem rown_4_0_1 : Con Tryz.prog 25 [.one (.v (.int .i64 4)), .one (.v (.int .i64 0)), .one (.v (.int .i64 1))] (fun rx rK rt => rx = .val (.bool true) ∧ rK = [] ∧ rt = 0) := Y.con_eval ftabOk tabOk mixOk 40 12 (by kernel_rfl) (by rfl) (by kernel_rfl)
theorem rown_4_0_2 : Con Tryz.prog 25 [.one (.v (.int .i64 4)), .one (.v (.int .i64 0)), .one (.v (.int .i64 2))] (fun rx rK rt => rx = .val (.bool false) ∧ rK = [] ∧ rt = 0) := Y.con_eval ftabOk tabOk mixOk 40 12 (by kernel_rfl) (by rfl) (by kernel_rfl)
theorem rown_4_1_2 : Con Tryz.prog 25 [.one (.v (.int .i64 4)), .one (.v (.int .i64 1)), .one (.v (.int .i64 2))] (fun rx rK rt => rx = .val (.bool true) ∧ rK = [] ∧ rt = 0) := Y.con_eval ftabOk tabOk mixOk 40 12 (by kernel_rfl) (by rfl) (by kernel_rfl)
theorem rown_4_0_3 : Con Tryz.prog 25 [.one (.v (.int .i64 4)), .one (.v (.int .i64 0)), .one (.v (.int .i64 3))] (fun rx rK rt => rx = .val (.bool false) ∧ rK = [] ∧ rt = 0) := Y.con_eval ftabOk tabOk mixOk 40 12 (by kernel_rfl) (by rfl) (by kernel_rfl)
theorem rown_4_1_3 : Con Tryz.prog 25 [.one (.v (.int .i64 4)), .one (.v (.int .i64 1)), .one (.v (.int .i64 3))] (fun rx rK rt => rx = .val (.bool true) ∧ rK = [] ∧ rt = 0) := Y.con_eval ftabOk tabOk mixOk 40 12 (by kernel_rfl) (by rfl) (by kernel_rfl)
theorem rown_4_2_3 : Con Tryz.prog 25 [.one (.v (.int .i64 4)), .one (.v (.int .i64 2)), .one (.v (.int .i64 3))] (fun rx rK rt => rx = .val (.bool false) ∧ rK = [] ∧ rt = 0) := Y.con_eval ftabOk tabOk mixOk 40 12 (by kernel_rfl) (by rfl) (by kernel_rfl)
theorem rown_5_0_1 : Con Tryz.prog 25 [.one (.v (.int .i64 5)), .one (.v (.int .i64 0)), .one (.v (.int .i64 1))] (fun rx rK rt => rx = .val (.bool true) ∧ rK = [] ∧ rt = 0) := Y.con_eval ftabOk tabOk mixOk 40 12 (by kernel_rfl) (by rfl) (by kernel_rfl)
theorem rown_5_0_2 : Con Tryz.prog 25 [.one (.v (.int .i64 5)), .one (.v (.int .i64 0)), .one (.v (.int .i64 2))] (fun rx rK rt => rx = .val (.bool false) ∧ rK = [] ∧ rt = 0) := Y.con_eval ftabOk tabOk mixOk 40 12 (by kernel_rfl) (by rfl) (by kernel_rfl)
theorem rown_5_1_2 : Con Tryz.prog 25 [.one (.v (.int .i64 5)), .one (.v (.int .i64 1)), .one (.v (.int .i64 2))] (fun rx rK rt => rx = .val (.bool true) ∧ rK = [] ∧ rt = 0) := Y.con_eval ftabOk tabOk mixOk 40 12 (by kernel_rfl) (by rfl) (by kernel_rfl)
theorem rown_5_0_3 : Con Tryz.prog 25 [.one (.v (.int .i64 5)), .one (.v (.int .i64 0)), .one (.v (.int .i64 3))] (fun rx rK rt => rx = .val (.bool false) ∧ rK = [] ∧ rt = 0) := Y.con_eval ftabOk tabOk mixOk 40 12 (by kernel_rfl) (by rfl) (by kernel_rfl)
theorem rown_5_1_3 : Con Tryz.prog 25 [.one (.v (.int .i64 5)), .one (.v (.int .i64 1)), .one (.v (.int .i64 3))] (fun rx rK rt => rx = .val (.bool true) ∧ rK = [] ∧ rt = 0) := Y.con_eval ftabOk tabOk mixOk 40 12 (by kernel_rfl) (by rfl) (by kernel_rfl)
theorem rown_5_2_3 : Con Tryz.prog 25 [.one (.v (.int .i64 5)), .one (.v (.int .i64 2)), .one (.v (.int .i64 3))] (fun rx rK rt => rx = .val (.bool false) ∧ rK = [] ∧ rt = 0) := Y.con_eval ftabOk tabOk mixOk 40 12 (by kernel_rfl) (by rfl) (by kernel_rfl)
theorem rown_6_0_1 : Con Tryz.prog 25 [.one (.v (.int .i64 6)), .one (.v (.int .i64 0)), .one (.v (.int .i64 1))] (fun rx rK rt => rx = .val (.bool true) ∧ rK = [] ∧ rt = 0) := Y.con_eval ftabOk tabOk mixOk 40 12 (by kernel_rfl) (by rfl) (by kernel_rfl)
theorem rown_6_0_2 : Con Tryz.prog 25 [.one (.v (.int .i64 6)), .one (.v (.int .i64 0)), .one (.v (.int .i64 2))] (fun rx rK rt => rx = .val (.bool false) ∧ rK = [] ∧ rt = 0) := Y.con_eval ftabOk tabOk mixOk 40 12 (by kernel_rfl) (by rfl) (by kernel_rfl)
theorem rown_6_1_2 : Con Tryz.prog 25 [.one (.v (.int .i64 6)), .one (.v (.int .i64 1)), .one (.v (.int .i64 2))] (fun rx rK rt => rx = .val (.bool true) ∧ rK = [] ∧ rt = 0) := Y.con_eval ftabOk tabOk mixOk 40 12 (by kernel_rfl) (by rfl) (by kernel_rfl)
theorem rown_6_0_3 : Con Tryz.prog 25 [.one (.v (.int .i64 6)), .one (.v (.int .i64 0)), .one (.v (.int .i64 3))] (fun rx rK rt => rx = .val (.bool false) ∧ rK = [] ∧ rt = 0) := Y.con_eval ftabOk tabOk mixOk 40 12 (by kernel_rfl) (by rfl) (by kernel_rfl)
theorem rown_6_1_3 : Con Tryz.prog 25 [.one (.v (.int .i64 6)), .one (.v (.int .i64 1)), .one (.v (.int .i64 3))] (fun rx rK rt => rx = .val (.bool false) ∧ rK = [] ∧ rt = 0) := Y.con_eval ftabOk tabOk mixOk 40 12 (by kernel_rfl) (by rfl) (by kernel_rfl)
theorem rown_6_2_3 : Con Tryz.prog 25 [.one (.v (.int .i64 6)), .one (.v (.int .i64 2)), .one (.v (.int .i64 3))] (fun rx rK rt => rx = .val (.bool true) ∧ rK = [] ∧ rt = 0) := Y.con_eval ftabOk tabOk mixOk 40 12 (by kernel_rfl) (by rfl) (by kernel_rfl)
theorem rown_7_0_1 : Con Tryz.prog 25 [.one (.v (.int .i64 7)), .one (.v (.int .i64 0)), .one (.v (.int .i64 1))] (fun rx rK rt => rx = .val (.bool true) ∧ rK = [] ∧ rt = 0) := Y.con_eval ftabOk tabOk mixOk 40 12 (by kernel_rfl) (by rfl) (by kernel_rfl)
theorem rown_7_0_2 : Con Tryz.prog 25 [.one (.v (.int .i64 7)), .one (.v (.int .i64 0)), .one (.v (.int .i64 2))] (fun rx rK rt => rx = .val (.bool false) ∧ rK = [] ∧ rt = 0) := Y.con_eval ftabOk tabOk mixOk 40 12 (by kernel_rfl) (by rfl) (by kernel_rfl)
theorem rown_7_1_2 : Con Tryz.prog 25 [.one (.v (.int .i64 7)), .one (.v (.int .i64 1)), .one (.v (.int .i64 2))] (fun rx rK rt => rx = .val (.bool true) ∧ rK = [] ∧ rt = 0) := Y.con_eval ftabOk tabOk mixOk 40 12 (by kernel_rfl) (by rfl) (by kernel_rfl)
theorem rown_7_0_3 : Con Tryz.prog 25 [.one (.v (.int .i64 7)), .one (.v (.int .i64 0)), .one (.v (.int .i64 3))] (fun rx rK rt => rx = .val (.bool false) ∧ rK = [] ∧ rt = 0) := Y.con_eval ftabOk tabOk mixOk 40 12 (by kernel_rfl) (by rfl) (by kernel_rfl)
theorem rown_7_1_3 : Con Tryz.prog 25 [.one (.v (.int .i64 7)), .one (.v (.int .i64 1)), .one (.v (.int .i64 3))] (fun rx rK rt => rx = .val (.bool false) ∧ rK = [] ∧ rt = 0) := Y.con_eval ftabOk tabOk mixOk 40 12 (by kernel_rfl) (by rfl) (by kernel_rfl)
theorem rown_7_2_3 : Con Tryz.prog 25 [.one (.v (.int .i64 7)), .one (.v (.int .i64 2)), .one (.v (.int .i64 3))] (fun rx rK rt => rx = .val (.bool true) ∧ rK = [] ∧ rt = 0) := Y.con_eval ftabOk tabOk mixOk 40 12 (by kernel_rfl) (by rfl) (by kernel_rfl)
theorem rowned_ok (g i w : Int) (hg : 0 ≤ g ∧ g < 8) (h : Tab.okS i w) : Con Tryz.prog 25 [.one (.v (.int .i64 g)), .one (.v (.int .i64 i)), .one (.v (.int .i64 w))] (fun rx rK rt => rx = .val (.bool (decide (Tab.ownG g w = i))) ∧ rK = [] ∧ rt = 0) := by
 have h1 : g = 0 ∨ g = 1 ∨ g = 2 ∨ g = 3 ∨ g = 4 ∨ g = 5 ∨ g = 6 ∨ g = 7 := by omega
 have h2 : (i = 0 ∧ w = 1) ∨ (i = 0 ∧ w = 2) ∨ (i = 1 ∧ w = 2) ∨ (i = 0 ∧ w = 3) ∨ (i = 1 ∧ w = 3) ∨ (i = 2 ∧ w = 3) := by unfold Tab.okS at h; omega
 rcases h1 with rfl | rfl | rfl | rfl | rfl | rfl | rfl | rfl <;> rcases h2 with ⟨rfl, rfl⟩ | ⟨rfl, rfl⟩ | ⟨rfl, rfl⟩ | ⟨rfl, rfl⟩ | ⟨rfl, rfl⟩ | ⟨rfl, rfl⟩
 ·exact rown_0_0_1
 ·exact rown_0_0_2
 ·exact rown_0_1_2
 ·exact rown_0_0_3
 ·exact rown_0_1_3
 ·exact rown_0_2_3
 ·exact rown_1_0_1
 ·exact rown_1_0_2
 ·exact rown_1_1_2
 ·exact rown_1_0_3
 ·exact rown_1_1_3
 ·exact rown_1_2_3
 ·exact rown_2_0_1
 ·exact rown_2_0_2
 ·exact rown_2_1_2
 ·exact rown_2_0_3
 ·exact rown_2_1_3
 ·exact rown_2_2_3
 ·exact rown_3_0_1
 ·exact rown_3_0_2
 ·exact rown_3_1_2
 ·exact rown_3_0_3
 ·exact rown_3_1_3
 ·exact rown_3_2_3
 ·exact rown_4_0_1
 ·exact rown_4_0_2
 ·exact rown_4_1_2
 ·exact rown_4_0_3
 ·exact rown_4_1_3
 ·exact rown_4_2_3
 ·exact rown_5_0_1
 ·exact rown_5_0_2
 ·exact rown_5_1_2
 ·exact rown_5_0_3
 ·exact rown_5_1_3
 ·exact rown_5_2_3
 ·exact rown_6_0_1
 ·exact rown_6_0_2
 ·exact rown_6_1_2
 ·exact rown_6_0_3
 ·exact rown_6_1_3
 ·exact rown_6_2_3
 ·exact rown_7_0_1
 ·exact rown_7_0_2
 ·exact rown_7_1_2
 ·exact rown_7_0_3
 ·exact rown_7_1_3
 ·exact rown_7_2_3
end Go.Proofs.YtopieffkpdlpbaaGreat
namespace Go.Proofs.YtopieffkpdlpbaaGreat
open Go Go.RowKit Wx
set_option maxHeartbeats 4000000
theorem rnamesok_con (l : List Nm) (hl : l.length ≤ 9223372036854775807) : Con Tryz.prog 24 [.one (.ro false 3 (l.map eN))] (fun rx rK rt => rx = .val (.bool (namesR l)) ∧ rK = [] ∧ rt = 0) := by
 refine Z.con_ofF tabOk 33 Tryz.f24 _ Tryz.func24 (by kernel_rfl) rfl rfl rfl rfl ?_
 unfold namesR
 repeat' ((conv => whnf); first
  | with_reducible first | refine spB_t ?_
  | fail)
 all_goals (try (conv => whnf))
 all_goals try first | (show Nat.ble _ _ = true; rfl) | (exfalso; rename_i hz; cases hz; done) | (exfalso; (try simp only [LN] at *) <;> omega)
 refine Z.loopK tabOk (fun zq : Nat => [(7, .val (.int .i64 (zq : Int)))]) (fun zq : Nat => ([] : Z.Kr)) (fun zq => zq ≤ l.length ∧ nOk none l = nOk (nPrev l zq) (l.drop zq)) (fun zq => l.length - zq) 0 0 [(0, _), (5, _), (6, _)] ⟨rfl, rfl, rfl, trivial⟩ [] trivial ?_ ?_ rfl rfl ⟨Nat.zero_le _, rfl⟩ ?_
 ·repeat' (first | exact trivial | apply And.intro | exact ⟨_, rfl, Z.Imp.refl _⟩)
 ·repeat' (first | exact trivial)
 rintro i HINV
 (try dsimp only at HINV); (try dsimp only)
 obtain ⟨HI, HT⟩ := HINV
 by_cases hi : i < l.length
 ·obtain ⟨x, hx⟩ := getElem?_some' (xs := l) (i := i) hi
  rw [nOk_at hx] at HT
  have ck := rname_con x
  cases hk : nmOk x
  ·rw [hk] at ck HT
   simp only [Bool.false_and] at HT
   try simp only [cond_false] at ck
   rw [HT, Bool.and_false]
   repeat' ((conv => whnf); first
    | with_reducible first | refine spB_t ?_
    | ((with_reducible apply spB_cong); (focus (simp only [splQ, Int.reduceBEq, Int.reduceBNe]; rfl)))
    | (with_reducible refine spB_dec ?_ ?_ <;> intro _ <;> (try (exfalso; first | contradiction | omega | (rename_i hz; refine hz ?_; simp; done) | (rename_i hz; simp at hz; done) | (simp only [LN] at *; omega))))
    | with_reducible first | refine Z.rowN_known hx ?_
    | ((with_reducible apply ixN_litp); (focus rfl); (focus ((try simp only [LN] at *) <;> omega)))
    | ((first | (with_reducible refine Z.conZ_mz ?_ (ck) ?_)); (focus ((repeat' (first | exact trivial | exact rfl | apply And.intro)); done)))
    | with_reducible first | refine Z.drawZ_rule tabOk mixOk ?_ | refine Z.apZ_mk (by kernel_rfl) ?_
    | fail)
   all_goals (try (conv => whnf))
   all_goals try first | (show Nat.ble _ _ = true; rfl) | (exfalso; rename_i hz; cases hz; done) | (exfalso; (try simp only [LN] at *) <;> omega)
   all_goals first
    | ((first | (with_reducible apply Z.retF1)); (focus rfl); (repeat' (first | exact trivial | (with_reducible apply Z.frz_one) | (with_reducible apply Z.fq_bool) | exact rfl | apply And.intro)); (all_goals (try exact (fun _ => none))); all_goals (first | (simp; done)))
    | fail
  rw [hk] at ck HT
  simp only [Bool.true_and] at HT
  try simp only [cond_true] at ck
  rcases i with _ | j
  ·have HT2 : nOk none l = nOk (nPrev l 1) (l.drop 1) := by rw [HT]; rfl
   repeat' ((conv => whnf); first
    | ((with_reducible apply spB_cong); (focus (simp only [splQ, Int.reduceBEq, Int.reduceBNe]; rfl)))
    | with_reducible first | refine spB_no (by decide) ?_
    | (with_reducible refine spB_dec ?_ ?_ <;> intro _ <;> (try (exfalso; first | contradiction | omega | (rename_i hz; refine hz ?_; simp; done) | (rename_i hz; simp at hz; done) | (simp only [LN] at *; omega))))
    | with_reducible first | refine Z.rowN_known hx ?_
    | ((with_reducible apply ixN_litp); (focus rfl); (focus ((try simp only [LN] at *) <;> omega)))
    | with_reducible refine wr_i64 (by first | omega | (simp only [LN] at *; omega)) ?_
    | ((first | (with_reducible refine Z.conZ_mz ?_ (ck) ?_)); (focus ((repeat' (first | exact trivial | exact rfl | apply And.intro)); done)))
    | with_reducible first | refine Z.drawZ_rule tabOk mixOk ?_ | refine Z.apZ_mk (by kernel_rfl) ?_
    | fail)
   all_goals (try (conv => whnf))
   all_goals try first | (show Nat.ble _ _ = true; rfl) | (exfalso; rename_i hz; cases hz; done) | (exfalso; (try simp only [LN] at *) <;> omega)
   all_goals first
    | ((refine Z.rndK (1) (fun s => []) rfl rfl rfl rfl ?_ ?_ ?_ ?_); (focus (repeat' (first | exact trivial | exact rfl | apply And.intro))); (focus (repeat' (first | exact trivial))); (focus (exact ⟨by (try dsimp only); omega, HT2⟩)); ((try dsimp only); omega))
    | fail
  obtain ⟨q, hq⟩ := getElem?_some' (xs := l) (i := j) (by omega)
  have hpr : nPrev l (j + 1) = some q := hq
  rw [hpr] at HT
  simp only at HT
  have cc := nless_con q x
  by_cases hlt : nLt q x
  ·rw [decide_eq_true hlt] at HT cc
   rw [Bool.true_and] at HT
   repeat' ((conv => whnf); first
    | with_reducible first | refine spB_t ?_
    | ((with_reducible apply spB_cong); (focus (simp only [splQ, Int.reduceBEq, Int.reduceBNe]; rfl)))
    | with_reducible first | refine spB_no (by decide) ?_
    | (with_reducible refine spB_dec ?_ ?_ <;> intro _ <;> (try (exfalso; first | contradiction | omega | (rename_i hz; refine hz ?_; simp; done) | (rename_i hz; simp at hz; done) | (simp only [LN] at *; omega))))
    | with_reducible first | refine Z.rowN_known hx ?_ | refine Z.rowN_known hq ?_
    | ((with_reducible refine ixN_mk (j) ?_ ?_ ?_); (focus (first | ((try simp only [LN] at *) <;> omega))); (focus ((try simp only [LN] at *) <;> omega)))
    | ((with_reducible apply ixN_litp); (focus rfl); (focus ((try simp only [LN] at *) <;> omega)))
    | with_reducible refine wr_i64 (by first | omega | (simp only [LN] at *; omega)) ?_
    | ((first | (with_reducible refine Z.conZ_mz ?_ (ck) ?_) | (with_reducible refine Z.conZ_mz ?_ (cc) ?_)); (focus ((repeat' (first | exact trivial | exact rfl | apply And.intro)); done)))
    | with_reducible first | refine Z.drawZ_rule tabOk mixOk ?_ | refine Z.apZ_mk (by kernel_rfl) ?_
    | fail)
   all_goals (try (conv => whnf))
   all_goals try first | (show Nat.ble _ _ = true; rfl) | (exfalso; rename_i hz; cases hz; done) | (exfalso; (try simp only [LN] at *) <;> omega)
   all_goals first
    | ((refine Z.rndK ((j + 1 + 1)) (fun s => []) rfl rfl rfl rfl ?_ ?_ ?_ ?_); (focus (repeat' (first | exact trivial | exact rfl | apply And.intro))); (focus (repeat' (first | exact trivial))); (focus (exact ⟨by (try dsimp only); omega, HT⟩)); ((try dsimp only); omega))
    | fail
  ·rw [decide_eq_false hlt] at HT cc
   rw [Bool.false_and] at HT
   rw [HT, Bool.and_false]
   repeat' ((conv => whnf); first
    | with_reducible first | refine spB_t ?_
    | ((with_reducible apply spB_cong); (focus (simp only [splQ, Int.reduceBEq, Int.reduceBNe]; rfl)))
    | with_reducible first | refine spB_no (by decide) ?_
    | (with_reducible refine spB_dec ?_ ?_ <;> intro _ <;> (try (exfalso; first | contradiction | omega | (rename_i hz; refine hz ?_; simp; done) | (rename_i hz; simp at hz; done) | (simp only [LN] at *; omega))))
    | with_reducible first | refine Z.rowN_known hx ?_ | refine Z.rowN_known hq ?_
    | ((with_reducible refine ixN_mk (j) ?_ ?_ ?_); (focus (first | ((try simp only [LN] at *) <;> omega))); (focus ((try simp only [LN] at *) <;> omega)))
    | ((with_reducible apply ixN_litp); (focus rfl); (focus ((try simp only [LN] at *) <;> omega)))
    | with_reducible refine wr_i64 (by first | omega | (simp only [LN] at *; omega)) ?_
    | ((first | (with_reducible refine Z.conZ_mz ?_ (ck) ?_) | (with_reducible refine Z.conZ_mz ?_ (cc) ?_)); (focus ((repeat' (first | exact trivial | exact rfl | apply And.intro)); done)))
    | with_reducible first | refine Z.drawZ_rule tabOk mixOk ?_ | refine Z.apZ_mk (by kernel_rfl) ?_
    | fail)
   all_goals (try (conv => whnf))
   all_goals try first | (show Nat.ble _ _ = true; rfl) | (exfalso; rename_i hz; cases hz; done) | (exfalso; (try simp only [LN] at *) <;> omega)
   all_goals first
    | ((first | (with_reducible apply Z.retF1)); (focus rfl); (repeat' (first | exact trivial | (with_reducible apply Z.frz_one) | (with_reducible apply Z.fq_bool) | exact rfl | apply And.intro)); (all_goals (try exact (fun _ => none))); all_goals (first | (simp; done)))
    | fail
 have hil : i = l.length := by omega
 subst hil
 rw [List.drop_length] at HT
 have HT3 : nOk none l = true := by rw [HT]; cases nPrev l l.length <;> rfl
 rw [HT3]
 rw [Bool.and_true]
 by_cases hc : l.length ≤ 24
 ·rw [decide_eq_true hc]
  repeat' ((conv => whnf); first
   | (with_reducible refine spB_dec ?_ ?_ <;> intro _ <;> (try (exfalso; first | contradiction | omega | (rename_i hz; refine hz ?_; simp; done) | (rename_i hz; simp at hz; done) | (simp only [LN] at *; omega))))
   | fail)
  all_goals (try (conv => whnf))
  all_goals try first | (show Nat.ble _ _ = true; rfl) | (exfalso; rename_i hz; cases hz; done) | (exfalso; (try simp only [LN] at *) <;> omega)
  all_goals first
   | ((first | (with_reducible apply Z.retF1)); (focus rfl); (repeat' (first | exact trivial | (with_reducible apply Z.frz_one) | (with_reducible apply Z.fq_bool) | apply And.intro)); (all_goals (try exact (fun _ => none))); all_goals (first | (simp; omega)))
   | fail
 ·rw [decide_eq_false hc]
  repeat' ((conv => whnf); first
   | (with_reducible refine spB_dec ?_ ?_ <;> intro _ <;> (try (exfalso; first | contradiction | omega | (rename_i hz; refine hz ?_; simp; done) | (rename_i hz; simp at hz; done) | (simp only [LN] at *; omega))))
   | fail)
  all_goals (try (conv => whnf))
  all_goals try first | (show Nat.ble _ _ = true; rfl) | (exfalso; rename_i hz; cases hz; done) | (exfalso; (try simp only [LN] at *) <;> omega)
  all_goals first
   | ((first | (with_reducible apply Z.retF1)); (focus rfl); (repeat' (first | exact trivial | (with_reducible apply Z.frz_one) | (with_reducible apply Z.fq_bool) | apply And.intro)); (all_goals (try exact (fun _ => none))); all_goals (first | (simp; omega)))
   | fail
end Go.Proofs.YtopieffkpdlpbaaGreat
namespace Go.Proofs.YtopieffkpdlpbaaGreat
open Go Go.RowKit Wx
set_option maxHeartbeats 4000000
namespace Tab
theorem part_mine {T : List Kc} {i w : Int} (h : tabR T = true) (hs : okS i w) : partL T i w = T.filter fun x => decide (ownG (x.key % 8) w = i) := by
 unfold partL
 refine List.filter_congr fun x hx => ?_
 unfold mineB
 rw [((tab_iff.1 h).1 x hx).1, decide_eq_true hs]
 rfl
end Tab
end Go.Proofs.YtopieffkpdlpbaaGreat
namespace Go.Proofs.YtopieffkpdlpbaaGreat
open Go Go.RowKit Wx
set_option maxHeartbeats 4000000
def okO (O E : List Int) (ix : Int) (k : Nat) : Prop := (0 ≤ O.getD k 0 ∧ O.getD k 0 ≤ 40) ∧ (O.getD k 0 = 0 ∨ E.getD k 0 = ix)
theorem offR_is (x : Sn) : offR x.o0 x.o1 x.o2 x.o3 x.o4 x.o5 x.o6 x.o7 x.ix x.w = decide (((0 ≤ x.o0 ∧ x.o0 ≤ 40) ∧ (0 ≤ x.o1 ∧ x.o1 ≤ 40) ∧ (0 ≤ x.o2 ∧ x.o2 ≤ 40) ∧ (0 ≤ x.o3 ∧ x.o3 ≤ 40) ∧ (0 ≤ x.o4 ∧ x.o4 ≤ 40) ∧ (0 ≤ x.o5 ∧ x.o5 ≤ 40) ∧ (0 ≤ x.o6 ∧ x.o6 ≤ 40) ∧ (0 ≤ x.o7 ∧ x.o7 ≤ 40)) ∧ (x.o0 = 0 ∨ Tab.ownG 0 x.w = x.ix) ∧ (x.o1 = 0 ∨ Tab.ownG 1 x.w = x.ix) ∧ (x.o2 = 0 ∨ Tab.ownG 2 x.w = x.ix) ∧ (x.o3 = 0 ∨ Tab.ownG 3 x.w = x.ix) ∧ (x.o4 = 0 ∨ Tab.ownG 4 x.w = x.ix) ∧ (x.o5 = 0 ∨ Tab.ownG 5 x.w = x.ix) ∧ (x.o6 = 0 ∨ Tab.ownG 6 x.w = x.ix) ∧ (x.o7 = 0 ∨ Tab.ownG 7 x.w = x.ix)) := by
 unfold offR ownO
 rw [Bool.eq_iff_iff]
 simp [List.zipIdx]
theorem rrows_is (x : Sn) (ht : Tab.tabR x.rows = true) (hs : Tab.okS x.ix x.w) : decide (Tab.partL x.rows x.ix x.w = x.rows) = decide (∀ y ∈ x.rows, Tab.ownG (y.key % 8) x.w = x.ix) := by
 rw [Tab.part_mine ht hs]
 refine decide_eq_decide.2 ?_
 rw [List.filter_eq_self]
 simp only [decide_eq_true_eq]
theorem rright_con (x : Sn) (hr : x.rows.length ≤ 1000) (ht : x.txs.length ≤ 9223372036854775807) : Con Tryz.prog 8 [.agg [.v (.int .i64 x.op), .v (.int .i64 x.ix), .v (.int .i64 x.w), .v (.bool x.en), .ro false 4 (x.rows.map Tab.eK), .v (.int .i64 x.o0), .v (.int .i64 x.o1), .v (.int .i64 x.o2), .v (.int .i64 x.o3), .v (.int .i64 x.o4), .v (.int .i64 x.o5), .v (.int .i64 x.o6), .v (.int .i64 x.o7), .ro false 3 (x.txs.map eN)]] (fun rx rK rt => rx = .val (.bool (snapR x)) ∧ rK = [] ∧ rt = 0) := by
 refine Z.con_ofF tabOk 71 Tryz.f8 _ Tryz.func8 (by kernel_rfl) rfl rfl rfl rfl ?_
 have csh := Tab.rshare_con x.ix x.w
 have hrr := rrows_is x
 unfold snapR at *
 by_cases ho : 0 ≤ x.op ∧ x.op < 8
 rotate_left
 ·rw [decide_eq_false (fun h => ho h.1), Bool.false_and]
  repeat' ((conv => whnf); first
   | with_reducible first | refine spB_t ?_
   | ((with_reducible apply spB_cong); (focus (simp only [splQ, Int.reduceBEq, Int.reduceBNe]; rfl)))
   | with_reducible first | refine spB_no (by decide) ?_
   | (with_reducible refine spB_dec ?_ ?_ <;> intro _ <;> (try (exfalso; (first | omega))))
   | with_reducible first | refine Z.callZ_in tabOk 18 Tryz.f22 _ Tryz.func22 (by kernel_rfl) rfl rfl rfl ?_
   | ((with_reducible apply ex_and); exact rfl)
   | fail)
  all_goals (try (conv => whnf))
  all_goals try first | (show Nat.ble _ _ = true; rfl) | (exfalso; rename_i hz; cases hz; done) | (exfalso; (try simp only [LN] at *) <;> omega)
  all_goals first
   | ((first | (with_reducible apply Z.retF1)); (focus rfl); (repeat' (first | exact trivial | (with_reducible apply Z.frz_one) | (with_reducible apply Z.fq_bool) | exact rfl | apply And.intro)); (all_goals (try exact (fun _ => none))); all_goals (first | (simp; done)))
   | fail
 by_cases hs : Tab.okS x.ix x.w
 rotate_left
 ·rw [decide_eq_false hs] at csh
  rw [decide_eq_false (fun h => hs h.2), Bool.false_and]
  repeat' ((conv => whnf); first
   | with_reducible first | refine spB_t ?_
   | ((with_reducible apply spB_cong); (focus (simp only [splQ, Int.reduceBEq, Int.reduceBNe]; rfl)))
   | (with_reducible refine spB_dec ?_ ?_ <;> intro _ <;> (try (exfalso; (first | omega))))
   | with_reducible first | refine Z.callZ_in tabOk 18 Tryz.f22 _ Tryz.func22 (by kernel_rfl) rfl rfl rfl ?_
   | ((first | (with_reducible refine Z.callZ_mk ?_ (csh) ?_)); (focus ((repeat' (first | exact trivial | exact rfl | apply And.intro)); done)))
   | ((with_reducible apply ex_and); exact rfl)
   | fail)
  all_goals (try (conv => whnf))
  all_goals try first | (show Nat.ble _ _ = true; rfl) | (exfalso; rename_i hz; cases hz; done) | (exfalso; (try simp only [LN] at *) <;> omega)
  all_goals first
   | ((first | (with_reducible apply Z.retF1)); (focus rfl); (repeat' (first | exact trivial | (with_reducible apply Z.frz_one) | (with_reducible apply Z.fq_bool) | exact rfl | apply And.intro)); (all_goals (try exact (fun _ => none))); all_goals (first | (simp; done)))
   | fail
 rw [decide_eq_true hs] at csh
 rw [decide_eq_true ⟨ho, hs⟩, Bool.true_and]
 have cc := Tab.rcheck_con x.rows (by omega)
 cases htb : Tab.tabR x.rows
 all_goals rw [htb] at cc
 ·rw [Bool.false_and, Bool.and_false, Bool.and_false]
  repeat' ((conv => whnf); first
   | with_reducible first | refine spB_t ?_
   | ((with_reducible apply spB_cong); (focus (simp only [splQ, Int.reduceBEq, Int.reduceBNe]; rfl)))
   | with_reducible first | refine spB_no (by decide) ?_
   | (with_reducible refine spB_dec ?_ ?_ <;> intro _ <;> (try (exfalso; (first | omega))))
   | with_reducible first | refine Z.callZ_in tabOk 18 Tryz.f22 _ Tryz.func22 (by kernel_rfl) rfl rfl rfl ?_
   | ((first | (with_reducible refine Z.callZ_mk ?_ (cc) ?_) | (with_reducible refine Z.callZ_mk ?_ (csh) ?_)); (focus ((repeat' (first | exact trivial | exact rfl | apply And.intro)); done)))
   | ((with_reducible apply ex_and); exact rfl)
   | fail)
  all_goals (try (conv => whnf))
  all_goals try first | (show Nat.ble _ _ = true; rfl) | (exfalso; rename_i hz; cases hz; done) | (exfalso; (try simp only [LN] at *) <;> omega)
  all_goals first
   | ((first | (with_reducible apply Z.retF1)); (focus rfl); (repeat' (first | exact trivial | (with_reducible apply Z.frz_one) | (with_reducible apply Z.fq_bool) | exact rfl | apply And.intro)); (all_goals (try exact (fun _ => none))); all_goals (first | (simp; done)))
   | fail
 rw [Bool.true_and]
 have cn := rnamesok_con x.txs ht
 cases hnm : namesR x.txs
 all_goals rw [hnm] at cn
 ·rw [Bool.false_and, Bool.and_false]
  repeat' ((conv => whnf); first
   | with_reducible first | refine spB_t ?_
   | ((with_reducible apply spB_cong); (focus (simp only [splQ, Int.reduceBEq, Int.reduceBNe]; rfl)))
   | with_reducible first | refine spB_no (by decide) ?_
   | (with_reducible refine spB_dec ?_ ?_ <;> intro _ <;> (try (exfalso; (first | omega))))
   | with_reducible first | refine Z.callZ_in tabOk 18 Tryz.f22 _ Tryz.func22 (by kernel_rfl) rfl rfl rfl ?_
   | ((first | (with_reducible refine Z.callZ_mk ?_ (cc) ?_) | (with_reducible refine Z.callZ_mk ?_ (cn) ?_) | (with_reducible refine Z.callZ_mk ?_ (csh) ?_)); (focus ((repeat' (first | exact trivial | exact rfl | apply And.intro)); done)))
   | ((with_reducible apply ex_and); exact rfl)
   | fail)
  all_goals (try (conv => whnf))
  all_goals try first | (show Nat.ble _ _ = true; rfl) | (exfalso; rename_i hz; cases hz; done) | (exfalso; (try simp only [LN] at *) <;> omega)
  all_goals first
   | ((first | (with_reducible apply Z.retF1)); (focus rfl); (repeat' (first | exact trivial | (with_reducible apply Z.frz_one) | (with_reducible apply Z.fq_bool) | exact rfl | apply And.intro)); (all_goals (try exact (fun _ => none))); all_goals (first | (simp; done)))
   | fail
 rw [Bool.true_and, hrr htb hs]
 repeat' ((conv => whnf); first
  | with_reducible first | refine spB_t ?_
  | ((with_reducible apply spB_cong); (focus (simp only [splQ, Int.reduceBEq, Int.reduceBNe]; rfl)))
  | with_reducible first | refine spB_no (by decide) ?_
  | (with_reducible refine spB_dec ?_ ?_ <;> intro _ <;> (try (exfalso; (first | omega))))
  | with_reducible first | refine Z.callZ_in tabOk 18 Tryz.f22 _ Tryz.func22 (by kernel_rfl) rfl rfl rfl ?_
  | ((first | (with_reducible refine Z.callZ_mk ?_ (cc) ?_) | (with_reducible refine Z.callZ_mk ?_ (cn) ?_) | (with_reducible refine Z.callZ_mk ?_ (csh) ?_)); (focus ((repeat' (first | exact trivial | exact rfl | apply And.intro)); done)))
  | ((with_reducible apply ex_and); exact rfl)
  | fail)
 all_goals (try (conv => whnf))
 all_goals try first | (show Nat.ble _ _ = true; rfl) | (exfalso; rename_i hz; cases hz; done) | (exfalso; (try simp only [LN] at *) <;> omega)
 refine Z.loopK tabOk (fun zq : Nat => [(31, .val (.int .i64 (zq : Int)))]) (fun zq : Nat => ([] : Z.Kr)) (fun zq => zq ≤ x.rows.length ∧ (∀ y ∈ x.rows.take zq, Tab.ownG (y.key % 8) x.w = x.ix)) (fun zq => x.rows.length - zq) 0 1 [(1, _), (29, _), (30, _)] ⟨rfl, rfl, rfl, trivial⟩ [(0, some _)] ⟨rfl, trivial⟩ ?_ ?_ rfl rfl ⟨Nat.zero_le _, (fun y h => nomatch h)⟩ ?_
 ·repeat' (first | exact trivial | apply And.intro | exact ⟨_, rfl, Z.Imp.refl _⟩)
 ·repeat' (first | exact trivial)
 rintro i HINV
 (try dsimp only at HINV); (try dsimp only)
 obtain ⟨HI, HG⟩ := HINV
 by_cases hi : i < x.rows.length
 ·obtain ⟨y, hy⟩ := getElem?_some' (xs := x.rows) (i := i) hi
  have hym := List.mem_of_getElem? hy
  have hk := Tab.keyOk_iff.1 ((Tab.tab_iff.1 htb).1 y hym).1
  have cg := Tab.rgroup_con y.key
  rw [Int.tmod_eq_emod_of_nonneg (by omega)] at cg
  have cr := rowned_ok (y.key % 8) x.ix x.w (by omega) hs
  by_cases hg : Tab.ownG (y.key % 8) x.w = x.ix
  ·rw [decide_eq_true hg] at cr
   repeat' ((conv => whnf); first
    | ((with_reducible apply spB_cong); (focus (simp only [splQ, Int.reduceBEq, Int.reduceBNe]; rfl)))
    | with_reducible first | refine spB_no (by decide) ?_
    | (with_reducible refine spB_dec ?_ ?_ <;> intro _ <;> (try (exfalso; (first | (simp only [LN] at *; omega)))))
    | with_reducible first | refine Z.rowN_known hy ?_
    | ((with_reducible apply ixN_litp); (focus rfl); (focus ((try simp only [LN] at *) <;> omega)))
    | with_reducible refine wr_i64 (by first | omega | (simp only [LN] at *; omega)) ?_
    | ((first | (with_reducible refine Z.conZ_mz ?_ (cr) ?_) | (with_reducible refine Z.conZ_mz ?_ (cg) ?_)); (focus ((repeat' (first | exact trivial | exact rfl | apply And.intro)); done)))
    | with_reducible first | refine Z.drawZ_rule tabOk mixOk ?_ | refine Z.apZ_mk (by kernel_rfl) ?_
    | fail)
   all_goals (try (conv => whnf))
   all_goals try first | (show Nat.ble _ _ = true; rfl) | (exfalso; rename_i hz; cases hz; done) | (exfalso; (try simp only [LN] at *) <;> omega)
   all_goals first
    | ((refine Z.rndK ((i + 1)) (fun s => [0]) rfl rfl rfl rfl ?_ ?_ ?_ ?_); (focus (repeat' (first | exact trivial | exact rfl | apply And.intro))); (focus (repeat' (first | exact trivial | (intro b hb; cases hb; rfl) | apply And.intro))); (focus ((refine ⟨by (try dsimp only); omega, ?_⟩; (try dsimp only); rw [take_snoc hy]; intro z hz; rcases List.mem_append.1 hz with h | h; exact HG z h; rw [List.mem_singleton.1 h]; exact hg))); ((try dsimp only); omega))
    | fail
  ·rw [decide_eq_false hg] at cr
   rw [decide_eq_false (fun h => hg (h y hym)), Bool.and_false]
   repeat' ((conv => whnf); first
    | with_reducible first | refine spB_t ?_
    | ((with_reducible apply spB_cong); (focus (simp only [splQ, Int.reduceBEq, Int.reduceBNe]; rfl)))
    | (with_reducible refine spB_dec ?_ ?_ <;> intro _ <;> (try (exfalso; (first | (simp only [LN] at *; omega)))))
    | with_reducible first | refine Z.rowN_known hy ?_
    | ((with_reducible apply ixN_litp); (focus rfl); (focus ((try simp only [LN] at *) <;> omega)))
    | ((first | (with_reducible refine Z.conZ_mz ?_ (cr) ?_) | (with_reducible refine Z.conZ_mz ?_ (cg) ?_)); (focus ((repeat' (first | exact trivial | exact rfl | apply And.intro)); done)))
    | with_reducible first | refine Z.drawZ_rule tabOk mixOk ?_ | refine Z.apZ_mk (by kernel_rfl) ?_
    | fail)
   all_goals (try (conv => whnf))
   all_goals try first | (show Nat.ble _ _ = true; rfl) | (exfalso; rename_i hz; cases hz; done) | (exfalso; (try simp only [LN] at *) <;> omega)
   all_goals first
    | ((first | (with_reducible apply Z.retF1)); (focus rfl); (repeat' (first | exact trivial | (with_reducible apply Z.frz_one) | (with_reducible apply Z.fq_bool) | exact rfl | apply And.intro)); (all_goals (try exact (fun _ => none))); all_goals (first | (simp; done)))
    | fail
 have hil : i = x.rows.length := by omega
 subst hil
 rw [List.take_length] at HG
 rw [decide_eq_true HG, Bool.and_true]
 clear hrr
 have c0 := rowned_ok 0 x.ix x.w (by omega) hs
 have c1 := rowned_ok 1 x.ix x.w (by omega) hs
 have c2 := rowned_ok 2 x.ix x.w (by omega) hs
 have c3 := rowned_ok 3 x.ix x.w (by omega) hs
 have c4 := rowned_ok 4 x.ix x.w (by omega) hs
 have c5 := rowned_ok 5 x.ix x.w (by omega) hs
 have c6 := rowned_ok 6 x.ix x.w (by omega) hs
 have c7 := rowned_ok 7 x.ix x.w (by omega) hs
 have hoo := offR_is x
 generalize Tab.ownG 0 x.w = e0 at *
 generalize Tab.ownG 1 x.w = e1 at *
 generalize Tab.ownG 2 x.w = e2 at *
 generalize Tab.ownG 3 x.w = e3 at *
 generalize Tab.ownG 4 x.w = e4 at *
 generalize Tab.ownG 5 x.w = e5 at *
 generalize Tab.ownG 6 x.w = e6 at *
 generalize Tab.ownG 7 x.w = e7 at *
 rw [hoo]
 clear hoo
 repeat' ((conv => whnf); first
  | (with_reducible refine spB_dec ?_ ?_ <;> intro _ <;> (try (exfalso; (first | (rename_i hz; simp at hz; done)))))
  | fail)
 all_goals (try (conv => whnf))
 all_goals try first | (show Nat.ble _ _ = true; rfl) | (exfalso; rename_i hz; cases hz; done) | (exfalso; (try simp only [LN] at *) <;> omega)
 refine Z.loopK tabOk (fun zq : Nat => [(47, .val (.int .i64 (zq : Int)))]) (fun zq : Nat => ([] : Z.Kr)) (fun zq => zq ≤ 8 ∧ ∀ k < zq, okO [x.o0, x.o1, x.o2, x.o3, x.o4, x.o5, x.o6, x.o7] [e0, e1, e2, e3, e4, e5, e6, e7] x.ix k) (fun zq => 8 - zq) 0 1 [(1, _), (46, _)] ⟨rfl, rfl, trivial⟩ [(0, some _)] ⟨rfl, trivial⟩ ?_ ?_ rfl rfl ⟨Nat.zero_le _, (fun k hk => absurd hk (Nat.not_lt_zero _))⟩ ?_
 ·repeat' (first | exact trivial | apply And.intro | exact ⟨_, rfl, Z.Imp.refl _⟩)
 ·repeat' (first | exact trivial)
 rintro i HINV
 (try dsimp only at HINV); (try dsimp only)
 obtain ⟨HI, HP⟩ := HINV
 have hc9 : i = 0 ∨ i = 1 ∨ i = 2 ∨ i = 3 ∨ i = 4 ∨ i = 5 ∨ i = 6 ∨ i = 7 ∨ i = 8 := by omega
 rcases hc9 with rfl | rfl | rfl | rfl | rfl | rfl | rfl | rfl | rfl
 ·by_cases hok : (0 ≤ x.o0 ∧ x.o0 ≤ 40) ∧ (x.o0 = 0 ∨ e0 = x.ix)
  ·skip
   repeat' ((conv => whnf); first
    | with_reducible first | refine spB_t ?_
    | with_reducible first | refine spB_yes (by decide) ?_ | refine spB_no (by decide) ?_ | refine spB_not ?_
    | (with_reducible refine spB_dec ?_ ?_ <;> intro _ <;> (try (exfalso; (first | omega))))
    | (with_reducible refine spB_bne ?_ ?_ <;> intro _ <;> (try (exfalso; (first | (simp only [LN] at *; omega)))))
    | ((with_reducible apply ixN_lit); (focus rfl); (focus rfl))
    | with_reducible refine wr_i64 (by first | omega | (simp only [LN] at *; omega)) ?_
    | ((first | (with_reducible refine Z.callZ_mk ?_ (c0) ?_)); (focus ((repeat' (first | exact trivial | exact rfl | apply And.intro)); done)))
    | fail)
   all_goals (try (conv => whnf))
   all_goals try first | (show Nat.ble _ _ = true; rfl) | (exfalso; rename_i hz; cases hz; done) | (exfalso; (try simp only [LN] at *) <;> omega)
   all_goals first
    | ((refine Z.rndK (1) (fun s => [0]) rfl rfl rfl rfl ?_ ?_ ?_ ?_); (focus (repeat' (first | exact trivial | exact rfl | apply And.intro))); (focus (repeat' (first | exact trivial | (intro b hb; cases hb; rfl) | apply And.intro))); (focus ((refine ⟨by (try dsimp only); omega, fun k hk => ?_⟩; (try dsimp only at hk); rcases Nat.lt_succ_iff_lt_or_eq.1 hk with h | h; exact HP k h; subst h; exact hok))); ((try dsimp only); omega))
    | fail
  rw [decide_eq_false (fun h => hok ⟨h.1.1, h.2.1⟩)]
  repeat' ((conv => whnf); first
   | with_reducible first | refine spB_t ?_
   | with_reducible first | refine spB_yes (by decide) ?_ | refine spB_no (by decide) ?_ | refine spB_not ?_
   | (with_reducible refine spB_dec ?_ ?_ <;> intro _ <;> (try (exfalso; (first | omega))))
   | (with_reducible refine spB_bne ?_ ?_ <;> intro _ <;> (try (exfalso; (first | omega))))
   | ((with_reducible apply ixN_lit); (focus rfl); (focus rfl))
   | ((first | (with_reducible refine Z.callZ_mk ?_ (c0) ?_)); (focus ((repeat' (first | exact trivial | exact rfl | apply And.intro)); done)))
   | fail)
  all_goals (try (conv => whnf))
  all_goals try first | (show Nat.ble _ _ = true; rfl) | (exfalso; rename_i hz; cases hz; done) | (exfalso; (try simp only [LN] at *) <;> omega)
  all_goals first
   | ((first | (with_reducible apply Z.retF1)); (focus rfl); (repeat' (first | exact trivial | (with_reducible apply Z.frz_one) | (with_reducible apply Z.fq_bool) | exact rfl | apply And.intro)); (all_goals (try exact (fun _ => none))); all_goals (first | (simp; done)))
   | fail
 ·by_cases hok : (0 ≤ x.o1 ∧ x.o1 ≤ 40) ∧ (x.o1 = 0 ∨ e1 = x.ix)
  ·skip
   repeat' ((conv => whnf); first
    | with_reducible first | refine spB_t ?_
    | with_reducible first | refine spB_yes (by decide) ?_ | refine spB_no (by decide) ?_ | refine spB_not ?_
    | (with_reducible refine spB_dec ?_ ?_ <;> intro _ <;> (try (exfalso; (first | omega))))
    | (with_reducible refine spB_bne ?_ ?_ <;> intro _ <;> (try (exfalso; (first | (simp only [LN] at *; omega)))))
    | ((with_reducible apply ixN_lit); (focus rfl); (focus rfl))
    | with_reducible refine wr_i64 (by first | omega | (simp only [LN] at *; omega)) ?_
    | ((first | (with_reducible refine Z.callZ_mk ?_ (c1) ?_)); (focus ((repeat' (first | exact trivial | exact rfl | apply And.intro)); done)))
    | fail)
   all_goals (try (conv => whnf))
   all_goals try first | (show Nat.ble _ _ = true; rfl) | (exfalso; rename_i hz; cases hz; done) | (exfalso; (try simp only [LN] at *) <;> omega)
   all_goals first
    | ((refine Z.rndK (2) (fun s => [0]) rfl rfl rfl rfl ?_ ?_ ?_ ?_); (focus (repeat' (first | exact trivial | exact rfl | apply And.intro))); (focus (repeat' (first | exact trivial | (intro b hb; cases hb; rfl) | apply And.intro))); (focus ((refine ⟨by (try dsimp only); omega, fun k hk => ?_⟩; (try dsimp only at hk); rcases Nat.lt_succ_iff_lt_or_eq.1 hk with h | h; exact HP k h; subst h; exact hok))); ((try dsimp only); omega))
    | fail
  rw [decide_eq_false (fun h => hok ⟨h.1.2.1, h.2.2.1⟩)]
  repeat' ((conv => whnf); first
   | with_reducible first | refine spB_t ?_
   | with_reducible first | refine spB_yes (by decide) ?_ | refine spB_no (by decide) ?_ | refine spB_not ?_
   | (with_reducible refine spB_dec ?_ ?_ <;> intro _ <;> (try (exfalso; (first | omega))))
   | (with_reducible refine spB_bne ?_ ?_ <;> intro _ <;> (try (exfalso; (first | omega))))
   | ((with_reducible apply ixN_lit); (focus rfl); (focus rfl))
   | ((first | (with_reducible refine Z.callZ_mk ?_ (c1) ?_)); (focus ((repeat' (first | exact trivial | exact rfl | apply And.intro)); done)))
   | fail)
  all_goals (try (conv => whnf))
  all_goals try first | (show Nat.ble _ _ = true; rfl) | (exfalso; rename_i hz; cases hz; done) | (exfalso; (try simp only [LN] at *) <;> omega)
  all_goals first
   | ((first | (with_reducible apply Z.retF1)); (focus rfl); (repeat' (first | exact trivial | (with_reducible apply Z.frz_one) | (with_reducible apply Z.fq_bool) | exact rfl | apply And.intro)); (all_goals (try exact (fun _ => none))); all_goals (first | (simp; done)))
   | fail
 ·by_cases hok : (0 ≤ x.o2 ∧ x.o2 ≤ 40) ∧ (x.o2 = 0 ∨ e2 = x.ix)
  ·skip
   repeat' ((conv => whnf); first
    | with_reducible first | refine spB_t ?_
    | with_reducible first | refine spB_yes (by decide) ?_ | refine spB_no (by decide) ?_ | refine spB_not ?_
    | (with_reducible refine spB_dec ?_ ?_ <;> intro _ <;> (try (exfalso; (first | omega))))
    | (with_reducible refine spB_bne ?_ ?_ <;> intro _ <;> (try (exfalso; (first | (simp only [LN] at *; omega)))))
    | ((with_reducible apply ixN_lit); (focus rfl); (focus rfl))
    | with_reducible refine wr_i64 (by first | omega | (simp only [LN] at *; omega)) ?_
    | ((first | (with_reducible refine Z.callZ_mk ?_ (c2) ?_)); (focus ((repeat' (first | exact trivial | exact rfl | apply And.intro)); done)))
    | fail)
   all_goals (try (conv => whnf))
   all_goals try first | (show Nat.ble _ _ = true; rfl) | (exfalso; rename_i hz; cases hz; done) | (exfalso; (try simp only [LN] at *) <;> omega)
   all_goals first
    | ((refine Z.rndK (3) (fun s => [0]) rfl rfl rfl rfl ?_ ?_ ?_ ?_); (focus (repeat' (first | exact trivial | exact rfl | apply And.intro))); (focus (repeat' (first | exact trivial | (intro b hb; cases hb; rfl) | apply And.intro))); (focus ((refine ⟨by (try dsimp only); omega, fun k hk => ?_⟩; (try dsimp only at hk); rcases Nat.lt_succ_iff_lt_or_eq.1 hk with h | h; exact HP k h; subst h; exact hok))); ((try dsimp only); omega))
    | fail
  rw [decide_eq_false (fun h => hok ⟨h.1.2.2.1, h.2.2.2.1⟩)]
  repeat' ((conv => whnf); first
   | with_reducible first | refine spB_t ?_
   | with_reducible first | refine spB_yes (by decide) ?_ | refine spB_no (by decide) ?_ | refine spB_not ?_
   | (with_reducible refine spB_dec ?_ ?_ <;> intro _ <;> (try (exfalso; (first | omega))))
   | (with_reducible refine spB_bne ?_ ?_ <;> intro _ <;> (try (exfalso; (first | omega))))
   | ((with_reducible apply ixN_lit); (focus rfl); (focus rfl))
   | ((first | (with_reducible refine Z.callZ_mk ?_ (c2) ?_)); (focus ((repeat' (first | exact trivial | exact rfl | apply And.intro)); done)))
   | fail)
  all_goals (try (conv => whnf))
  all_goals try first | (show Nat.ble _ _ = true; rfl) | (exfalso; rename_i hz; cases hz; done) | (exfalso; (try simp only [LN] at *) <;> omega)
  all_goals first
   | ((first | (with_reducible apply Z.retF1)); (focus rfl); (repeat' (first | exact trivial | (with_reducible apply Z.frz_one) | (with_reducible apply Z.fq_bool) | exact rfl | apply And.intro)); (all_goals (try exact (fun _ => none))); all_goals (first | (simp; done)))
   | fail
 ·by_cases hok : (0 ≤ x.o3 ∧ x.o3 ≤ 40) ∧ (x.o3 = 0 ∨ e3 = x.ix)
  ·skip
   repeat' ((conv => whnf); first
    | with_reducible first | refine spB_t ?_
    | with_reducible first | refine spB_yes (by decide) ?_ | refine spB_no (by decide) ?_ | refine spB_not ?_
    | (with_reducible refine spB_dec ?_ ?_ <;> intro _ <;> (try (exfalso; (first | omega))))
    | (with_reducible refine spB_bne ?_ ?_ <;> intro _ <;> (try (exfalso; (first | (simp only [LN] at *; omega)))))
    | ((with_reducible apply ixN_lit); (focus rfl); (focus rfl))
    | with_reducible refine wr_i64 (by first | omega | (simp only [LN] at *; omega)) ?_
    | ((first | (with_reducible refine Z.callZ_mk ?_ (c3) ?_)); (focus ((repeat' (first | exact trivial | exact rfl | apply And.intro)); done)))
    | fail)
   all_goals (try (conv => whnf))
   all_goals try first | (show Nat.ble _ _ = true; rfl) | (exfalso; rename_i hz; cases hz; done) | (exfalso; (try simp only [LN] at *) <;> omega)
   all_goals first
    | ((refine Z.rndK (4) (fun s => [0]) rfl rfl rfl rfl ?_ ?_ ?_ ?_); (focus (repeat' (first | exact trivial | exact rfl | apply And.intro))); (focus (repeat' (first | exact trivial | (intro b hb; cases hb; rfl) | apply And.intro))); (focus ((refine ⟨by (try dsimp only); omega, fun k hk => ?_⟩; (try dsimp only at hk); rcases Nat.lt_succ_iff_lt_or_eq.1 hk with h | h; exact HP k h; subst h; exact hok))); ((try dsimp only); omega))
    | fail
  rw [decide_eq_false (fun h => hok ⟨h.1.2.2.2.1, h.2.2.2.2.1⟩)]
  repeat' ((conv => whnf); first
   | with_reducible first | refine spB_t ?_
   | with_reducible first | refine spB_yes (by decide) ?_ | refine spB_no (by decide) ?_ | refine spB_not ?_
   | (with_reducible refine spB_dec ?_ ?_ <;> intro _ <;> (try (exfalso; (first | omega))))
   | (with_reducible refine spB_bne ?_ ?_ <;> intro _ <;> (try (exfalso; (first | omega))))
   | ((with_reducible apply ixN_lit); (focus rfl); (focus rfl))
   | ((first | (with_reducible refine Z.callZ_mk ?_ (c3) ?_)); (focus ((repeat' (first | exact trivial | exact rfl | apply And.intro)); done)))
   | fail)
  all_goals (try (conv => whnf))
  all_goals try first | (show Nat.ble _ _ = true; rfl) | (exfalso; rename_i hz; cases hz; done) | (exfalso; (try simp only [LN] at *) <;> omega)
  all_goals first
   | ((first | (with_reducible apply Z.retF1)); (focus rfl); (repeat' (first | exact trivial | (with_reducible apply Z.frz_one) | (with_reducible apply Z.fq_bool) | exact rfl | apply And.intro)); (all_goals (try exact (fun _ => none))); all_goals (first | (simp; done)))
   | fail
 ·by_cases hok : (0 ≤ x.o4 ∧ x.o4 ≤ 40) ∧ (x.o4 = 0 ∨ e4 = x.ix)
  ·skip
   repeat' ((conv => whnf); first
    | with_reducible first | refine spB_t ?_
    | with_reducible first | refine spB_yes (by decide) ?_ | refine spB_no (by decide) ?_ | refine spB_not ?_
    | (with_reducible refine spB_dec ?_ ?_ <;> intro _ <;> (try (exfalso; (first | omega))))
    | (with_reducible refine spB_bne ?_ ?_ <;> intro _ <;> (try (exfalso; (first | (simp only [LN] at *; omega)))))
    | ((with_reducible apply ixN_lit); (focus rfl); (focus rfl))
    | with_reducible refine wr_i64 (by first | omega | (simp only [LN] at *; omega)) ?_
    | ((first | (with_reducible refine Z.callZ_mk ?_ (c4) ?_)); (focus ((repeat' (first | exact trivial | exact rfl | apply And.intro)); done)))
    | fail)
   all_goals (try (conv => whnf))
   all_goals try first | (show Nat.ble _ _ = true; rfl) | (exfalso; rename_i hz; cases hz; done) | (exfalso; (try simp only [LN] at *) <;> omega)
   all_goals first
    | ((refine Z.rndK (5) (fun s => [0]) rfl rfl rfl rfl ?_ ?_ ?_ ?_); (focus (repeat' (first | exact trivial | exact rfl | apply And.intro))); (focus (repeat' (first | exact trivial | (intro b hb; cases hb; rfl) | apply And.intro))); (focus ((refine ⟨by (try dsimp only); omega, fun k hk => ?_⟩; (try dsimp only at hk); rcases Nat.lt_succ_iff_lt_or_eq.1 hk with h | h; exact HP k h; subst h; exact hok))); ((try dsimp only); omega))
    | fail
  rw [decide_eq_false (fun h => hok ⟨h.1.2.2.2.2.1, h.2.2.2.2.2.1⟩)]
  repeat' ((conv => whnf); first
   | with_reducible first | refine spB_t ?_
   | with_reducible first | refine spB_yes (by decide) ?_ | refine spB_no (by decide) ?_ | refine spB_not ?_
   | (with_reducible refine spB_dec ?_ ?_ <;> intro _ <;> (try (exfalso; (first | omega))))
   | (with_reducible refine spB_bne ?_ ?_ <;> intro _ <;> (try (exfalso; (first | omega))))
   | ((with_reducible apply ixN_lit); (focus rfl); (focus rfl))
   | ((first | (with_reducible refine Z.callZ_mk ?_ (c4) ?_)); (focus ((repeat' (first | exact trivial | exact rfl | apply And.intro)); done)))
   | fail)
  all_goals (try (conv => whnf))
  all_goals try first | (show Nat.ble _ _ = true; rfl) | (exfalso; rename_i hz; cases hz; done) | (exfalso; (try simp only [LN] at *) <;> omega)
  all_goals first
   | ((first | (with_reducible apply Z.retF1)); (focus rfl); (repeat' (first | exact trivial | (with_reducible apply Z.frz_one) | (with_reducible apply Z.fq_bool) | exact rfl | apply And.intro)); (all_goals (try exact (fun _ => none))); all_goals (first | (simp; done)))
   | fail
 ·by_cases hok : (0 ≤ x.o5 ∧ x.o5 ≤ 40) ∧ (x.o5 = 0 ∨ e5 = x.ix)
  ·skip
   repeat' ((conv => whnf); first
    | with_reducible first | refine spB_t ?_
    | with_reducible first | refine spB_yes (by decide) ?_ | refine spB_no (by decide) ?_ | refine spB_not ?_
    | (with_reducible refine spB_dec ?_ ?_ <;> intro _ <;> (try (exfalso; (first | omega))))
    | (with_reducible refine spB_bne ?_ ?_ <;> intro _ <;> (try (exfalso; (first | (simp only [LN] at *; omega)))))
    | ((with_reducible apply ixN_lit); (focus rfl); (focus rfl))
    | with_reducible refine wr_i64 (by first | omega | (simp only [LN] at *; omega)) ?_
    | ((first | (with_reducible refine Z.callZ_mk ?_ (c5) ?_)); (focus ((repeat' (first | exact trivial | exact rfl | apply And.intro)); done)))
    | fail)
   all_goals (try (conv => whnf))
   all_goals try first | (show Nat.ble _ _ = true; rfl) | (exfalso; rename_i hz; cases hz; done) | (exfalso; (try simp only [LN] at *) <;> omega)
   all_goals first
    | ((refine Z.rndK (6) (fun s => [0]) rfl rfl rfl rfl ?_ ?_ ?_ ?_); (focus (repeat' (first | exact trivial | exact rfl | apply And.intro))); (focus (repeat' (first | exact trivial | (intro b hb; cases hb; rfl) | apply And.intro))); (focus ((refine ⟨by (try dsimp only); omega, fun k hk => ?_⟩; (try dsimp only at hk); rcases Nat.lt_succ_iff_lt_or_eq.1 hk with h | h; exact HP k h; subst h; exact hok))); ((try dsimp only); omega))
    | fail
  rw [decide_eq_false (fun h => hok ⟨h.1.2.2.2.2.2.1, h.2.2.2.2.2.2.1⟩)]
  repeat' ((conv => whnf); first
   | with_reducible first | refine spB_t ?_
   | with_reducible first | refine spB_yes (by decide) ?_ | refine spB_no (by decide) ?_ | refine spB_not ?_
   | (with_reducible refine spB_dec ?_ ?_ <;> intro _ <;> (try (exfalso; (first | omega))))
   | (with_reducible refine spB_bne ?_ ?_ <;> intro _ <;> (try (exfalso; (first | omega))))
   | ((with_reducible apply ixN_lit); (focus rfl); (focus rfl))
   | ((first | (with_reducible refine Z.callZ_mk ?_ (c5) ?_)); (focus ((repeat' (first | exact trivial | exact rfl | apply And.intro)); done)))
   | fail)
  all_goals (try (conv => whnf))
  all_goals try first | (show Nat.ble _ _ = true; rfl) | (exfalso; rename_i hz; cases hz; done) | (exfalso; (try simp only [LN] at *) <;> omega)
  all_goals first
   | ((first | (with_reducible apply Z.retF1)); (focus rfl); (repeat' (first | exact trivial | (with_reducible apply Z.frz_one) | (with_reducible apply Z.fq_bool) | exact rfl | apply And.intro)); (all_goals (try exact (fun _ => none))); all_goals (first | (simp; done)))
   | fail
 ·by_cases hok : (0 ≤ x.o6 ∧ x.o6 ≤ 40) ∧ (x.o6 = 0 ∨ e6 = x.ix)
  ·skip
   repeat' ((conv => whnf); first
    | with_reducible first | refine spB_t ?_
    | with_reducible first | refine spB_yes (by decide) ?_ | refine spB_no (by decide) ?_ | refine spB_not ?_
    | (with_reducible refine spB_dec ?_ ?_ <;> intro _ <;> (try (exfalso; (first | omega))))
    | (with_reducible refine spB_bne ?_ ?_ <;> intro _ <;> (try (exfalso; (first | (simp only [LN] at *; omega)))))
    | ((with_reducible apply ixN_lit); (focus rfl); (focus rfl))
    | with_reducible refine wr_i64 (by first | omega | (simp only [LN] at *; omega)) ?_
    | ((first | (with_reducible refine Z.callZ_mk ?_ (c6) ?_)); (focus ((repeat' (first | exact trivial | exact rfl | apply And.intro)); done)))
    | fail)
   all_goals (try (conv => whnf))
   all_goals try first | (show Nat.ble _ _ = true; rfl) | (exfalso; rename_i hz; cases hz; done) | (exfalso; (try simp only [LN] at *) <;> omega)
   all_goals first
    | ((refine Z.rndK (7) (fun s => [0]) rfl rfl rfl rfl ?_ ?_ ?_ ?_); (focus (repeat' (first | exact trivial | exact rfl | apply And.intro))); (focus (repeat' (first | exact trivial | (intro b hb; cases hb; rfl) | apply And.intro))); (focus ((refine ⟨by (try dsimp only); omega, fun k hk => ?_⟩; (try dsimp only at hk); rcases Nat.lt_succ_iff_lt_or_eq.1 hk with h | h; exact HP k h; subst h; exact hok))); ((try dsimp only); omega))
    | fail
  rw [decide_eq_false (fun h => hok ⟨h.1.2.2.2.2.2.2.1, h.2.2.2.2.2.2.2.1⟩)]
  repeat' ((conv => whnf); first
   | with_reducible first | refine spB_t ?_
   | with_reducible first | refine spB_yes (by decide) ?_ | refine spB_no (by decide) ?_ | refine spB_not ?_
   | (with_reducible refine spB_dec ?_ ?_ <;> intro _ <;> (try (exfalso; (first | omega))))
   | (with_reducible refine spB_bne ?_ ?_ <;> intro _ <;> (try (exfalso; (first | omega))))
   | ((with_reducible apply ixN_lit); (focus rfl); (focus rfl))
   | ((first | (with_reducible refine Z.callZ_mk ?_ (c6) ?_)); (focus ((repeat' (first | exact trivial | exact rfl | apply And.intro)); done)))
   | fail)
  all_goals (try (conv => whnf))
  all_goals try first | (show Nat.ble _ _ = true; rfl) | (exfalso; rename_i hz; cases hz; done) | (exfalso; (try simp only [LN] at *) <;> omega)
  all_goals first
   | ((first | (with_reducible apply Z.retF1)); (focus rfl); (repeat' (first | exact trivial | (with_reducible apply Z.frz_one) | (with_reducible apply Z.fq_bool) | exact rfl | apply And.intro)); (all_goals (try exact (fun _ => none))); all_goals (first | (simp; done)))
   | fail
 ·by_cases hok : (0 ≤ x.o7 ∧ x.o7 ≤ 40) ∧ (x.o7 = 0 ∨ e7 = x.ix)
  ·skip
   repeat' ((conv => whnf); first
    | with_reducible first | refine spB_t ?_
    | with_reducible first | refine spB_yes (by decide) ?_ | refine spB_no (by decide) ?_ | refine spB_not ?_
    | (with_reducible refine spB_dec ?_ ?_ <;> intro _ <;> (try (exfalso; (first | omega))))
    | (with_reducible refine spB_bne ?_ ?_ <;> intro _ <;> (try (exfalso; (first | (simp only [LN] at *; omega)))))
    | ((with_reducible apply ixN_lit); (focus rfl); (focus rfl))
    | with_reducible refine wr_i64 (by first | omega | (simp only [LN] at *; omega)) ?_
    | ((first | (with_reducible refine Z.callZ_mk ?_ (c7) ?_)); (focus ((repeat' (first | exact trivial | exact rfl | apply And.intro)); done)))
    | fail)
   all_goals (try (conv => whnf))
   all_goals try first | (show Nat.ble _ _ = true; rfl) | (exfalso; rename_i hz; cases hz; done) | (exfalso; (try simp only [LN] at *) <;> omega)
   all_goals first
    | ((refine Z.rndK (8) (fun s => [0]) rfl rfl rfl rfl ?_ ?_ ?_ ?_); (focus (repeat' (first | exact trivial | exact rfl | apply And.intro))); (focus (repeat' (first | exact trivial | (intro b hb; cases hb; rfl) | apply And.intro))); (focus ((refine ⟨by (try dsimp only); omega, fun k hk => ?_⟩; (try dsimp only at hk); rcases Nat.lt_succ_iff_lt_or_eq.1 hk with h | h; exact HP k h; subst h; exact hok))); ((try dsimp only); omega))
    | fail
  rw [decide_eq_false (fun h => hok ⟨h.1.2.2.2.2.2.2.2, h.2.2.2.2.2.2.2.2⟩)]
  repeat' ((conv => whnf); first
   | with_reducible first | refine spB_t ?_
   | with_reducible first | refine spB_yes (by decide) ?_ | refine spB_no (by decide) ?_ | refine spB_not ?_
   | (with_reducible refine spB_dec ?_ ?_ <;> intro _ <;> (try (exfalso; (first | omega))))
   | (with_reducible refine spB_bne ?_ ?_ <;> intro _ <;> (try (exfalso; (first | omega))))
   | ((with_reducible apply ixN_lit); (focus rfl); (focus rfl))
   | ((first | (with_reducible refine Z.callZ_mk ?_ (c7) ?_)); (focus ((repeat' (first | exact trivial | exact rfl | apply And.intro)); done)))
   | fail)
  all_goals (try (conv => whnf))
  all_goals try first | (show Nat.ble _ _ = true; rfl) | (exfalso; rename_i hz; cases hz; done) | (exfalso; (try simp only [LN] at *) <;> omega)
  all_goals first
   | ((first | (with_reducible apply Z.retF1)); (focus rfl); (repeat' (first | exact trivial | (with_reducible apply Z.frz_one) | (with_reducible apply Z.fq_bool) | exact rfl | apply And.intro)); (all_goals (try exact (fun _ => none))); all_goals (first | (simp; done)))
   | fail
 rw [decide_eq_true ⟨⟨(HP 0 (by decide)).1, (HP 1 (by decide)).1, (HP 2 (by decide)).1, (HP 3 (by decide)).1, (HP 4 (by decide)).1, (HP 5 (by decide)).1, (HP 6 (by decide)).1, (HP 7 (by decide)).1⟩, ⟨(HP 0 (by decide)).2, (HP 1 (by decide)).2, (HP 2 (by decide)).2, (HP 3 (by decide)).2, (HP 4 (by decide)).2, (HP 5 (by decide)).2, (HP 6 (by decide)).2, (HP 7 (by decide)).2⟩⟩]
 repeat' ((conv => whnf); first
  | with_reducible first | refine spB_no (by decide) ?_
  | fail)
 all_goals (try (conv => whnf))
 all_goals try first | (show Nat.ble _ _ = true; rfl) | (exfalso; rename_i hz; cases hz; done) | (exfalso; (try simp only [LN] at *) <;> omega)
 all_goals first
  | ((first | (with_reducible apply Z.retF1)); (focus rfl); (repeat' (first | exact trivial | (with_reducible apply Z.frz_one) | (with_reducible apply Z.fq_bool) | exact rfl | apply And.intro)); (all_goals (try exact (fun _ => none))); all_goals (first | (simp; done)))
  | fail
end Go.Proofs.YtopieffkpdlpbaaGreat
namespace Go.Proofs.YtopieffkpdlpbaaGreat
open Go Go.RowKit Wx
set_option maxHeartbeats 4000000
open Tab
def namesB (b : List Int) (n : Nat) : List Nm := (List.range n).map fun j => nmD (b.drop (9 * j))
theorem namesB_len {b : List Int} {n : Nat} : (namesB b n).length = n := by simp [namesB]
theorem namesB_succ {b : List Int} {n : Nat} : namesB b (n + 1) = namesB b n ++ [nmD (b.drop (9 * n))] := by unfold namesB; rw [List.range_succ, List.map_append]; rfl
theorem decN_rows : ∀ {n : Nat} {b : List Int}, 9 * n ≤ b.length → decN n b = (namesB b n, 0, b.drop (9 * n))
 | 0, b, _ => by simp [decN, namesB]
 | n + 1, b, h => by
  rw [decN, if_neg (by omega), decN_rows (n := n) (by rw [List.length_drop]; omega), if_pos rfl]
  unfold namesB
  rw [List.range_succ_eq_map]
  simp only [List.map_cons, List.map_map, List.drop_drop, Nat.mul_zero, List.drop_zero, Prod.mk.injEq, true_and, List.cons.injEq]
  refine ⟨List.map_congr_left fun j _ => ?_, by rw [show 9 + 9 * n = 9 * (n + 1) by omega]⟩
  simp only [Function.comp]
  rw [show 9 + 9 * j = 9 * Nat.succ j by omega]
theorem split9b {b : List Int} (h : 9 ≤ b.length) : ∃ p0 p1 p2 p3 p4 p5 p6 p7 m r, b = p0 :: p1 :: p2 :: p3 :: p4 :: p5 :: p6 :: p7 :: m :: r := split9 h
theorem at_mid {A B L : List Int} {x : Int} {k : Nat} (hL : L = A ++ x :: B) (hk : A.length = k) : L[k]? = some x := by
 subst hL hk; simp
theorem srdec_six (b : List Int) (h : b.length < 6) : Con Tryz.prog 18 [.one (.ro false 1 (b.map eB))] (fun rx rK rt => rx = .tup [.agg [.v (.int .i64 zeroS.op), .v (.int .i64 zeroS.ix), .v (.int .i64 zeroS.w), .v (.bool zeroS.en), .ro true 4 (zeroS.rows.map Tab.eK), .v (.int .i64 zeroS.o0), .v (.int .i64 zeroS.o1), .v (.int .i64 zeroS.o2), .v (.int .i64 zeroS.o3), .v (.int .i64 zeroS.o4), .v (.int .i64 zeroS.o5), .v (.int .i64 zeroS.o6), .v (.int .i64 zeroS.o7), .ro true 3 (zeroS.txs.map eN)], .one (.v (.int .i64 7))] ∧ rK = [] ∧ rt = 0) := by
 refine Z.con_ofF tabOk 152 Tryz.f18 _ Tryz.func18 (by kernel_rfl) rfl rfl rfl rfl ?_
 repeat' ((conv => whnf); first
  | (with_reducible refine spB_dec ?_ ?_ <;> intro _ <;> (try (exfalso; (first | (simp only [LN] at *; omega)))))
  | fail)
 all_goals (try (conv => whnf))
 all_goals try first | (show Nat.ble _ _ = true; rfl) | (exfalso; rename_i hz; cases hz; done) | (exfalso; (try simp only [LN] at *) <;> omega)
 all_goals first
  | ((first | (with_reducible apply Z.retF2)); (focus rfl); (repeat' (first | exact trivial | (with_reducible apply Z.frz_one) | (with_reducible apply Z.frz_agg) | (with_reducible apply Z.fq_int) | (with_reducible apply Z.fq_bool) | (exact Z.frz_nil) | exact rfl | apply And.intro)); (all_goals (try exact (fun _ => none))); all_goals (first | (simp; done)))
  | fail
theorem srdec_raw (t0 t1 t2 t3 t4 t5 : Int) (r : List Int) (N : Nat) (hB : isB (t0 :: t1 :: t2 :: t3 :: t4 :: t5 :: r)) (hN : numR [t4, t5] = (N : Int)) (hr : r.length < 18 * N + 9) (hl : r.length ≤ 1000000000) : Con Tryz.prog 18 [.one (.ro false 1 ((t0 :: t1 :: t2 :: t3 :: t4 :: t5 :: r).map eB))] (fun rx rK rt => rx = .tup [.agg [.v (.int .i64 zeroS.op), .v (.int .i64 zeroS.ix), .v (.int .i64 zeroS.w), .v (.bool zeroS.en), .ro true 4 (zeroS.rows.map Tab.eK), .v (.int .i64 zeroS.o0), .v (.int .i64 zeroS.o1), .v (.int .i64 zeroS.o2), .v (.int .i64 zeroS.o3), .v (.int .i64 zeroS.o4), .v (.int .i64 zeroS.o5), .v (.int .i64 zeroS.o6), .v (.int .i64 zeroS.o7), .ro true 3 (zeroS.txs.map eN)], .one (.v (.int .i64 7))] ∧ rK = [] ∧ rt = 0) := by
 refine Z.con_ofF tabOk 152 Tryz.f18 _ Tryz.func18 (by kernel_rfl) rfl rfl rfl rfl ?_
 have hb4 := hB t4 (by simp)
 have hb5 := hB t5 (by simp)
 have cn0 := num_con [t4, t5] (by simp) (fun z hz => hB z (by simp at hz; rcases hz with rfl | rfl <;> simp))
 rw [hN] at cn0
 rw [numR2] at hN
 repeat' ((conv => whnf); first
  | with_reducible first | refine spB_t ?_
  | (with_reducible refine spB_dec ?_ ?_ <;> intro _ <;> (try (exfalso; (first | (simp only [LN] at *; omega)))))
  | ((with_reducible refine slN_lh 4 6 ?_ ?_ ?_ ?_ ?_); (iterate 4 (focus ((try simp only [LN] at *) <;> omega))))
  | with_reducible refine wr_i64 (by first | omega | (simp only [LN] at *; omega)) ?_
  | ((first | (with_reducible refine Z.callZ_mk ?_ (cn0) ?_)); (focus ((repeat' (first | exact trivial | exact rfl | apply And.intro)); done)))
  | fail)
 all_goals (try (conv => whnf))
 all_goals try first | (show Nat.ble _ _ = true; rfl) | (exfalso; rename_i hz; cases hz; done) | (exfalso; (try simp only [LN] at *) <;> omega)
 all_goals first
  | ((first | (with_reducible apply Z.retF2)); (focus rfl); (repeat' (first | exact trivial | (with_reducible apply Z.frz_one) | (with_reducible apply Z.frz_agg) | (with_reducible apply Z.fq_int) | (with_reducible apply Z.fq_bool) | (exact Z.frz_nil) | exact rfl | apply And.intro)); (all_goals (try exact (fun _ => none))); all_goals (first | (simp; done)))
  | fail
end Go.Proofs.YtopieffkpdlpbaaGreat
namespace Go.Proofs.YtopieffkpdlpbaaGreat
open Go Go.RowKit Wx
set_option maxHeartbeats 4000000
namespace Tab
theorem putO_con (b : List Int) (x : Int) (n : Nat) (hb : b.length ≤ 1099511627776) (hn : n ≤ 8) (hx : 0 ≤ x ∧ x < 18446744073709551616) : Con Tryz.prog 78 [.one (.ro false 1 (b.map eB)), .one (.v (.int .u64 x)), .one (.v (.int .i64 (n : Int)))] (fun rx rK rt => rx = .c (.osl 0 0 (b.length + n) (some (b.length + n))) ∧ rK = [(0, some ⟨(b ++ be n x).map cB, 1, 5, false⟩)] ∧ rt = 1) := by
 refine Z.con_ofZ tabOk 34 Tryz.f78 _ Tryz.func78 (by kernel_rfl) rfl rfl rfl rfl ?_
 repeat' ((conv => whnf); first
  | ((with_reducible refine mkN_any (b.length + n) ?_ ?_ ?_ ?_ ?_); (iterate 4 (focus ((try simp only [LN] at *) <;> omega))))
  | ((with_reducible refine cpyN.mk ?_ ?_ ?_ ?_); (focus (first | (simp; done))); (focus (first | exact one_map2 (fun _ => rfl))); (focus ((try simp only [LN] at *) <;> omega)))
  | with_reducible refine wr_i64 (by first | omega | (simp only [LN] at *; omega)) ?_
  | fail)
 all_goals (try (conv => whnf))
 all_goals try first | (show Nat.ble _ _ = true; rfl) | (exfalso; rename_i hz; cases hz; done) | (exfalso; (try simp only [LN] at *) <;> omega)
 refine Z.loopK tabOk (fun zq : Nat × Int × List Int => [(18, .val (.int .i64 (zq.1 : Int))), (1, .val (.int .u64 zq.2.1))]) (fun zq : Nat × Int × List Int => ([(0, some (Z.Ob.b ⟨(b ++ List.replicate (n - zq.1) 0 ++ zq.2.2).map cB, 1, 5, false⟩))] : Z.Kr)) (fun zq => zq.1 ≤ n ∧ zq.2.2.length = zq.1 ∧ be (n - zq.1) zq.2.1 ++ zq.2.2 = be n x ∧ 0 ≤ zq.2.1 ∧ zq.2.1 < 18446744073709551616) (fun zq => n - zq.1) (0, x, []) 1 [(7, _), (17, _)] ⟨rfl, rfl, trivial⟩ [] trivial ?_ ?_ rfl rfl ⟨Nat.zero_le _, rfl, by simp, hx⟩ ?_
 ·repeat' (first | exact trivial | apply And.intro | exact ⟨_, rfl, Z.Imp.refl _⟩)
 ·repeat' (first | exact trivial | (intro b hb; cases hb; refine ⟨_, rfl, ⟨rfl, rfl, rfl⟩, Z.imp_eq ?_⟩; first | rfl | exact put_lay (by simp) | exact (put_lay (by simp)).trans (by simp); done) | apply And.intro)
 rintro ⟨i, y, T⟩ HINV
 dsimp only at HINV ⊢
 obtain ⟨HI, HT, HB, hy⟩ := HINV
 have hlr : (b ++ List.replicate (n - i) 0 ++ T).length = b.length + n := by simp; omega
 by_cases hi : i < n
 ·obtain ⟨m, hm⟩ : ∃ m, n - i = m + 1 := ⟨n - i - 1, by omega⟩
  rw [hm] at hlr HB ⊢
  rw [be, List.append_assoc] at HB
  repeat' ((conv => whnf); first
   | (with_reducible refine spB_dec ?_ ?_ <;> intro _ <;> (try (exfalso; first | contradiction | omega | (rename_i hz; refine hz ?_; simp; done) | (rename_i hz; simp at hz; done) | (simp only [LN] at *; omega))))
   | (with_reducible refine vN_shr8 (by omega) ?_)
   | ((with_reducible refine ixN_mk (b.length + m) ?_ ?_ ?_); (focus (first | ((try simp only [LN] at *) <;> omega))); (focus ((try simp only [LN] at *) <;> omega)))
   | ((with_reducible refine rowN_mk (cB 0) ?_ ?_); (focus (exact put_row)))
   | with_reducible first | refine wr_mod8 ?_
   | ((with_reducible refine eqN_mk2 ?_ ?_); (focus rfl))
   | with_reducible refine wr_i64 (by first | omega | (simp only [LN] at *; omega)) ?_
   | fail)
  all_goals (try (conv => whnf))
  all_goals try first | (show Nat.ble _ _ = true; rfl) | (exfalso; rename_i hz; cases hz; done) | (exfalso; (try simp only [LN] at *) <;> omega)
  all_goals first
   | ((refine Z.rnd_rw 0 ((b ++ List.replicate (n - (i + 1)) 0 ++ (y % 256) :: T).map cB) rfl rfl ?_ ?_); (focus (rw [show n - (i + 1) = m by omega]; exact put_set)); ((refine Z.rndK ((i + 1, y / 256, (y % 256) :: T)) (fun s => [0]) rfl rfl rfl rfl ?_ ?_ ?_ ?_); (focus (repeat' (first | exact trivial | exact rfl | apply And.intro))); (focus (repeat' (first | exact trivial | exact Z.blk_sub rfl rfl (ren_map fun _ => rfl) | apply And.intro))); (focus (exact ⟨by (try dsimp only); omega, by (try dsimp only); rw [List.length_cons, HT], by (try dsimp only); rw [show n - (i + 1) = m by omega]; exact HB, by (try dsimp only); omega⟩)); ((try dsimp only); omega)))
   | fail
 have hil : i = n := by omega
 subst hil
 rw [Nat.sub_self, be, List.nil_append] at HB
 subst HB
 repeat' ((conv => whnf); first
  | (with_reducible refine spB_dec ?_ ?_ <;> intro _ <;> (try (exfalso; first | contradiction | omega | (rename_i hz; refine hz ?_; simp; done) | (rename_i hz; simp at hz; done) | (simp only [LN] at *; omega))))
  | fail)
 all_goals (try (conv => whnf))
 all_goals try first | (show Nat.ble _ _ = true; rfl) | (exfalso; rename_i hz; cases hz; done) | (exfalso; (try simp only [LN] at *) <;> omega)
 all_goals first
  | (refine ret1b 0 (.c (.osl 0 0 (b.length + i) (some (b.length + i)))) ((b ++ be i x).map cB) 1 5 false _ rfl rfl rfl ?_ ren_cB rfl (own_map fun _ => rfl) ⟨rfl, rfl, rfl⟩; simp)
  | fail
theorem putO2_con (b : List Int) (x : Int) (hb : b.length ≤ 1099511627776) (hx : 0 ≤ x ∧ x < 18446744073709551616) : Con Tryz.prog 78 [.one (.ro false 1 (b.map eB)), .one (.v (.int .u64 x)), .one (.v (.int .i64 2))] (fun rx rK rt => rx = .c (.osl 0 0 (b.length + 2) (some (b.length + 2))) ∧ rK = [(0, some ⟨(b ++ be 2 x).map cB, 1, 5, false⟩)] ∧ rt = 1) := putO_con b x 2 hb (by decide) hx
theorem putO16_con (b : List Int) (x : Int) (hb : b.length ≤ 1099511627776) (hx : 0 ≤ x ∧ x < 65536) : Con Tryz.prog 76 [.one (.ro false 1 (b.map eB)), .one (.v (.int .u16 x))] (fun rx rK rt => rx = .c (.osl 0 0 (b.length + 2) (some (b.length + 2))) ∧ rK = [(0, some ⟨(b ++ be 2 x).map cB, 1, 5, false⟩)] ∧ rt = 1) := by
 refine Z.con_ofZ tabOk 9 Tryz.f76 _ Tryz.func76 (by kernel_rfl) rfl rfl rfl rfl ?_
 repeat' ((conv => whnf); first
  | with_reducible refine wr_u64 (by omega) ?_
  | ((first | (with_reducible apply Z.callZ_mk ?_ (putO2_con _ _ ?_ ?_) ?_)); (rotate_left 2); (focus ((repeat' (first | exact trivial | exact rfl | apply And.intro)); done)); (iterate 2 (focus (first | assumption | omega))))
  | fail)
 all_goals (try (conv => whnf))
 all_goals try first | (show Nat.ble _ _ = true; rfl) | (exfalso; rename_i hz; cases hz; done) | (exfalso; (try simp only [LN] at *) <;> omega)
 all_goals first
  | (refine ret1b 0 (.c (.osl 0 0 (b.length + 2) (some (b.length + 2)))) ((b ++ be 2 x).map cB) 1 5 false _ rfl rfl rfl ren_cB ren_cB rfl (own_map fun _ => rfl) ⟨rfl, rfl, rfl⟩)
  | fail
end Tab
end Go.Proofs.YtopieffkpdlpbaaGreat
namespace Go.Proofs.YtopieffkpdlpbaaGreat
open Go Go.RowKit Wx
set_option maxHeartbeats 4000000
open Tab
theorem tkm1 {x : Int} {xs : List Int} : List.take ((List.map eB (x :: xs)).length - 1) (List.drop 1 (List.map eB (x :: xs))) = List.map eB xs := List.take_of_length_le (Nat.le_refl _)
theorem tkm2 {x y : Int} {xs : List Int} : List.take ((List.map eB (x :: y :: xs)).length - 2) (List.drop 2 (List.map eB (x :: y :: xs))) = List.map eB xs := List.take_of_length_le (Nat.le_refl _)
theorem tkm4 {x y z w : Int} {xs : List Int} : List.take ((List.map eB (x :: y :: z :: w :: xs)).length - 4) (List.drop 4 (List.map eB (x :: y :: z :: w :: xs))) = List.map eB xs := List.take_of_length_le (Nat.le_refl _)
theorem rawq {a b : Int} {N : Nat} (h : a * 256 + b = (N : Int)) : 18 * (a * 256 + b) = ((18 * N : Nat) : Int) := by rw [h]; omega
theorem loopZ_unr4 {P : Program} {T : Wx.Tab} {n m : Nat} {rd : Option Nat} {s : Z.S} {c : Code} {Q : Exit → Z.S → Prop} (hT : TabOk P T) (hs : Wx.get s.F 5 = some (.val (.int .i64 4))) (h : Z.loopU P T n m rd c Q 5 s) : Z.LoopZ P n m rd c s Q := Z.loopZ_unroll hT 5 h
end Go.Proofs.YtopieffkpdlpbaaGreat
namespace Go.Proofs.YtopieffkpdlpbaaGreat
open Go Go.RowKit Wx
set_option maxHeartbeats 4000000
open Tab
theorem valF {a b : Int} (h : a = b) : some (AV.val (.int .i64 a)) = some (AV.val (.int .i64 b)) := by rw [h]
theorem drop_getD {L : List Int} {j : Nat} (h : j < L.length) : L.drop j = L.getD j 0 :: L.drop (j + 1) := by
 rw [List.drop_eq_getElem_cons h, List.getD_eq_getElem?_getD, List.getElem?_eq_getElem h]; rfl
theorem getD_mem {L : List Int} {j : Nat} (h : j < L.length) : L.getD j 0 ∈ L := by
 rw [List.getD_eq_getElem?_getD, List.getElem?_eq_getElem h]; exact List.getElem_mem h
theorem getD_no {L : List Int} {j : Nat} (h : L.length ≤ j) : L.getD j 0 = 0 := by
 rw [List.getD_eq_getElem?_getD, List.getElem?_eq_none h]; rfl
theorem rn2 {f : Nat → Nat} {x : Int} {L : List Int} {sz ty : Nat} {bx : Bool} (h : be 2 x = L) : (Blk.ren f ⟨List.map cB ([] ++ be 2 x), sz, ty, bx⟩).rows = L.map cB := by
 show List.map (List.map (Ce.ren f)) (List.map cB ([] ++ be 2 x)) = _
 rw [ren_cB, List.nil_append, h]
theorem tkS {R S : List (List Ce)} {L T : List Int} {n : Nat} (hR : R = L.map cB) (hS : S = T.map cB) (hn : n = L.length) : List.take n R ++ S = (L ++ T).map cB := by
 subst hR hS hn
 rw [List.take_of_length_le (by simp), List.map_append]
theorem oslE {i n m : Nat} (h : n = m) : Z.Imp (.osl i 0 n none) (.osl i 0 m none) := Z.Imp.of_eq (by rw [h])
theorem tkT {B A A' : List Int} {S : List (List Ce)} {o : Int} {n : Nat} (hS : S = [cB o]) (hn : n = (B ++ A).length) (h : A' = A ++ [o]) : List.take n ((B ++ A).map cB) ++ S = (B ++ A').map cB := by
 rw [tkS rfl (T := [o]) hS hn, List.append_assoc, h]
theorem oslF {i n m : Nat} (h : n = m) : some (AV.c (Ce.osl i 0 n none)) = some (AV.c (Ce.osl i 0 m none)) := by rw [h]
end Go.Proofs.YtopieffkpdlpbaaGreat
namespace Go.Proofs.YtopieffkpdlpbaaGreat
open Go Go.RowKit Wx
set_option maxHeartbeats 4000000
open Tab
theorem decT_len {b : List Int} (hB : isB b) : (decT b).1.length ≤ 256 := by
 rcases decT_any hB with ⟨_, _, h, _⟩ | ⟨h, _⟩
 ·exact h
 ·rw [h]; simp
theorem srdec_ok (t0 t1 t2 t3 t4 t5 p0 p1 p2 p3 p4 p5 p6 p7 m : Int) (R0 R3 : List Int) (N : Nat) (hB : isB (t0 :: t1 :: t2 :: t3 :: t4 :: t5 :: (R0 ++ (p0 :: p1 :: p2 :: p3 :: p4 :: p5 :: p6 :: p7 :: m :: R3)))) (hN : numR [t4, t5] = (N : Int)) (hR0 : R0.length = 18 * N) (hl : (t0 :: t1 :: t2 :: t3 :: t4 :: t5 :: (R0 ++ (p0 :: p1 :: p2 :: p3 :: p4 :: p5 :: p6 :: p7 :: m :: R3))).length ≤ 1000000000) : Con Tryz.prog 18 [.one (.ro false 1 ((t0 :: t1 :: t2 :: t3 :: t4 :: t5 :: (R0 ++ (p0 :: p1 :: p2 :: p3 :: p4 :: p5 :: p6 :: p7 :: m :: R3))).map eB))] (fun rx rK rt => rx = .tup [.agg [.v (.int .i64 (decS (t0 :: t1 :: t2 :: t3 :: t4 :: t5 :: (R0 ++ (p0 :: p1 :: p2 :: p3 :: p4 :: p5 :: p6 :: p7 :: m :: R3)))).1.op), .v (.int .i64 (decS (t0 :: t1 :: t2 :: t3 :: t4 :: t5 :: (R0 ++ (p0 :: p1 :: p2 :: p3 :: p4 :: p5 :: p6 :: p7 :: m :: R3)))).1.ix), .v (.int .i64 (decS (t0 :: t1 :: t2 :: t3 :: t4 :: t5 :: (R0 ++ (p0 :: p1 :: p2 :: p3 :: p4 :: p5 :: p6 :: p7 :: m :: R3)))).1.w), .v (.bool (decS (t0 :: t1 :: t2 :: t3 :: t4 :: t5 :: (R0 ++ (p0 :: p1 :: p2 :: p3 :: p4 :: p5 :: p6 :: p7 :: m :: R3)))).1.en), .ro true 4 ((decS (t0 :: t1 :: t2 :: t3 :: t4 :: t5 :: (R0 ++ (p0 :: p1 :: p2 :: p3 :: p4 :: p5 :: p6 :: p7 :: m :: R3)))).1.rows.map Tab.eK), .v (.int .i64 (decS (t0 :: t1 :: t2 :: t3 :: t4 :: t5 :: (R0 ++ (p0 :: p1 :: p2 :: p3 :: p4 :: p5 :: p6 :: p7 :: m :: R3)))).1.o0), .v (.int .i64 (decS (t0 :: t1 :: t2 :: t3 :: t4 :: t5 :: (R0 ++ (p0 :: p1 :: p2 :: p3 :: p4 :: p5 :: p6 :: p7 :: m :: R3)))).1.o1), .v (.int .i64 (decS (t0 :: t1 :: t2 :: t3 :: t4 :: t5 :: (R0 ++ (p0 :: p1 :: p2 :: p3 :: p4 :: p5 :: p6 :: p7 :: m :: R3)))).1.o2), .v (.int .i64 (decS (t0 :: t1 :: t2 :: t3 :: t4 :: t5 :: (R0 ++ (p0 :: p1 :: p2 :: p3 :: p4 :: p5 :: p6 :: p7 :: m :: R3)))).1.o3), .v (.int .i64 (decS (t0 :: t1 :: t2 :: t3 :: t4 :: t5 :: (R0 ++ (p0 :: p1 :: p2 :: p3 :: p4 :: p5 :: p6 :: p7 :: m :: R3)))).1.o4), .v (.int .i64 (decS (t0 :: t1 :: t2 :: t3 :: t4 :: t5 :: (R0 ++ (p0 :: p1 :: p2 :: p3 :: p4 :: p5 :: p6 :: p7 :: m :: R3)))).1.o5), .v (.int .i64 (decS (t0 :: t1 :: t2 :: t3 :: t4 :: t5 :: (R0 ++ (p0 :: p1 :: p2 :: p3 :: p4 :: p5 :: p6 :: p7 :: m :: R3)))).1.o6), .v (.int .i64 (decS (t0 :: t1 :: t2 :: t3 :: t4 :: t5 :: (R0 ++ (p0 :: p1 :: p2 :: p3 :: p4 :: p5 :: p6 :: p7 :: m :: R3)))).1.o7), .ro true 3 ((decS (t0 :: t1 :: t2 :: t3 :: t4 :: t5 :: (R0 ++ (p0 :: p1 :: p2 :: p3 :: p4 :: p5 :: p6 :: p7 :: m :: R3)))).1.txs.map eN)], .one (.v (.int .i64 (decS (t0 :: t1 :: t2 :: t3 :: t4 :: t5 :: (R0 ++ (p0 :: p1 :: p2 :: p3 :: p4 :: p5 :: p6 :: p7 :: m :: R3)))).2))] ∧ rK = [] ∧ rt = 0) := by
 refine Z.con_ofF tabOk 152 Tryz.f18 _ Tryz.func18 (by kernel_rfl) rfl rfl rfl rfl ?_
 obtain ⟨b, hb⟩ : ∃ b, b = (t0 :: t1 :: t2 :: t3 :: t4 :: t5 :: (R0 ++ (p0 :: p1 :: p2 :: p3 :: p4 :: p5 :: p6 :: p7 :: m :: R3))) := ⟨_, rfl⟩
 rw [← hb] at hB hl ⊢
 obtain ⟨DS, hDS⟩ : ∃ DS, DS = decS b := ⟨_, rfl⟩
 rw [← hDS]
 have hq := (hDS.trans (by rw [hb]; rfl)).trans (decS_eq (t0 := t0) (t1 := t1) (t2 := t2) (t3 := t3) (p0 := p0) (p1 := p1) (p2 := p2) (p3 := p3) (p4 := p4) (p5 := p5) (p6 := p6) (p7 := p7) (m := m) (R1 := t4 :: t5 :: R0) (R3 := R3) (N := N) hN (by simp only [List.length_cons, hR0]; omega))
 have hmem : ∀ z ∈ (t0 :: t1 :: t2 :: t3 :: t4 :: t5 :: (R0 ++ (p0 :: p1 :: p2 :: p3 :: p4 :: p5 :: p6 :: p7 :: m :: R3))), 0 ≤ z ∧ z ≤ 255 := by rw [← hb]; exact hB
 have hb0 := hmem t0 (by simp)
 have hb1 := hmem t1 (by simp)
 have hb2 := hmem t2 (by simp)
 have hb3 := hmem t3 (by simp)
 have hb4 := hmem t4 (by simp)
 have hb5 := hmem t5 (by simp)
 have hm := hmem m (by simp)
 have hB3 : isB R3 := fun z hz => hmem z (by simp [hz])
 have hBR : isB (t4 :: t5 :: R0) := fun z hz => hmem z (by simp only [List.mem_cons] at hz; rcases hz with rfl | rfl | hz <;> simp [*])
 have hbl : b.length = 15 + 18 * N + R3.length := by rw [hb]; simp only [List.length_cons, List.length_append, hR0]; omega
 have g0 : b[0]? = some t0 := by rw [hb]; rfl
 have g1 : b[1]? = some t1 := by rw [hb]; rfl
 have g2 : b[2]? = some t2 := by rw [hb]; rfl
 have g3 : b[3]? = some t3 := by rw [hb]; rfl
 have k0 : b[6 + 18 * N + 0]? = some p0 := at_mid (A := t0 :: t1 :: t2 :: t3 :: t4 :: t5 :: (R0 ++ [])) (B := p1 :: p2 :: p3 :: p4 :: p5 :: p6 :: p7 :: m :: R3) (by rw [hb]; simp) (by simp only [List.length_cons, List.length_append, List.length_nil, hR0]; omega)
 have k1 : b[6 + 18 * N + 1]? = some p1 := at_mid (A := t0 :: t1 :: t2 :: t3 :: t4 :: t5 :: (R0 ++ [p0])) (B := p2 :: p3 :: p4 :: p5 :: p6 :: p7 :: m :: R3) (by rw [hb]; simp) (by simp only [List.length_cons, List.length_append, List.length_nil, hR0]; omega)
 have k2 : b[6 + 18 * N + 2]? = some p2 := at_mid (A := t0 :: t1 :: t2 :: t3 :: t4 :: t5 :: (R0 ++ [p0, p1])) (B := p3 :: p4 :: p5 :: p6 :: p7 :: m :: R3) (by rw [hb]; simp) (by simp only [List.length_cons, List.length_append, List.length_nil, hR0]; omega)
 have k3 : b[6 + 18 * N + 3]? = some p3 := at_mid (A := t0 :: t1 :: t2 :: t3 :: t4 :: t5 :: (R0 ++ [p0, p1, p2])) (B := p4 :: p5 :: p6 :: p7 :: m :: R3) (by rw [hb]; simp) (by simp only [List.length_cons, List.length_append, List.length_nil, hR0]; omega)
 have k4 : b[6 + 18 * N + 4]? = some p4 := at_mid (A := t0 :: t1 :: t2 :: t3 :: t4 :: t5 :: (R0 ++ [p0, p1, p2, p3])) (B := p5 :: p6 :: p7 :: m :: R3) (by rw [hb]; simp) (by simp only [List.length_cons, List.length_append, List.length_nil, hR0]; omega)
 have k5 : b[6 + 18 * N + 5]? = some p5 := at_mid (A := t0 :: t1 :: t2 :: t3 :: t4 :: t5 :: (R0 ++ [p0, p1, p2, p3, p4])) (B := p6 :: p7 :: m :: R3) (by rw [hb]; simp) (by simp only [List.length_cons, List.length_append, List.length_nil, hR0]; omega)
 have k6 : b[6 + 18 * N + 6]? = some p6 := at_mid (A := t0 :: t1 :: t2 :: t3 :: t4 :: t5 :: (R0 ++ [p0, p1, p2, p3, p4, p5])) (B := p7 :: m :: R3) (by rw [hb]; simp) (by simp only [List.length_cons, List.length_append, List.length_nil, hR0]; omega)
 have k7 : b[6 + 18 * N + 7]? = some p7 := at_mid (A := t0 :: t1 :: t2 :: t3 :: t4 :: t5 :: (R0 ++ [p0, p1, p2, p3, p4, p5, p6])) (B := m :: R3) (by rw [hb]; simp) (by simp only [List.length_cons, List.length_append, List.length_nil, hR0]; omega)
 have k8 : b[6 + 18 * N + 8]? = some m := at_mid (A := t0 :: t1 :: t2 :: t3 :: t4 :: t5 :: (R0 ++ [p0, p1, p2, p3, p4, p5, p6, p7])) (B := R3) (by rw [hb]; simp) (by simp only [List.length_cons, List.length_append, List.length_nil, hR0]; omega)
 have hp0 := hmem p0 (by simp)
 have hp1 := hmem p1 (by simp)
 have hp2 := hmem p2 (by simp)
 have hp3 := hmem p3 (by simp)
 have hp4 := hmem p4 (by simp)
 have hp5 := hmem p5 (by simp)
 have hp6 := hmem p6 (by simp)
 have hp7 := hmem p7 (by simp)
 have hR1 : List.take (6 + 18 * N - 4) (List.drop 4 (b.map eB)) = (t4 :: t5 :: R0).map eB := by
  rw [hb]
  show List.take _ ((t4 :: t5 :: (R0 ++ _)).map eB) = _
  rw [show t4 :: t5 :: (R0 ++ (p0 :: p1 :: p2 :: p3 :: p4 :: p5 :: p6 :: p7 :: m :: R3)) = (t4 :: t5 :: R0) ++ (p0 :: p1 :: p2 :: p3 :: p4 :: p5 :: p6 :: p7 :: m :: R3) from rfl, List.map_append]
  exact List.take_left' (by simp only [List.length_map, List.length_cons, hR0]; omega)
 have hR3 : b.drop (15 + 18 * N) = R3 := by
  rw [hb, show t0 :: t1 :: t2 :: t3 :: t4 :: t5 :: (R0 ++ (p0 :: p1 :: p2 :: p3 :: p4 :: p5 :: p6 :: p7 :: m :: R3)) = (t0 :: t1 :: t2 :: t3 :: t4 :: t5 :: (R0 ++ [p0, p1, p2, p3, p4, p5, p6, p7, m])) ++ R3 by simp]
  exact List.drop_left' (by simp only [List.length_cons, List.length_append, List.length_nil, hR0]; omega)
 have h46 : List.take (6 - 4) (List.drop 4 (b.map eB)) = [t4, t5].map eB := by rw [hb]; rfl
 have cn0 := num_con [t4, t5] (by simp) (fun z hz => by simp at hz; rcases hz with rfl | rfl <;> assumption)
 rw [hN] at cn0
 rw [numR2] at hN
 obtain ⟨n, hn⟩ : ∃ n : Nat, m = (n : Int) := ⟨m.toNat, by omega⟩
 subst hn
 have hn9 : n ≤ 255 := by omega
 have hN9 : N ≤ 65535 := by omega
 rw [Int.toNat_natCast] at hq
 clear hb hB hmem hDS
 by_cases hs : R3.length < 9 * n
 ·rw [if_pos hs] at hq
  rw [hq]
  clear hq
  repeat' ((conv => whnf); first
   | with_reducible first | refine spB_no (by decide) ?_
   | (with_reducible refine spB_dec ?_ ?_ <;> intro _ <;> (try (exfalso; (first | (simp only [LN] at *; omega)))))
   | ((with_reducible refine slN_lh 4 6 ?_ ?_ ?_ ?_ ?_); (iterate 4 (focus ((try simp only [LN] at *) <;> omega))))
   | with_reducible first | refine Z.rowN_known k8 ?_
   | ((with_reducible refine ixN_mk (6 + 18 * N + 8) ?_ ?_ ?_); (focus (first | rfl)); (focus ((try simp only [LN] at *) <;> omega)))
   | with_reducible refine wr_i64 (by first | omega | (simp only [LN] at *; omega)) ?_
   | ((first | (with_reducible refine Z.callZ_mk ?_ (cn0) ?_)); (focus ((repeat' (first | exact trivial | exact congrArg (Ce.ro false 1) h46.symm | apply And.intro)); done)))
   | fail)
  all_goals (try (conv => whnf))
  all_goals try first | (show Nat.ble _ _ = true; rfl) | (exfalso; rename_i hz; cases hz; done) | (exfalso; (try simp only [LN] at *) <;> omega)
  all_goals first
   | ((first | (with_reducible apply Z.retF2)); (focus rfl); (repeat' (first | exact trivial | (with_reducible apply Z.frz_one) | (with_reducible apply Z.frz_agg) | (with_reducible apply Z.fq_int) | (with_reducible apply Z.fq_bool) | (exact Z.frz_nil) | exact rfl | apply And.intro)); (all_goals (try exact (fun _ => none))); all_goals (first | (simp; done)))
   | fail
 rw [if_neg hs, decN_rows (by omega)] at hq
 dsimp only at hq
 have cd := rdec_con (t4 :: t5 :: R0) (by simp only [List.length_cons, hR0]; omega) hBR
 have hdl := decT_len hBR
 generalize decT (t4 :: t5 :: R0) = G at *
 obtain ⟨T, e⟩ := G
 dsimp only at cd hq hdl
 repeat' ((conv => whnf); first
  | with_reducible first | refine spB_no (by decide) ?_
  | (with_reducible refine spB_dec ?_ ?_ <;> intro _ <;> (try (exfalso; (first | (simp only [LN] at *; omega)))))
  | ((with_reducible refine slN_lh 4 6 ?_ ?_ ?_ ?_ ?_); (iterate 4 (focus ((try simp only [LN] at *) <;> omega))))
  | ((with_reducible refine slN_lh 4 (6 + 18 * N) ?_ ?_ ?_ ?_ ?_); (iterate 4 (focus ((try simp only [LN] at *) <;> omega))))
  | with_reducible first | refine Z.rowN_known k8 ?_
  | ((with_reducible refine ixN_mk (6 + 18 * N + 8) ?_ ?_ ?_); (focus (first | rfl)); (focus ((try simp only [LN] at *) <;> omega)))
  | with_reducible first | refine Z.rowN_known g0 ?_ | refine Z.rowN_known g1 ?_ | refine Z.rowN_known g2 ?_ | refine Z.rowN_known g3 ?_
  | ((with_reducible apply ixN_litp); (focus rfl); (focus ((try simp only [LN] at *) <;> omega)))
  | with_reducible refine wr_i64 (by first | omega | (simp only [LN] at *; omega)) ?_
  | ((first | (with_reducible refine Z.callZ_mk ?_ (cn0) ?_) | (with_reducible refine Z.callZ_mk ?_ (cd) ?_)); (focus ((repeat' (first | exact trivial | exact congrArg (Ce.ro false 1) h46.symm | exact congrArg (Ce.ro false 1) hR1.symm | apply And.intro)); done)))
  | with_reducible first | refine Z.drawZ_rule tabOk mixOk ?_ | refine Z.apZ_mk (by kernel_rfl) ?_
  | fail)
 all_goals (try (conv => whnf))
 all_goals try first | (show Nat.ble _ _ = true; rfl) | (exfalso; rename_i hz; cases hz; done) | (exfalso; (try simp only [LN] at *) <;> omega)
 refine Z.loopK tabOk (fun zq : Nat × Int × Int × Int × Int × Int × Int × Int × Int => [(68, .val (.int .i64 (zq.1 : Int)))]) (fun zq : Nat × Int × Int × Int × Int × Int × Int × Int × Int => ([(0, some (Z.Ob.b ⟨[[.v (.int .i64 0), .v (.int .i64 0), .v (.int .i64 0), .v (.bool false), .v (.slice none 0 0), .v (.int .i64 0), .v (.int .i64 0), .v (.int .i64 0), .v (.int .i64 0), .v (.int .i64 0), .v (.int .i64 0), .v (.int .i64 0), .v (.int .i64 0), .v (.slice none 0 0)]], 14, 35, true⟩)), (1, some (Z.Ob.b ⟨[[.v (.int .i64 t0), .v (.int .i64 t1), .v (.int .i64 t2), .v (.bool (t3 == 1)), .ro true 4 (T.map eK), .v (.int .i64 zq.2.1), .v (.int .i64 zq.2.2.1), .v (.int .i64 zq.2.2.2.1), .v (.int .i64 zq.2.2.2.2.1), .v (.int .i64 zq.2.2.2.2.2.1), .v (.int .i64 zq.2.2.2.2.2.2.1), .v (.int .i64 zq.2.2.2.2.2.2.2.1), .v (.int .i64 zq.2.2.2.2.2.2.2.2), .v (.slice none 0 0)]], 14, 35, true⟩))] : Z.Kr)) (fun zq => zq.1 ≤ 8 ∧ zq.2.1 = (if 0 < zq.1 then p0 else 0) ∧ zq.2.2.1 = (if 1 < zq.1 then p1 else 0) ∧ zq.2.2.2.1 = (if 2 < zq.1 then p2 else 0) ∧ zq.2.2.2.2.1 = (if 3 < zq.1 then p3 else 0) ∧ zq.2.2.2.2.2.1 = (if 4 < zq.1 then p4 else 0) ∧ zq.2.2.2.2.2.2.1 = (if 5 < zq.1 then p5 else 0) ∧ zq.2.2.2.2.2.2.2.1 = (if 6 < zq.1 then p6 else 0) ∧ zq.2.2.2.2.2.2.2.2 = (if 7 < zq.1 then p7 else 0)) (fun zq => 8 - zq.1) (0, 0, 0, 0, 0, 0, 0, 0, 0) 3 [(0, _), (2, _), (4, _), (5, _), (7, _)] ⟨rfl, rfl, rfl, rfl, rfl, trivial⟩ [] trivial ?_ ?_ rfl rfl ⟨Nat.zero_le _, rfl, rfl, rfl, rfl, rfl, rfl, rfl, rfl⟩ ?_
 ·repeat' (first | exact trivial | apply And.intro | exact ⟨_, rfl, Z.Imp.refl _⟩)
 ·repeat' (first | exact trivial | exact (fun b hb => ⟨b, hb, Z.ImpO.refl b⟩) | apply And.intro)
 rintro ⟨k, c0, c1, c2, c3, c4, c5, c6, c7⟩ HINV
 (try dsimp only at HINV); (try dsimp only)
 obtain ⟨HI, H0, H1, H2, H3, H4, H5, H6, H7⟩ := HINV
 by_cases hk8 : k < 8
 ·obtain ⟨j, hj⟩ : ∃ j, j = k := ⟨k, rfl⟩
  have hk9 : k = 0 ∨ k = 1 ∨ k = 2 ∨ k = 3 ∨ k = 4 ∨ k = 5 ∨ k = 6 ∨ k = 7 := by omega
  clear hk8 hq cn0 cd
  rcases hk9 with rfl | rfl | rfl | rfl | rfl | rfl | rfl | rfl
  all_goals (
   repeat' ((conv => whnf); first
    | with_reducible first | refine spB_yes (by decide) ?_
    | with_reducible first | refine Z.rowN_known k0 ?_
    | ((with_reducible refine ixN_mk (6 + 18 * N + 0) ?_ ?_ ?_); (focus (first | rfl)); (focus ((try simp only [LN] at *) <;> omega)))
    | with_reducible first | refine Z.rowN_known k1 ?_
    | ((with_reducible refine ixN_mk (6 + 18 * N + 1) ?_ ?_ ?_); (focus (first | rfl)); (focus ((try simp only [LN] at *) <;> omega)))
    | with_reducible first | refine Z.rowN_known k2 ?_
    | ((with_reducible refine ixN_mk (6 + 18 * N + 2) ?_ ?_ ?_); (focus (first | rfl)); (focus ((try simp only [LN] at *) <;> omega)))
    | with_reducible first | refine Z.rowN_known k3 ?_
    | ((with_reducible refine ixN_mk (6 + 18 * N + 3) ?_ ?_ ?_); (focus (first | rfl)); (focus ((try simp only [LN] at *) <;> omega)))
    | with_reducible first | refine Z.rowN_known k4 ?_
    | ((with_reducible refine ixN_mk (6 + 18 * N + 4) ?_ ?_ ?_); (focus (first | rfl)); (focus ((try simp only [LN] at *) <;> omega)))
    | with_reducible first | refine Z.rowN_known k5 ?_
    | ((with_reducible refine ixN_mk (6 + 18 * N + 5) ?_ ?_ ?_); (focus (first | rfl)); (focus ((try simp only [LN] at *) <;> omega)))
    | with_reducible first | refine Z.rowN_known k6 ?_
    | ((with_reducible refine ixN_mk (6 + 18 * N + 6) ?_ ?_ ?_); (focus (first | rfl)); (focus ((try simp only [LN] at *) <;> omega)))
    | with_reducible first | refine Z.rowN_known k7 ?_
    | ((with_reducible refine ixN_mk (6 + 18 * N + 7) ?_ ?_ ?_); (focus (first | rfl)); (focus ((try simp only [LN] at *) <;> omega)))
    | ((with_reducible apply ixN_lit); (focus rfl); (focus rfl))
    | with_reducible refine wr_i64 (by first | omega | (simp only [LN] at *; omega)) ?_
    | fail)
   all_goals (try (conv => whnf))
   all_goals try (show Nat.ble _ _ = true; rfl)
   all_goals try (exfalso; rename_i hz; cases hz; done)
   all_goals try (exfalso; (try simp only [LN] at *) <;> omega))
  all_goals first
   | ((refine Z.rndK ((j + 1, (if j = 0 then p0 else c0), (if j = 1 then p1 else c1), (if j = 2 then p2 else c2), (if j = 3 then p3 else c3), (if j = 4 then p4 else c4), (if j = 5 then p5 else c5), (if j = 6 then p6 else c6), (if j = 7 then p7 else c7))) (fun s => [0, 1, 2]) rfl rfl rfl rfl ?_ ?_ ?_ ?_); (focus (repeat' (first | exact trivial | exact valF (by omega) | exact rfl | apply And.intro))); (focus (repeat' (first | exact trivial | (intro b hb; subst hj; cases hb; rfl) | apply And.intro))); (focus ((refine ⟨by (try dsimp only); omega, ?_, ?_, ?_, ?_, ?_, ?_, ?_, ?_⟩ <;> (subst hj; first | rfl | (rw [H0]; rfl) | (rw [H1]; rfl) | (rw [H2]; rfl) | (rw [H3]; rfl) | (rw [H4]; rfl) | (rw [H5]; rfl) | (rw [H6]; rfl) | (rw [H7]; rfl))))); ((try dsimp only); omega))
   | fail
 have hk9 : k = 8 := by omega
 subst hk9
 have H0 : c0 = p0 := H0
 subst H0
 have H1 : c1 = p1 := H1
 subst H1
 have H2 : c2 = p2 := H2
 subst H2
 have H3 : c3 = p3 := H3
 subst H3
 have H4 : c4 = p4 := H4
 subst H4
 have H5 : c5 = p5 := H5
 subst H5
 have H6 : c6 = p6 := H6
 subst H6
 have H7 : c7 = p7 := H7
 subst H7
 clear HI hk8
 repeat' ((conv => whnf); first
  | with_reducible first | refine spB_no (by decide) ?_
  | with_reducible first | refine Z.rowN_known k8 ?_
  | ((with_reducible refine ixN_mk (6 + 18 * N + 8) ?_ ?_ ?_); (focus (first | rfl)); (focus ((try simp only [LN] at *) <;> omega)))
  | with_reducible refine wr_i64 (by first | omega | (simp only [LN] at *; omega)) ?_
  | fail)
 all_goals (try (conv => whnf))
 all_goals try first | (show Nat.ble _ _ = true; rfl) | (exfalso; rename_i hz; cases hz; done) | (exfalso; (try simp only [LN] at *) <;> omega)
 refine Z.loopK tabOk (fun zq : Nat => [(88, .val (.int .i64 (zq : Int)))]) (fun zq : Nat => ([(0, some (Z.Ob.b ⟨[[.v (.int .i64 0), .v (.int .i64 0), .v (.int .i64 0), .v (.bool false), .v (.slice none 0 0), .v (.int .i64 0), .v (.int .i64 0), .v (.int .i64 0), .v (.int .i64 0), .v (.int .i64 0), .v (.int .i64 0), .v (.int .i64 0), .v (.int .i64 0), .v (.slice none 0 0)]], 14, 35, true⟩)), (1, some (Z.Ob.b ⟨[[.v (.int .i64 t0), .v (.int .i64 t1), .v (.int .i64 t2), .v (.bool (t3 == 1)), .ro true 4 (T.map eK), .v (.int .i64 c0), .v (.int .i64 c1), .v (.int .i64 c2), .v (.int .i64 c3), .v (.int .i64 c4), .v (.int .i64 c5), .v (.int .i64 c6), .v (.int .i64 c7), .gsl 2 ((namesB R3 zq).map cN)]], 14, 35, true⟩)), (2, (gB 3 74 ((namesB R3 zq).map cN)).map Z.Ob.b)] : Z.Kr)) (fun zq => zq ≤ n) (fun zq => n - zq) 0 3 [(0, _), (2, _), (4, _), (5, _), (7, _), (87, _)] ⟨rfl, rfl, rfl, rfl, rfl, rfl, trivial⟩ [] trivial ?_ ?_ rfl rfl (Nat.zero_le _) ?_
 ·repeat' (first | exact trivial | apply And.intro | exact ⟨_, rfl, Z.Imp.refl _⟩)
 ·repeat' (first | exact trivial | (intro b hb; cases hb; done) | exact (fun b hb => ⟨b, hb, Z.ImpO.refl b⟩) | (intro b hb; cases hb; refine ⟨_, rfl, ⟨rfl, rfl, rfl⟩, ?_⟩; (repeat' (first | exact trivial | apply And.intro | exact Z.Imp.refl _ | exact Z.Imp.nilg _)); done) | apply And.intro)
 rintro i HINV
 (try dsimp only at HINV); (try dsimp only)
 by_cases hi : i < n
 ·have hrs := @namesB_succ R3 i
  have hrl := @namesB_len R3 i
  obtain ⟨Dd, hD⟩ : ∃ Dd, Dd = R3.drop (9 * i) := ⟨_, rfl⟩
  have hDl : 9 ≤ Dd.length := by rw [hD, List.length_drop]; omega
  have hDB : isB Dd := by rw [hD]; exact isB_drop hB3
  have hX : List.take (24 + 18 * N + 9 * i - (15 + 18 * N + 9 * i)) (List.drop (15 + 18 * N + 9 * i) (b.map eB)) = (Dd.take 9).map eB := by
   rw [show 24 + 18 * N + 9 * i - (15 + 18 * N + 9 * i) = 9 by omega, hD, ← hR3, List.drop_drop, List.map_take, List.map_drop]
  rw [← hD] at hrs
  clear hD hR3
  obtain ⟨s, a0, a1, a2, a3, m0, m1, m2, m3, r, rfl⟩ := split9b hDl
  have hs9 := hDB s (by simp)
  have hBa : isB [a0, a1, a2, a3] := fun z hz => hDB z (by simp at hz; rcases hz with rfl | rfl | rfl | rfl <;> simp)
  have hBm : isB [m0, m1, m2, m3] := fun z hz => hDB z (by simp at hz; rcases hz with rfl | rfl | rfl | rfl <;> simp)
  have cn1 := num_con [a0, a1, a2, a3] (by simp) hBa
  have cn2 := num_con [m0, m1, m2, m3] (by simp) hBm
  have va := num4_le hBa (by simp)
  have vm := num4_le hBm (by simp)
  have hnd : nmD (s :: a0 :: a1 :: a2 :: a3 :: m0 :: m1 :: m2 :: m3 :: r) = ⟨s, numR [a0, a1, a2, a3], numR [m0, m1, m2, m3]⟩ := rfl
  rw [hnd] at hrs
  clear hnd
  generalize numR [a0, a1, a2, a3] = VA at *
  generalize numR [m0, m1, m2, m3] = VM at *
  have hr1 : List.take (5 - 1) (List.drop 1 (List.take (24 + 18 * N + 9 * i - (15 + 18 * N + 9 * i)) (List.drop (15 + 18 * N + 9 * i) (b.map eB)))) = [a0, a1, a2, a3].map eB := by rw [hX]; rfl
  have hr2 : List.take (9 - 5) (List.drop 5 (List.take (24 + 18 * N + 9 * i - (15 + 18 * N + 9 * i)) (List.drop (15 + 18 * N + 9 * i) (b.map eB)))) = [m0, m1, m2, m3].map eB := by rw [hX]; rfl
  repeat' ((conv => whnf); first
   | (with_reducible refine spB_dec ?_ ?_ <;> intro _ <;> (try (exfalso; (first | omega))))
   | ((with_reducible refine slN_lh (15 + 18 * N + 9 * i) (24 + 18 * N + 9 * i) ?_ ?_ ?_ ?_ ?_); (iterate 4 (focus ((try simp only [LN] at *) <;> omega))))
   | ((with_reducible refine rowN_mk (eB s) ?_ ?_); (focus (exact (congrArg (fun q : List (List RT) => q[0]?) hX).trans rfl)))
   | ((with_reducible refine slN_lh (1) (5) ?_ ?_ ?_ ?_ ?_); (iterate 4 (focus ((try simp only [LN] at *) <;> omega))))
   | ((with_reducible refine slN_lh (5) (9) ?_ ?_ ?_ ?_ ?_); (iterate 4 (focus ((try simp only [LN] at *) <;> omega))))
   | ((with_reducible refine posE_pos ?_ ?_); (focus ((try simp only [LN] at *) <;> omega)))
   | ((with_reducible apply ixN_litp); (focus rfl); (focus ((try simp only [LN] at *) <;> omega)))
   | ((with_reducible refine apdN.mk ?_ ?_ ?_ ?_ ?_ ?_); (focus (first | rfl)); (focus (first | exact one_all (by rfl))); (focus ((try simp only [LN] at *) <;> omega)); (focus ((try simp only [LN] at *) <;> omega)); (focus ((try simp only [LN] at *) <;> omega)))
   | with_reducible refine wr_i64 (by first | omega | (simp only [LN] at *; omega)) ?_
   | ((first | (with_reducible refine Z.conZ_mz ?_ (cn1) ?_)); (focus ((repeat' (first | exact trivial | exact congrArg (Ce.ro false 1) hr1.symm | apply And.intro)); done)))
   | ((first | (with_reducible refine Z.conZ_mz ?_ (cn2) ?_)); (focus ((repeat' (first | exact trivial | exact congrArg (Ce.ro false 1) hr2.symm | apply And.intro)); done)))
   | ((with_reducible refine eqN_mk2 ?_ ?_); (focus (exact Z.kb_some rfl)))
   | with_reducible first | refine Z.drawZ_rule tabOk mixOk ?_ | refine Z.apZ_mk (by kernel_rfl) ?_
   | fail)
  all_goals (try (conv => whnf))
  all_goals try first | (show Nat.ble _ _ = true; rfl) | (exfalso; rename_i hz; cases hz; done) | (exfalso; (try simp only [LN] at *) <;> omega)
  all_goals first
   | ((refine Z.rndK ((i + 1)) (fun s => [0, 1, s.idIn 1 13]) rfl rfl rfl rfl ?_ ?_ ?_ ?_); (focus (repeat' (first | exact trivial | exact rfl | apply And.intro))); (focus (repeat' (first | exact trivial | (intro b9 hb9; cases hb9; rw [hrs, List.map_append]; rfl) | exact Z.gB_sub' rfl (by rw [hrs, List.map_append]; rfl) (ren_map fun _ => rfl) | (intro b hb; cases hb; rfl) | apply And.intro))); (focus (((try dsimp only); omega))); ((try dsimp only); omega))
   | fail
 have hil : i = n := by omega
 subst hil
 have hnl := @namesB_len R3 i
 generalize namesB R3 i = acc at *
 clear hR3 cn0 cd
 have cr := rright_con (⟨t0, t1, t2, decide (t3 = 1), T, c0, c1, c2, c3, c4, c5, c6, c7, acc⟩ : Sn) (by show T.length ≤ 1000; omega) (by show acc.length ≤ _; omega)
 dsimp only at cr
 by_cases he : e = 0
 rotate_left
 ·rw [if_neg (fun q => he q.1.1)] at hq
  rw [hq]
  clear hq cr
  repeat' ((conv => whnf); first
   | with_reducible first | refine spB_t ?_
   | (with_reducible refine spB_dec ?_ ?_ <;> intro _ <;> (try (exfalso; (first | omega))))
   | (with_reducible refine spB_bne ?_ ?_ <;> intro _ <;> (try (exfalso; (first | contradiction))))
   | fail)
  all_goals (try (conv => whnf))
  all_goals try first | (show Nat.ble _ _ = true; rfl) | (exfalso; rename_i hz; cases hz; done) | (exfalso; (try simp only [LN] at *) <;> omega)
  all_goals first
   | ((first | (with_reducible apply Z.retF2)); (focus rfl); (repeat' (first | exact trivial | (with_reducible apply Z.frz_one) | (with_reducible apply Z.frz_agg) | (with_reducible apply Z.fq_int) | (with_reducible apply Z.fq_bool) | (exact Z.frz_nil) | exact rfl | apply And.intro)); (all_goals (try exact (fun _ => none))); all_goals (first | (simp; done)))
   | fail
 subst he
 by_cases h3 : t3 ≤ 1
 rotate_left
 ·rw [if_neg (fun q => h3 q.1.2)] at hq
  rw [hq]
  clear hq cr
  repeat' ((conv => whnf); first
   | with_reducible first | refine spB_t ?_
   | ((with_reducible apply spB_cong); (focus (simp only [splQ, Int.reduceBEq, Int.reduceBNe]; rfl)))
   | with_reducible first | refine spB_no (by decide) ?_
   | (with_reducible refine spB_dec ?_ ?_ <;> intro _ <;> (try (exfalso; (first | omega))))
   | with_reducible first | refine Z.rowN_known g3 ?_
   | ((with_reducible apply ixN_litp); (focus rfl); (focus ((try simp only [LN] at *) <;> omega)))
   | fail)
  all_goals (try (conv => whnf))
  all_goals try first | (show Nat.ble _ _ = true; rfl) | (exfalso; rename_i hz; cases hz; done) | (exfalso; (try simp only [LN] at *) <;> omega)
  all_goals first
   | ((first | (with_reducible apply Z.retF2)); (focus rfl); (repeat' (first | exact trivial | (with_reducible apply Z.frz_one) | (with_reducible apply Z.frz_agg) | (with_reducible apply Z.fq_int) | (with_reducible apply Z.fq_bool) | (exact Z.frz_nil) | exact rfl | apply And.intro)); (all_goals (try exact (fun _ => none))); all_goals (first | (simp; done)))
   | fail
 by_cases h9 : R3.length = 9 * i
 rotate_left
 ·rw [if_neg (fun q => h9 q.2.1)] at hq
  rw [hq]
  clear hq cr
  repeat' ((conv => whnf); first
   | with_reducible first | refine spB_t ?_
   | ((with_reducible apply spB_cong); (focus (simp only [splQ, Int.reduceBEq, Int.reduceBNe]; rfl)))
   | with_reducible first | refine spB_no (by decide) ?_
   | (with_reducible refine spB_dec ?_ ?_ <;> intro _ <;> (try (exfalso; (first | omega))))
   | (with_reducible refine spB_bne ?_ ?_ <;> intro _ <;> (try (exfalso; (first | (simp only [LN] at *; omega)))))
   | with_reducible first | refine Z.rowN_known k8 ?_
   | ((with_reducible refine ixN_mk (6 + 18 * N + 8) ?_ ?_ ?_); (focus (first | rfl)); (focus ((try simp only [LN] at *) <;> omega)))
   | with_reducible first | refine Z.rowN_known g3 ?_
   | ((with_reducible apply ixN_litp); (focus rfl); (focus ((try simp only [LN] at *) <;> omega)))
   | with_reducible refine wr_i64 (by first | omega | (simp only [LN] at *; omega)) ?_
   | fail)
  all_goals (try (conv => whnf))
  all_goals try first | (show Nat.ble _ _ = true; rfl) | (exfalso; rename_i hz; cases hz; done) | (exfalso; (try simp only [LN] at *) <;> omega)
  all_goals first
   | ((first | (with_reducible apply Z.retF2)); (focus rfl); (repeat' (first | exact trivial | (with_reducible apply Z.frz_one) | (with_reducible apply Z.frz_agg) | (with_reducible apply Z.fq_int) | (with_reducible apply Z.fq_bool) | (exact Z.frz_nil) | exact rfl | apply And.intro)); (all_goals (try exact (fun _ => none))); all_goals (first | (simp; done)))
   | fail
 cases hsn : snapR ⟨t0, t1, t2, decide (t3 = 1), T, c0, c1, c2, c3, c4, c5, c6, c7, acc⟩
 ·rw [if_neg (fun q => by have := q.2.2; rw [hsn] at this; cases this)] at hq
  rw [hq]
  rw [hsn] at cr
  clear hq
  repeat' ((conv => whnf); first
   | with_reducible first | refine spB_t ?_
   | ((with_reducible apply spB_cong); (focus (simp only [splQ, Int.reduceBEq, Int.reduceBNe]; rfl)))
   | with_reducible first | refine spB_no (by decide) ?_
   | (with_reducible refine spB_dec ?_ ?_ <;> intro _ <;> (try (exfalso; (first | omega))))
   | (with_reducible refine spB_bne ?_ ?_ <;> intro _ <;> (try (exfalso; (first | (simp only [LN] at *; omega)))))
   | with_reducible first | refine Z.rowN_known k8 ?_
   | ((with_reducible refine ixN_mk (6 + 18 * N + 8) ?_ ?_ ?_); (focus (first | rfl)); (focus ((try simp only [LN] at *) <;> omega)))
   | with_reducible first | refine Z.rowN_known g3 ?_
   | ((with_reducible apply ixN_litp); (focus rfl); (focus ((try simp only [LN] at *) <;> omega)))
   | with_reducible refine wr_i64 (by first | omega | (simp only [LN] at *; omega)) ?_
   | ((first | (with_reducible refine Z.callZ_mk ?_ (cr) ?_)); (focus ((repeat' (first | exact trivial | exact rfl | exact Z.low_gslm (by first | rfl | exact Z.kb_some rfl) (fun _ => rfl) | apply And.intro)); done)))
   | fail)
  all_goals (try (conv => whnf))
  all_goals try first | (show Nat.ble _ _ = true; rfl) | (exfalso; rename_i hz; cases hz; done) | (exfalso; (try simp only [LN] at *) <;> omega)
  all_goals first
   | ((first | (with_reducible apply Z.retF2)); (focus rfl); (repeat' (first | exact trivial | (with_reducible apply Z.frz_one) | (with_reducible apply Z.frz_agg) | (with_reducible apply Z.fq_int) | (with_reducible apply Z.fq_bool) | (exact Z.frz_nil) | exact rfl | apply And.intro)); (all_goals (try exact (fun _ => none))); all_goals (first | (simp; done)))
   | fail
 rw [if_pos ⟨⟨rfl, h3⟩, h9, hsn⟩] at hq
 rw [hq]
 rw [hsn] at cr
 clear hq
 repeat' ((conv => whnf); first
  | ((with_reducible apply spB_cong); (focus (simp only [splQ, Int.reduceBEq, Int.reduceBNe]; rfl)))
  | with_reducible first | refine spB_no (by decide) ?_
  | (with_reducible refine spB_dec ?_ ?_ <;> intro _ <;> (try (exfalso; (first | omega))))
  | (with_reducible refine spB_bne ?_ ?_ <;> intro _ <;> (try (exfalso; (first | (simp only [LN] at *; omega)))))
  | with_reducible first | refine Z.rowN_known k8 ?_
  | ((with_reducible refine ixN_mk (6 + 18 * N + 8) ?_ ?_ ?_); (focus (first | rfl)); (focus ((try simp only [LN] at *) <;> omega)))
  | with_reducible first | refine Z.rowN_known g3 ?_
  | ((with_reducible apply ixN_litp); (focus rfl); (focus ((try simp only [LN] at *) <;> omega)))
  | with_reducible refine wr_i64 (by first | omega | (simp only [LN] at *; omega)) ?_
  | ((first | (with_reducible refine Z.callZ_mk ?_ (cr) ?_)); (focus ((repeat' (first | exact trivial | exact rfl | exact Z.low_gslm (by first | rfl | exact Z.kb_some rfl) (fun _ => rfl) | apply And.intro)); done)))
  | fail)
 all_goals (try (conv => whnf))
 all_goals try first | (show Nat.ble _ _ = true; rfl) | (exfalso; rename_i hz; cases hz; done) | (exfalso; (try simp only [LN] at *) <;> omega)
 all_goals first
  | ((first | (with_reducible apply Z.retF2)); (focus rfl); (repeat' (first | exact trivial | (with_reducible apply Z.frz_one) | (with_reducible apply Z.frz_agg) | (with_reducible apply Z.fq_int) | (with_reducible apply Z.fq_bool) | (with_reducible apply Z.fq_ro) | ((with_reducible apply Z.fq_gsl); (focus (first | exact Z.isB_map _)); (focus (exact fun _ => rfl))) | exact rfl | apply And.intro)); (all_goals (try exact (fun _ => none))); all_goals (first | (simp; done)))
  | fail
end Go.Proofs.YtopieffkpdlpbaaGreat
namespace Go.Proofs.YtopieffkpdlpbaaGreat
open Go Go.RowKit Wx
set_option maxHeartbeats 4000000
open Tab
theorem srdec_con (b : List Int) (hB : isB b) (hl : b.length ≤ 1000000000) : Con Tryz.prog 18 [.one (.ro false 1 (b.map eB))] (fun rx rK rt => rx = .tup [.agg [.v (.int .i64 (decS b).1.op), .v (.int .i64 (decS b).1.ix), .v (.int .i64 (decS b).1.w), .v (.bool (decS b).1.en), .ro true 4 ((decS b).1.rows.map Tab.eK), .v (.int .i64 (decS b).1.o0), .v (.int .i64 (decS b).1.o1), .v (.int .i64 (decS b).1.o2), .v (.int .i64 (decS b).1.o3), .v (.int .i64 (decS b).1.o4), .v (.int .i64 (decS b).1.o5), .v (.int .i64 (decS b).1.o6), .v (.int .i64 (decS b).1.o7), .ro true 3 ((decS b).1.txs.map eN)], .one (.v (.int .i64 (decS b).2))] ∧ rK = [] ∧ rt = 0) := by
 by_cases h6 : b.length < 6
 ·rw [sh_six h6]
  exact srdec_six b h6
 obtain ⟨t0, t1, t2, t3, t4, t5, r, rfl⟩ := split6 (Nat.le_of_not_lt h6)
 have h4 := hB t4 (by simp)
 have h5 := hB t5 (by simp)
 obtain ⟨N, hN⟩ : ∃ N : Nat, numR [t4, t5] = (N : Int) := ⟨(numR [t4, t5]).toNat, by rw [numR2]; omega⟩
 have hl2 : r.length ≤ 1000000000 := by simp only [List.length_cons] at hl; omega
 by_cases hr : r.length < 18 * N + 9
 ·rw [sh_raw hN hr]
  exact srdec_raw t0 t1 t2 t3 t4 t5 r N hB hN hr hl2
 obtain ⟨R0, L, rfl, hR0⟩ : ∃ R0 L, r = R0 ++ L ∧ R0.length = 18 * N := ⟨r.take (18 * N), r.drop (18 * N), (List.take_append_drop _ _).symm, by rw [List.length_take]; omega⟩
 obtain ⟨p0, p1, p2, p3, p4, p5, p6, p7, m, R3, rfl⟩ := split9 (b := L) (by rw [List.length_append] at hr; omega)
 exact srdec_ok t0 t1 t2 t3 t4 t5 p0 p1 p2 p3 p4 p5 p6 p7 m R0 R3 N hB hN hR0 hl
end Go.Proofs.YtopieffkpdlpbaaGreat
