/-
  Strings: bytes as a string, strings against one another.
-/
import Derived.Test.YtllnmdmmmkoiaaaWn
import Derived.Laws.BytesArg
import Derived.Laws.Strings
namespace Go.Proofs.Ytllnmdmmmkoiaaa.Wx
open Go Go.RowKit
set_option linter.unusedVariables false
section
variable {P : Program} {o : Oper} {F0 : Nat → Option AV} {K0 : Nat → Option Blk} {top : Nat}
theorem y_eqStr (op : BinOp) (t : TypeId) (x y : Operand) (yt : TypeId) (ho : o.op = .binOp op t x y yt) (p q : ByteArray) (hx : evf F0 x = some (.val (.string p))) (hy : evf F0 y = some (.val (.string q))) (r : Bool)
    (hr : (op = .eql ∧ r = (p.toList == q.toList)) ∨ (op = .neq ∧ r = !(p.toList == q.toList))) : Yv P o F0 K0 [] (.val (.bool r)) := by
  intro n W F K I R a w hs hxx hk
  have hm : ∀ z ∈ [x, y], evf F z = evf F0 z := fun z hz => hxx z (by simpa [ho, Op.operands] using hz)
  have e1 := ev_plain hs ((hm x (by simp)).trans hx)
  have e2 := ev_plain hs ((hm y (by simp)).trans hy)
  refine ⟨_, ?_, rfl⟩
  simp only [execOp, ho, e1, e2]
  rw [Sem.run_bind, Sem.run_bind, eqGuard_at_string]
  simp only [Sem.run_pure, Result.andThen_ok]
  rcases hr with ⟨rfl, rfl⟩ | ⟨rfl, rfl⟩
  · simp only [binOp, Op.stringOp]; rfl
  · simp only [binOp, Op.stringOp]; rfl
/-- What a byte of a string asks. -/
structure sixN (p : ByteArray) (j : Int) (A : Int → Prop) : Prop where
  h : ∃ (j' : Nat) (b : UInt8), j = (j' : Int) ∧ p[j']? = some b ∧ A (b.toNat : Int)
theorem sixN_mk {p : ByteArray} {j : Int} {A : Int → Prop} (j' : Nat) (b : UInt8) (h1 : j = (j' : Int)) (h2 : p[j']? = some b) (k : A (b.toNat : Int)) : sixN p j A := ⟨j', b, h1, h2, k⟩
theorem y_indexstr (t : TypeId) (x y : Operand) (ho : o.op = .index t x y) (ti : TI) (ht : tiOf P t = some ti) (hkd : ti.kd = 3) (p : ByteArray) (hx : evf F0 x = some (.val (.string p))) (k : IntKind) (j : Int) (hy : evf F0 y = some (.val (.int k j))) (j' : Nat) (hj : j = (j' : Int)) (b : UInt8) (hb : p[j']? = some b) : Yv P o F0 K0 [] (.val (.int .u8 (b.toNat : Int))) := by
  obtain ⟨d, hu, hd⟩ := tiOf_kd ht
  have hds := kdOf_str (hd.trans hkd)
  subst hds hj
  intro n W F K I R a w hs hxx hk
  have hm : ∀ z ∈ [x, y], evf F z = evf F0 z := fun z hz => hxx z (by simpa [ho, Op.operands] using hz)
  have e1 := ev_plain hs ((hm x (by simp)).trans hx)
  have e2 := ev_plain hs ((hm y (by simp)).trans hy)
  refine ⟨_, ?_, rfl⟩
  simp only [execOp, ho, e1, e2]
  have hrun : (Instr.index t (.string p) (.int k (j' : Int))).run P w = .ok (.int .u8 (b.toNat : Int)) w := by
    unfold Instr.index
    simp only [asIntOf, Sem.run_bind, Sem.run_pure, Result.andThen_ok, run_underlying hu w]
    rw [if_pos (Int.natCast_nonneg j'), Int.toNat_natCast, hb]
    rfl
  rw [Sem.run_bind, hrun]
  rfl
/-- What bytes as a string ask. -/
structure strN (src : List (List Ce)) (m : Nat) (A : List Int → Prop) : Prop where
  h : ∃ xs : List Int, src = xs.map (fun z => [Ce.v (.int .u8 z)]) ∧ m = xs.length ∧ A xs
theorem strN_src {l : List Int} {g : Int → List RT} {fl : Bool} {m : Nat} {A : List Int → Prop} (hf : ∀ z, (g z).map (RT.ce fl) = [Ce.v (.int .u8 z)]) (hm : m = l.length) (k : A l) : strN ((l.map g).map (List.map (RT.ce fl))) m A :=
  ⟨l, by rw [List.map_map]; exact List.map_congr_left fun z _ => hf z, hm, k⟩
theorem strN_own {l : List Int} {g : Int → List Ce} {m n : Nat} {A : List Int → Prop} (hf : ∀ z, g z = [Ce.v (.int .u8 z)]) (hn : n = l.length) (hm : m = l.length) (k : A l) : strN (((l.map g).drop 0).take n) m A :=
  ⟨l, by rw [List.drop_zero, List.take_of_length_le (by simp; omega)]; exact List.map_congr_left fun z _ => hf z, hm, k⟩
theorem y_str (s d : TypeId) (x : Operand) (ho : o.op = .convert s d x) (ti : TI) (ht : tiOf P s = some ti) (e bt : Nat) (hel : ti.elem = some (e, 1, bt)) (te : TI) (hte : tiOf P e = some te) (hk : te.ikind = some .u8) (tj : TI) (hj : tiOf P d = some tj) (hkd : tj.kd = 3)
    (cx : Ce) (hx : evf F0 x = some (.c cx)) (xs : List Int) (src : List (List Ce)) (m : Nat) (rd : List Nat) (hsrc : srcOf K0 1 cx = some (src, m, rd)) (hxs : src = xs.map (fun z => [Ce.v (.int .u8 z)])) (hm : m = xs.length) : Yv P o F0 K0 rd (.val (.string (strOfNums xs))) := by
  obtain ⟨hu, inf, z, hinf, hz, hs1, hs2, hs3⟩ := tiOf_elem ht hel
  obtain ⟨dd, hdd, hkk⟩ := tiOf_kd hj
  have hds := kdOf_str (hkk.trans hkd)
  subst hds
  have hb := tiOf_int hte hk
  intro n W F K I R a w hs hxx hk
  have e1 := hs.ev ((hxx x (by simp [ho, Op.operands])).trans hx)
  subst hxs
  obtain ⟨ad, cap, news, hu1, hnl, hrows, hrel, hcells, hnone⟩ := src_spec hs.wd (srcOf_agree (fun j hj => hk j hj) hsrc) (by rw [hm]; simp) e1
  have hnews : news = xs.map (Value.int .u8) := by
    clear hcells hnone hnl hrows hsrc hm hxx e1
    induction xs generalizing news with
    | nil => cases news with
      | nil => rfl
      | cons => exact hrel.elim
    | cons z xs ih => cases news with
      | nil => exact hrel.elim
      | cons v news =>
        obtain ⟨h1, h2⟩ := hrel
        have h1 : v = .int .u8 z := h1
        rw [h1, ih news h2]; rfl
  refine ⟨_, ?_, rfl⟩
  simp only [execOp, ho, hu1]
  rw [Sem.run_bind]
  cases ad with
  | none =>
    have hm0 := hnone rfl
    have hx0 : xs = [] := List.eq_nil_of_length_eq_zero (by omega)
    subst hx0
    rw [run_convert_bytes_nil w s e hu hb m cap d hdd]
    rfl
  | some q =>
    have hl : (loadCells q m).run P w = .ok (xs.map (Value.int .u8)).toArray w := by
      have := run_loadCells_list (P := P) w q (xs.map (Value.int .u8)) (fun j v hj => hcells q rfl j v (by rw [hnews]; exact hj))
      simpa [← hm] using this
    rw [run_convert_bytes_string w s d e _ m cap hu hb hdd, run_bytesToString w _ m cap xs hl, foldl_push_bytes]
    simp [strOfNums, ByteArray.empty, ByteArray.emptyWithCapacity, Result.andThen_ok]
    rfl
end
theorem str_beq {xs ys : List Int} (hx : ∀ z ∈ xs, 0 ≤ z ∧ z ≤ 255) (hy : ∀ z ∈ ys, 0 ≤ z ∧ z ≤ 255) : ((strOfNums xs).toList == (strOfNums ys).toList) = decide (xs = ys) := by
  have key : ∀ {xs ys : List Int}, (∀ z ∈ xs, 0 ≤ z ∧ z ≤ 255) → (∀ z ∈ ys, 0 ≤ z ∧ z ≤ 255) → xs.map (fun n => UInt8.ofNat n.toNat) = ys.map (fun n => UInt8.ofNat n.toNat) → xs = ys := by
    intro xs
    induction xs with
    | nil => intro ys _ _ h; cases ys with
      | nil => rfl
      | cons => simp at h
    | cons x xs ih => intro ys h1 h2 h; cases ys with
      | nil => simp at h
      | cons y ys =>
        simp only [List.map_cons, List.cons.injEq] at h
        have a1 := h1 x List.mem_cons_self
        have a2 := h2 y List.mem_cons_self
        have h3 := congrArg UInt8.toNat h.1
        simp only [UInt8.toNat_ofNat'] at h3
        rw [ih (fun z hz => h1 z (List.mem_cons_of_mem _ hz)) (fun z hz => h2 z (List.mem_cons_of_mem _ hz)) h.2, show x = y by omega]
  rw [ByteArray.toList_eq, ByteArray.toList_eq, strOfNums_data, strOfNums_data]
  by_cases h : xs = ys
  · subst h; simp
  · rw [decide_eq_false h]
    exact beq_eq_false_iff_ne.2 fun e => h (key hx hy e)
end Go.Proofs.Ytllnmdmmmkoiaaa.Wx
