/-
  The walks of layer 25's functions (job), at the seat's numbers: what comes of a happening in a column.
-/
import Derived.Test.YtdepolfmibhojaaLow
import Derived.Deep.CutRange
import Derived.Deep.DeepCutAuto
import Derived.WalkKit
import Derived.ProofKit
import Derived.OpenShut
import Derived.Outline
import Derived.BigQuiet
import Derived.WalkSpells
import Derived.Below
import Derived.ChangeOld
import Derived.Lib.Hide
import Derived.Deep.Light
import Derived.Test.YtdepolfmibhojaaGrow
import Derived.Deep.MidRow
import Derived.Deep.RegionHeld3
import Derived.Lib.LazyBuf
import Derived.Laws.IdiomCopy
namespace Go.Proofs.Ytdepolfmibhojaa
open Go.ChangeShapes Go.WideShapes Go.ChangeAt Go.RowKit
set_option linter.unusedVariables false

theorem Try.info49 : (Try.prog.info? 49).map (fun i => (i.zero, i.size, i.bytes)) = some (some (.agg #[.int .i64 0, .int .i64 0, .bool false]), 3, 24) := by kernel_rfl

theorem to_any (x : Int) (w : World) :
    Calls Try.prog 25 #[.int .i64 x] w fun e w' => e = .returned (.agg #[.int .i64 x, .int .i64 0, .bool false]) ∧ Below w.heap.size w w' := by
  go_enter Try.func25, Try.ntmps25
  go_wp2
  refine bodyPost_ret (v := .agg #[.int .i64 x, .int .i64 0, .bool false]) (by simp [results, Try.results25, go_sem]) rfl ⟨rfl, ?_⟩
  exact (Below.refl _ _).alloc (Nat.le_refl _) _
theorem no_any (x : Int) (w : World) :
    Calls Try.prog 26 #[.int .i64 x] w fun e w' => e = .returned (.agg #[.int .i64 0, .int .i64 x, .bool false]) ∧ Below w.heap.size w w' := by
  go_enter Try.func26, Try.ntmps26
  go_wp2
  refine bodyPost_ret (v := .agg #[.int .i64 0, .int .i64 x, .bool false]) (by simp [results, Try.results26, go_sem]) rfl ⟨rfl, ?_⟩
  exact (Below.refl _ _).alloc (Nat.le_refl _) _


theorem len150 : ([.int .i64 0, .int .i64 0, .bool false, .int .i64 0, .int .i64 0, .bool false, .int .i64 0, .int .i64 0, .bool false, .int .i64 0, .int .i64 0, .bool false, .int .i64 0, .int .i64 0, .bool false, .int .i64 1, .int .i64 0, .bool false, .int .i64 0, .int .i64 5, .bool false, .int .i64 0, .int .i64 5, .bool false, .int .i64 0, .int .i64 5, .bool false, .int .i64 0, .int .i64 5, .bool false, .int .i64 0, .int .i64 4, .bool false, .int .i64 6, .int .i64 0, .bool false, .int .i64 6, .int .i64 0, .bool false, .int .i64 6, .int .i64 0, .bool false, .int .i64 0, .int .i64 351, .bool false, .int .i64 0, .int .i64 4, .bool false, .int .i64 0, .int .i64 0, .bool true, .int .i64 0, .int .i64 0, .bool true, .int .i64 0, .int .i64 0, .bool true, .int .i64 0, .int .i64 351, .bool false, .int .i64 0, .int .i64 4, .bool false, .int .i64 0, .int .i64 352, .bool false, .int .i64 1, .int .i64 0, .bool false, .int .i64 0, .int .i64 352, .bool false, .int .i64 0, .int .i64 351, .bool false, .int .i64 0, .int .i64 4, .bool false, .int .i64 3, .int .i64 0, .bool false, .int .i64 0, .int .i64 353, .bool false, .int .i64 0, .int .i64 5, .bool false, .int .i64 0, .int .i64 351, .bool false, .int .i64 0, .int .i64 4, .bool false, .int .i64 0, .int .i64 352, .bool false, .int .i64 0, .int .i64 352, .bool false, .int .i64 5, .int .i64 0, .bool false, .int .i64 0, .int .i64 351, .bool false, .int .i64 0, .int .i64 4, .bool false, .int .i64 0, .int .i64 352, .bool false, .int .i64 0, .int .i64 352, .bool false, .int .i64 1, .int .i64 0, .bool false, .int .i64 0, .int .i64 351, .bool false, .int .i64 0, .int .i64 4, .bool false, .int .i64 4, .int .i64 0, .bool false, .int .i64 0, .int .i64 352, .bool false, .int .i64 4, .int .i64 0, .bool false, .int .i64 0, .int .i64 351, .bool false, .int .i64 0, .int .i64 4, .bool false, .int .i64 7, .int .i64 0, .bool false, .int .i64 7, .int .i64 0, .bool false, .int .i64 7, .int .i64 0, .bool false, .int .i64 0, .int .i64 351, .bool false] : List Value).length = 150 := by rfl
theorem Try.size54 : (Try.prog.info? 54).map (·.size) = some 150 := by kernel_rfl
theorem zero54 (w : World) : (zeroValue 54).run Try.prog w = .ok (.agg #[.int .i64 0, .int .i64 0, .bool false, .int .i64 0, .int .i64 0, .bool false, .int .i64 0, .int .i64 0, .bool false, .int .i64 0, .int .i64 0, .bool false, .int .i64 0, .int .i64 0, .bool false, .int .i64 0, .int .i64 0, .bool false, .int .i64 0, .int .i64 0, .bool false, .int .i64 0, .int .i64 0, .bool false, .int .i64 0, .int .i64 0, .bool false, .int .i64 0, .int .i64 0, .bool false, .int .i64 0, .int .i64 0, .bool false, .int .i64 0, .int .i64 0, .bool false, .int .i64 0, .int .i64 0, .bool false, .int .i64 0, .int .i64 0, .bool false, .int .i64 0, .int .i64 0, .bool false, .int .i64 0, .int .i64 0, .bool false, .int .i64 0, .int .i64 0, .bool false, .int .i64 0, .int .i64 0, .bool false, .int .i64 0, .int .i64 0, .bool false, .int .i64 0, .int .i64 0, .bool false, .int .i64 0, .int .i64 0, .bool false, .int .i64 0, .int .i64 0, .bool false, .int .i64 0, .int .i64 0, .bool false, .int .i64 0, .int .i64 0, .bool false, .int .i64 0, .int .i64 0, .bool false, .int .i64 0, .int .i64 0, .bool false, .int .i64 0, .int .i64 0, .bool false, .int .i64 0, .int .i64 0, .bool false, .int .i64 0, .int .i64 0, .bool false, .int .i64 0, .int .i64 0, .bool false, .int .i64 0, .int .i64 0, .bool false, .int .i64 0, .int .i64 0, .bool false, .int .i64 0, .int .i64 0, .bool false, .int .i64 0, .int .i64 0, .bool false, .int .i64 0, .int .i64 0, .bool false, .int .i64 0, .int .i64 0, .bool false, .int .i64 0, .int .i64 0, .bool false, .int .i64 0, .int .i64 0, .bool false, .int .i64 0, .int .i64 0, .bool false, .int .i64 0, .int .i64 0, .bool false, .int .i64 0, .int .i64 0, .bool false, .int .i64 0, .int .i64 0, .bool false, .int .i64 0, .int .i64 0, .bool false, .int .i64 0, .int .i64 0, .bool false, .int .i64 0, .int .i64 0, .bool false, .int .i64 0, .int .i64 0, .bool false, .int .i64 0, .int .i64 0, .bool false, .int .i64 0, .int .i64 0, .bool false, .int .i64 0, .int .i64 0, .bool false, .int .i64 0, .int .i64 0, .bool false]) w := by kernel_rfl
theorem heap_size_alloc (w : World) (o : Obj) : (w.alloc o).heap.size = w.heap.size + 1 := by simp
theorem set_out {w : World} {b k o : Nat} {v : Value} {vs : List Value} (h : w.cell? ⟨k, o, none⟩ = some v) (hk : k < b) : (w.setCells b 0 vs).cell? ⟨k, o, none⟩ = some v := by
  rw [World.cell?_setCells_out b vs 0 w ⟨k, o, none⟩ (fun hh => absurd hh (by simp; omega))]; exact h
/-- What is known of a world on the way: nothing below has turned; the result's own block is as it was laid. -/
def CH (w w' : World) : Prop := Below w.heap.size w w' ∧ (w'.cell? ⟨w.heap.size, 0, none⟩ = some (.int .i64 0) ∧ w'.cell? ⟨w.heap.size, 1, none⟩ = some (.int .i64 0) ∧ w'.cell? ⟨w.heap.size, 2, none⟩ = some (.bool false)) ∧ (w'.frozen? ⟨w.heap.size, 0, none⟩ = false ∧ w'.frozen? ⟨w.heap.size, 1, none⟩ = false ∧ w'.frozen? ⟨w.heap.size, 2, none⟩ = false)
theorem CH.step {w W w1 : World} (h : CH w W) (hb : Below W.heap.size W w1) : CH w w1 := by
  obtain ⟨h0, ⟨h1, h2, h3⟩, h4, h5, h6⟩ := h
  have lt := World.block_lt_of_cell? _ _ h1
  exact ⟨h0.trans (hb.mono h0.size), ⟨cell_later hb h1, cell_later hb h2, cell_later hb h3⟩, (hb.frozen (p := ⟨w.heap.size, 0, none⟩) lt).trans h4, (hb.frozen (p := ⟨w.heap.size, 1, none⟩) lt).trans h5, (hb.frozen (p := ⟨w.heap.size, 2, none⟩) lt).trans h6⟩
theorem CH.alloc {w W : World} (h : CH w W) (o : Obj) : CH w (W.alloc o) := h.step ((Below.refl _ _).alloc (Nat.le_refl _) o)
theorem CH.drew {w W : World} (h : CH w W) : CH w W.drew := h.step (Below.refl _ _).drew
theorem CH.new (w : World) : CH w (w.alloc (.cells #[.int .i64 0, .int .i64 0, .bool false] 49)) := by
  refine ⟨(Below.refl _ _).alloc (Nat.le_refl _) _, ⟨?_, ?_, ?_⟩, ?_, ?_, ?_⟩ <;> simp [go_sem]
theorem CH.set {w W : World} (h : CH w W) {b : Nat} (hb : w.heap.size < b) (vs : List Value) : CH w (W.setCells b 0 vs) := by
  obtain ⟨h0, ⟨h1, h2, h3⟩, h4, h5, h6⟩ := h
  exact ⟨below_setCells (Nat.le_of_lt hb) vs 0 W h0, ⟨set_out h1 hb, set_out h2 hb, set_out h3 hb⟩, (World.frozen?_setCells b vs 0 W _).trans h4, (World.frozen?_setCells b vs 0 W _).trans h5, (World.frozen?_setCells b vs 0 W _).trans h6⟩
/-- Three cells of the table's type. -/
def T3 (w : World) (b : Nat) (x y : Int) (z : Bool) : Prop := w.heap[b]? = some (.cells #[.int .i64 x, .int .i64 y, .bool z] 49 (0, 0))
theorem T3.later {w w1 : World} {b : Nat} {x y : Int} {z : Bool} (h : T3 w b x y z) (hb : Below w.heap.size w w1) : T3 w1 b x y z := (hb.block b (lt_of_block h)).trans h
theorem T3.alloc {w : World} {b : Nat} {x y : Int} {z : Bool} (h : T3 w b x y z) (o : Obj) : T3 (w.alloc o) b x y z := h.later ((Below.refl _ _).alloc (Nat.le_refl _) o)
theorem T3.new (w : World) (x y : Int) (z : Bool) : T3 (w.alloc (.cells #[.int .i64 x, .int .i64 y, .bool z] 49)) w.heap.size x y z := heap_alloc_new _ _
theorem T3.cells {w : World} {b : Nat} {x y : Int} {z : Bool} (h : T3 w b x y z) : w.cell? ⟨b, 0, none⟩ = some (.int .i64 x) ∧ w.cell? ⟨b, 1, none⟩ = some (.int .i64 y) ∧ w.cell? ⟨b, 2, none⟩ = some (.bool z) := by
  unfold T3 at h
  simp [World.cell?, h]
/-- The table, behind the store. -/
def Laid (w : World) (p : Value) (wc : World) : Prop := ∃ b, p = .pointer (some ⟨b, 0, none⟩) ∧ wc.rangeAt b 0 [.int .i64 0, .int .i64 0, .bool false, .int .i64 0, .int .i64 0, .bool false, .int .i64 0, .int .i64 0, .bool false, .int .i64 0, .int .i64 0, .bool false, .int .i64 0, .int .i64 0, .bool false, .int .i64 1, .int .i64 0, .bool false, .int .i64 0, .int .i64 5, .bool false, .int .i64 0, .int .i64 5, .bool false, .int .i64 0, .int .i64 5, .bool false, .int .i64 0, .int .i64 5, .bool false, .int .i64 0, .int .i64 4, .bool false, .int .i64 6, .int .i64 0, .bool false, .int .i64 6, .int .i64 0, .bool false, .int .i64 6, .int .i64 0, .bool false, .int .i64 0, .int .i64 351, .bool false, .int .i64 0, .int .i64 4, .bool false, .int .i64 0, .int .i64 0, .bool true, .int .i64 0, .int .i64 0, .bool true, .int .i64 0, .int .i64 0, .bool true, .int .i64 0, .int .i64 351, .bool false, .int .i64 0, .int .i64 4, .bool false, .int .i64 0, .int .i64 352, .bool false, .int .i64 1, .int .i64 0, .bool false, .int .i64 0, .int .i64 352, .bool false, .int .i64 0, .int .i64 351, .bool false, .int .i64 0, .int .i64 4, .bool false, .int .i64 3, .int .i64 0, .bool false, .int .i64 0, .int .i64 353, .bool false, .int .i64 0, .int .i64 5, .bool false, .int .i64 0, .int .i64 351, .bool false, .int .i64 0, .int .i64 4, .bool false, .int .i64 0, .int .i64 352, .bool false, .int .i64 0, .int .i64 352, .bool false, .int .i64 5, .int .i64 0, .bool false, .int .i64 0, .int .i64 351, .bool false, .int .i64 0, .int .i64 4, .bool false, .int .i64 0, .int .i64 352, .bool false, .int .i64 0, .int .i64 352, .bool false, .int .i64 1, .int .i64 0, .bool false, .int .i64 0, .int .i64 351, .bool false, .int .i64 0, .int .i64 4, .bool false, .int .i64 4, .int .i64 0, .bool false, .int .i64 0, .int .i64 352, .bool false, .int .i64 4, .int .i64 0, .bool false, .int .i64 0, .int .i64 351, .bool false, .int .i64 0, .int .i64 4, .bool false, .int .i64 7, .int .i64 0, .bool false, .int .i64 7, .int .i64 0, .bool false, .int .i64 7, .int .i64 0, .bool false, .int .i64 0, .int .i64 351, .bool false] ∧ CH w wc ∧ w.heap.size < b
theorem yd_move {C : World → Prop} {ρ : Operand → Value} {o : Oper} {v : Value} (x : Operand) (ho : o.op = .move x) (hx : ρ x = v) : Yd Try.prog C (execOp ρ o) v := by
  obtain ⟨dst, op, ty, pos, af, g⟩ := o
  subst ho hx
  exact fun w hw => ⟨rfl, rfl⟩
theorem yd_to {C : World → Prop} {ρ : Operand → Value} {o : Oper} (n : Int) (x : Operand) (ts : Array TypeId) (ho : o.op = .call ⟨.value x, #[.const (.int .i64 n)], ts⟩) (hx : ρ x = .func (.func 25) #[] #[]) (hk : ρ (.const (.int .i64 n)) = .int .i64 n) : Yd Try.prog C (execOp ρ o) (.agg #[.int .i64 n, .int .i64 0, .bool false]) := by
  obtain ⟨dst, op, ty, pos, af, g⟩ := o
  subst ho
  intro w hw
  have h : (execOp ρ ⟨dst, .call ⟨.value x, #[.const (.int .i64 n)], ts⟩, ty, pos, af, g⟩).run Try.prog w = .ok (.enter 25 #[.int .i64 n]) w := by
    simp [go_sem, hx, hk]
  rw [h]
  exact ⟨rfl, to_any n w⟩
theorem yd_no {C : World → Prop} {ρ : Operand → Value} {o : Oper} (n : Int) (x : Operand) (ts : Array TypeId) (ho : o.op = .call ⟨.value x, #[.const (.int .i64 n)], ts⟩) (hx : ρ x = .func (.func 26) #[] #[]) (hk : ρ (.const (.int .i64 n)) = .int .i64 n) : Yd Try.prog C (execOp ρ o) (.agg #[.int .i64 0, .int .i64 n, .bool false]) := by
  obtain ⟨dst, op, ty, pos, af, g⟩ := o
  subst ho
  intro w hw
  have h : (execOp ρ ⟨dst, .call ⟨.value x, #[.const (.int .i64 n)], ts⟩, ty, pos, af, g⟩).run Try.prog w = .ok (.enter 26 #[.int .i64 n]) w := by
    simp [go_sem, hx, hk]
  rw [h]
  exact ⟨rfl, no_any n w⟩
theorem yd_load {C : World → Prop} {ρ : Operand → Value} {o : Oper} {b : Nat} {p q : Int} {r : Bool} (x : Operand) (ho : o.op = .load 49 x) (hx : ρ x = .pointer (some ⟨b, 0, none⟩)) (h : ∀ w, C w → T3 w b p q r) :
    Yd Try.prog C (execOp ρ o) (.agg #[.int .i64 p, .int .i64 q, .bool r]) := by
  obtain ⟨dst, op, ty, pos, af, g⟩ := o
  subst ho
  intro w hw
  obtain ⟨h0, h1, h2⟩ := (h w hw).cells
  have h : (execOp ρ ⟨dst, .load 49 x, ty, pos, af, g⟩).run Try.prog w = .ok (.value (.agg #[.int .i64 p, .int .i64 q, .bool r])) w := by
    simp [go_sem, hx, h0, h1, h2]
  rw [h]
  exact ⟨rfl, rfl⟩
theorem yd_pure {C : World → Prop} {ρ : Operand → Value} {o : Oper} {v : Value} (h : ∀ w, (execOp ρ o).run Try.prog w = .ok (.value v) w) : Yd Try.prog C (execOp ρ o) v := fun w _ => by
  rw [h w]; exact ⟨rfl, rfl⟩
theorem run_alloc54 (o : Oper) (ho : o.op = .alloc 54) (a : Act) (w : World) : (execOp a.eval o).run Try.prog w = .ok (.value (.pointer (some ⟨w.heap.size, 0, none⟩))) (w.alloc (.cells #[.int .i64 0, .int .i64 0, .bool false, .int .i64 0, .int .i64 0, .bool false, .int .i64 0, .int .i64 0, .bool false, .int .i64 0, .int .i64 0, .bool false, .int .i64 0, .int .i64 0, .bool false, .int .i64 0, .int .i64 0, .bool false, .int .i64 0, .int .i64 0, .bool false, .int .i64 0, .int .i64 0, .bool false, .int .i64 0, .int .i64 0, .bool false, .int .i64 0, .int .i64 0, .bool false, .int .i64 0, .int .i64 0, .bool false, .int .i64 0, .int .i64 0, .bool false, .int .i64 0, .int .i64 0, .bool false, .int .i64 0, .int .i64 0, .bool false, .int .i64 0, .int .i64 0, .bool false, .int .i64 0, .int .i64 0, .bool false, .int .i64 0, .int .i64 0, .bool false, .int .i64 0, .int .i64 0, .bool false, .int .i64 0, .int .i64 0, .bool false, .int .i64 0, .int .i64 0, .bool false, .int .i64 0, .int .i64 0, .bool false, .int .i64 0, .int .i64 0, .bool false, .int .i64 0, .int .i64 0, .bool false, .int .i64 0, .int .i64 0, .bool false, .int .i64 0, .int .i64 0, .bool false, .int .i64 0, .int .i64 0, .bool false, .int .i64 0, .int .i64 0, .bool false, .int .i64 0, .int .i64 0, .bool false, .int .i64 0, .int .i64 0, .bool false, .int .i64 0, .int .i64 0, .bool false, .int .i64 0, .int .i64 0, .bool false, .int .i64 0, .int .i64 0, .bool false, .int .i64 0, .int .i64 0, .bool false, .int .i64 0, .int .i64 0, .bool false, .int .i64 0, .int .i64 0, .bool false, .int .i64 0, .int .i64 0, .bool false, .int .i64 0, .int .i64 0, .bool false, .int .i64 0, .int .i64 0, .bool false, .int .i64 0, .int .i64 0, .bool false, .int .i64 0, .int .i64 0, .bool false, .int .i64 0, .int .i64 0, .bool false, .int .i64 0, .int .i64 0, .bool false, .int .i64 0, .int .i64 0, .bool false, .int .i64 0, .int .i64 0, .bool false, .int .i64 0, .int .i64 0, .bool false, .int .i64 0, .int .i64 0, .bool false, .int .i64 0, .int .i64 0, .bool false, .int .i64 0, .int .i64 0, .bool false, .int .i64 0, .int .i64 0, .bool false, .int .i64 0, .int .i64 0, .bool false] 54)) := by
  obtain ⟨dst, op, ty, pos, af, g⟩ := o
  subst ho
  simp [go_sem, zero54]
theorem run_store54 (ops : Array Oper) (hs : (ops[64]?).map (fun o => (o.op, o.guard, o.dst)) = some (.store 54 (.tmp 14) (.tmp 90), none, none)) (a : Act) (w : World) (b : Nat) (cs : Array Value) (hsz : cs.size = 150) (h1 : cs.all (·.oneCell') = true) (ht : w.there b 0 150) (hp : a.eval (.tmp 14) = .pointer (some ⟨b, 0, none⟩)) (hv : a.eval (.tmp 90) = .agg cs)
    (Q : Exit → Act → World → Prop) (K : Act → World → Prop) (h : K a (w.setCells b 0 cs.toList)) : wpOp Try.prog ops Q 64 K a w := by
  obtain ⟨o, hs, he⟩ := Option.map_eq_some_iff.1 hs
  obtain ⟨dst, op, ty, pos, af, g⟩ := o
  simp only [Prod.mk.injEq] at he
  obtain ⟨rfl, rfl, rfl⟩ := he
  have hst := run_storeVar_mid (P := Try.prog) w b 0 54 cs (by rw [hsz]; exact ht) (by rw [Try.size54, hsz]) h1
  have hr : (execOp a.eval ⟨none, .store 54 (.tmp 14) (.tmp 90), ty, pos, af, none⟩).run Try.prog w = .ok .skip (w.setCells b 0 cs.toList) := by
    generalize a.eval = ρ at hp hv ⊢
    have he : execOp ρ ⟨none, .store 54 (.tmp 14) (.tmp 90), ty, pos, af, none⟩ = (storeVar 54 ⟨b, 0, none⟩ (.agg cs)).bind fun _ => .pure .skip := by
      simp only [execOp, Instr.storeAt, Instr.sureAddr, hp, hv]
      rfl
    rw [he, Sem.run_bind', hst]
    rfl
  unfold wpOp
  simp only [hs, Region.wanted, if_true]
  refine .inl ?_
  unfold Oper.wp
  rw [hr]
  exact h
theorem yd_build53 {C : World → Prop} {ρ : Operand → Value} {o : Oper} {x0 x1 x2 x3 x4 : Operand} {a0 a1 a2 b0 b1 b2 c0 c1 c2 d0 d1 d2 e0 e1 e2 : Value} (ho : o.op = .build 53 #[(0, x0), (1, x1), (2, x2), (3, x3), (4, x4)])
    (h0 : ρ x0 = .agg #[a0, a1, a2]) (h1 : ρ x1 = .agg #[b0, b1, b2]) (h2 : ρ x2 = .agg #[c0, c1, c2]) (h3 : ρ x3 = .agg #[d0, d1, d2]) (h4 : ρ x4 = .agg #[e0, e1, e2]) :
    Yd Try.prog C (execOp ρ o) (.agg #[a0, a1, a2, b0, b1, b2, c0, c1, c2, d0, d1, d2, e0, e1, e2]) := by
  obtain ⟨dst, op, ty, pos, af, g⟩ := o
  subst ho
  refine yd_pure (fun w => ?_)
  simp [go_sem, h0, h1, h2, h3, h4]
theorem yd_build54 {C : World → Prop} {ρ : Operand → Value} {o : Oper} {x0 x1 x2 x3 x4 x5 x6 x7 x8 : Operand} {a0 a1 a2 a3 a4 a5 a6 a7 a8 a9 a10 a11 a12 a13 a14 b0 b1 b2 b3 b4 b5 b6 b7 b8 b9 b10 b11 b12 b13 b14 c0 c1 c2 c3 c4 c5 c6 c7 c8 c9 c10 c11 c12 c13 c14 d0 d1 d2 d3 d4 d5 d6 d7 d8 d9 d10 d11 d12 d13 d14 e0 e1 e2 e3 e4 e5 e6 e7 e8 e9 e10 e11 e12 e13 e14 f0 f1 f2 f3 f4 f5 f6 f7 f8 f9 f10 f11 f12 f13 f14 g0 g1 g2 g3 g4 g5 g6 g7 g8 g9 g10 g11 g12 g13 g14 h0 h1 h2 h3 h4 h5 h6 h7 h8 h9 h10 h11 h12 h13 h14 i0 i1 i2 i3 i4 i5 i6 i7 i8 i9 i10 i11 i12 i13 i14 : Value} (ho : o.op = .build 54 #[(1, x0), (2, x1), (3, x2), (4, x3), (5, x4), (6, x5), (7, x6), (8, x7), (9, x8)])
    (p0 : ρ x0 = .agg #[a0, a1, a2, a3, a4, a5, a6, a7, a8, a9, a10, a11, a12, a13, a14]) (p1 : ρ x1 = .agg #[b0, b1, b2, b3, b4, b5, b6, b7, b8, b9, b10, b11, b12, b13, b14]) (p2 : ρ x2 = .agg #[c0, c1, c2, c3, c4, c5, c6, c7, c8, c9, c10, c11, c12, c13, c14]) (p3 : ρ x3 = .agg #[d0, d1, d2, d3, d4, d5, d6, d7, d8, d9, d10, d11, d12, d13, d14]) (p4 : ρ x4 = .agg #[e0, e1, e2, e3, e4, e5, e6, e7, e8, e9, e10, e11, e12, e13, e14]) (p5 : ρ x5 = .agg #[f0, f1, f2, f3, f4, f5, f6, f7, f8, f9, f10, f11, f12, f13, f14]) (p6 : ρ x6 = .agg #[g0, g1, g2, g3, g4, g5, g6, g7, g8, g9, g10, g11, g12, g13, g14]) (p7 : ρ x7 = .agg #[h0, h1, h2, h3, h4, h5, h6, h7, h8, h9, h10, h11, h12, h13, h14]) (p8 : ρ x8 = .agg #[i0, i1, i2, i3, i4, i5, i6, i7, i8, i9, i10, i11, i12, i13, i14]) :
    Yd Try.prog C (execOp ρ o) (.agg #[.int .i64 0, .int .i64 0, .bool false, .int .i64 0, .int .i64 0, .bool false, .int .i64 0, .int .i64 0, .bool false, .int .i64 0, .int .i64 0, .bool false, .int .i64 0, .int .i64 0, .bool false, a0, a1, a2, a3, a4, a5, a6, a7, a8, a9, a10, a11, a12, a13, a14, b0, b1, b2, b3, b4, b5, b6, b7, b8, b9, b10, b11, b12, b13, b14, c0, c1, c2, c3, c4, c5, c6, c7, c8, c9, c10, c11, c12, c13, c14, d0, d1, d2, d3, d4, d5, d6, d7, d8, d9, d10, d11, d12, d13, d14, e0, e1, e2, e3, e4, e5, e6, e7, e8, e9, e10, e11, e12, e13, e14, f0, f1, f2, f3, f4, f5, f6, f7, f8, f9, f10, f11, f12, f13, f14, g0, g1, g2, g3, g4, g5, g6, g7, g8, g9, g10, g11, g12, g13, g14, h0, h1, h2, h3, h4, h5, h6, h7, h8, h9, h10, h11, h12, h13, h14, i0, i1, i2, i3, i4, i5, i6, i7, i8, i9, i10, i11, i12, i13, i14]) := by
  obtain ⟨dst, op, ty, pos, af, g⟩ := o
  subst ho
  refine yd_pure (fun w => ?_)
  simp [go_sem, p0, p1, p2, p3, p4, p5, p6, p7, p8, zero54]
theorem ev_ne {a : Act} {d t : Tmp} {v u : Value} (h : Nat.beq d t = false) (hu : a.eval (.tmp t) = u) : (a.put (some d) v).eval (.tmp t) = u := by
  have : d ≠ t := Nat.ne_of_beq_eq_false h
  rw [Act.eval_put (fun e he hx => by cases he; cases hx; exact this rfl)]
  exact hu
theorem ev_eq {a : Act} {n : Nat} {d : Tmp} {v : Value} (hs : a.tmps.size = n) (h : Nat.blt d n = true) : (a.put (some d) v).eval (.tmp d) = v := by
  have : d < a.tmps.size := by rw [hs]; simpa [Nat.blt_eq] using h
  simp [Act.eval, Act.put, this]
theorem sz_put {a : Act} {n : Nat} {x : Option Tmp} {v : Value} (hs : a.tmps.size = n) : (a.put x v).tmps.size = n := by
  cases x <;> simp [Act.put, hs]

theorem there_of_block {w : World} {b : Nat} {cs : Array Value} {t : TypeId} (h : w.heap[b]? = some (.cells cs t)) : w.there b 0 cs.size := by
  intro j hj
  refine ⟨?_, by simp only [World.frozen?, h]; simp⟩
  simp only [World.cell?, h, Nat.zero_add]
  simp [Array.getElem?_eq_getElem (show j < cs.size by omega)]
theorem fin_laid {w X : World} {b : Nat} (hc : CH w X) (ht : X.there b 0 150) (hA : w.heap.size < b) : Laid w (.pointer (some ⟨b, 0, none⟩)) (X.setCells b 0 [.int .i64 0, .int .i64 0, .bool false, .int .i64 0, .int .i64 0, .bool false, .int .i64 0, .int .i64 0, .bool false, .int .i64 0, .int .i64 0, .bool false, .int .i64 0, .int .i64 0, .bool false, .int .i64 1, .int .i64 0, .bool false, .int .i64 0, .int .i64 5, .bool false, .int .i64 0, .int .i64 5, .bool false, .int .i64 0, .int .i64 5, .bool false, .int .i64 0, .int .i64 5, .bool false, .int .i64 0, .int .i64 4, .bool false, .int .i64 6, .int .i64 0, .bool false, .int .i64 6, .int .i64 0, .bool false, .int .i64 6, .int .i64 0, .bool false, .int .i64 0, .int .i64 351, .bool false, .int .i64 0, .int .i64 4, .bool false, .int .i64 0, .int .i64 0, .bool true, .int .i64 0, .int .i64 0, .bool true, .int .i64 0, .int .i64 0, .bool true, .int .i64 0, .int .i64 351, .bool false, .int .i64 0, .int .i64 4, .bool false, .int .i64 0, .int .i64 352, .bool false, .int .i64 1, .int .i64 0, .bool false, .int .i64 0, .int .i64 352, .bool false, .int .i64 0, .int .i64 351, .bool false, .int .i64 0, .int .i64 4, .bool false, .int .i64 3, .int .i64 0, .bool false, .int .i64 0, .int .i64 353, .bool false, .int .i64 0, .int .i64 5, .bool false, .int .i64 0, .int .i64 351, .bool false, .int .i64 0, .int .i64 4, .bool false, .int .i64 0, .int .i64 352, .bool false, .int .i64 0, .int .i64 352, .bool false, .int .i64 5, .int .i64 0, .bool false, .int .i64 0, .int .i64 351, .bool false, .int .i64 0, .int .i64 4, .bool false, .int .i64 0, .int .i64 352, .bool false, .int .i64 0, .int .i64 352, .bool false, .int .i64 1, .int .i64 0, .bool false, .int .i64 0, .int .i64 351, .bool false, .int .i64 0, .int .i64 4, .bool false, .int .i64 4, .int .i64 0, .bool false, .int .i64 0, .int .i64 352, .bool false, .int .i64 4, .int .i64 0, .bool false, .int .i64 0, .int .i64 351, .bool false, .int .i64 0, .int .i64 4, .bool false, .int .i64 7, .int .i64 0, .bool false, .int .i64 7, .int .i64 0, .bool false, .int .i64 7, .int .i64 0, .bool false, .int .i64 0, .int .i64 351, .bool false]) :=
  ⟨b, rfl, World.rangeAt_setCells_same X b 0 _ (by rw [len150]; exact ht), hc.set hA _, hA⟩
end Go.Proofs.Ytdepolfmibhojaa
