/-
  A region that draws its order: operations that only read, calls that make memory of their own and hand back plain data, one allocation, and one last store.
-/
import Derived.Orders
import Derived.Below
import Derived.Tactics
import Derived.KernelRfl
import Derived.Lib.LazyBuf
import Derived.OneCell
namespace Go.Proofs.Ytdepolfmibhojaa
open Go Go.RowKit
set_option linter.unusedVariables false

section
variable {P : Program} {ops : Array Oper} {md : Region.Mode} {C : World → Prop}

/-- What is asked once an operation has yielded this in the world w. -/
def growUpon (P : Program) (w : World) (v : Value) : Result Next → Prop
  | .ok (.value u) w' => w' = w ∧ u = v
  | .ok .skip w' => w' = w ∧ v = undef
  | .ok (.enter f args) w' => w' = w ∧ Calls P f args w (fun e w'' => e = .returned v ∧ Below w.heap.size w w'')
  | _ => False
/-- One value, in every world of the class. -/
def Yd (P : Program) (C : World → Prop) (s : Sem Next) (v : Value) : Prop := ∀ w, C w → growUpon P w v (s.run P w)
def growOp (P : Program) (C : World → Prop) (o : Oper) (a : Act) (next : Act → Prop) : Prop := ∃ v, Yd P C (execOp a.eval o) v ∧ next (a.put o.dst v)
def wpGrow (P : Program) (ops : Array Oper) (C : World → Prop) (Q : Act → Prop) : List Oper → Act → Prop
  | [], a => Q a
  | o :: rest, a => if Region.wanted o (yielded ops a.tmps) then growOp P C o a (wpGrow P ops C Q rest) else wpGrow P ops C Q rest (a.put o.dst undef)
theorem wpGrow_nil {Q : Act → Prop} {a : Act} (h : Q a) : wpGrow P ops C Q [] a := h
theorem wpGrow_step {Q : Act → Prop} {a : Act} {o : Oper} {rest : List Oper}
    (h : ∀ K : Act → Prop, (∀ a, wpGrow P ops C Q rest a → K a) → if Region.wanted o (yielded ops a.tmps) then growOp P C o a K else K (a.put o.dst undef)) : wpGrow P ops C Q (o :: rest) a :=
  h _ (fun _ h => h)
theorem wpGrow_plain {Q : Act → Prop} {a : Act} {o : Oper} {rest : List Oper} (v : Value) (hg : o.guard = none) (hy : Yd P C (execOp a.eval o) v)
    (h : wpGrow P ops C Q rest (a.put o.dst v)) : wpGrow P ops C Q (o :: rest) a := by
  unfold wpGrow
  rw [if_pos (by simp [Region.wanted, hg])]
  exact ⟨v, hy, h⟩
def gOp (P : Program) (ops : Array Oper) (C : World → Prop) (i : Nat) (K : Act → Prop) (a : Act) : Prop :=
  match ops[i]? with
  | none => K a
  | some o => if Region.wanted o (yielded ops a.tmps) then growOp P C o a K else K (a.put o.dst undef)
theorem growOp_mono {o : Oper} {a : Act} {K K' : Act → Prop} (h : ∀ a, K a → K' a) (hh : growOp P C o a K) : growOp P C o a K' :=
  let ⟨v, h1, h2⟩ := hh
  ⟨v, h1, h _ h2⟩
theorem gOp_mono {i : Nat} {a : Act} {K K' : Act → Prop} (h : ∀ a, K a → K' a) (hh : gOp P ops C i K a) : gOp P ops C i K' a := by
  unfold gOp at *
  split
  · exact h _ (by simpa [*] using hh)
  · rename_i o ho
    simp only [ho] at hh
    split
    · rename_i hw; simp only [hw, if_true] at hh; exact growOp_mono h hh
    · rename_i hw; simp only [hw] at hh; exact h _ hh
def wpAnyG (P : Program) (md : Region.Mode) (ops : Array Oper) (C : World → Prop) (Q : Act → Prop) : Nat → Array Bool → Act → Prop
  | 0, listed, a => Region.ready md ops listed = [] ∧ Q a
  | fuel + 1, listed, a =>
    (Region.ready md ops listed = [] → Q a) ∧
    ∀ i ∈ Region.ready md ops listed, gOp P ops C i (wpAnyG P md ops C Q fuel (listed.setIfInBounds i true)) a
def YdIn (P : Program) (ops : Array Oper) (C : World → Prop) (o : Oper) (v : Value) (a : Act) : Prop :=
  (Region.wanted o (yielded ops a.tmps) = true ∧ Yd P C (execOp a.eval o) v) ∨ (Region.wanted o (yielded ops a.tmps) = false ∧ v = undef)
theorem YdIn.gOp {i : Nat} {o : Oper} {v : Value} {a : Act} (hi : ops[i]? = some o) (hy : YdIn P ops C o v a) {K : Act → Prop} (h : K (a.put o.dst v)) : gOp P ops C i K a := by
  unfold Ytdepolfmibhojaa.gOp
  simp only [hi]
  rcases hy with ⟨hw, hv⟩ | ⟨hw, rfl⟩
  · simp only [hw, if_true]; exact ⟨v, hv, h⟩
  · simp only [hw, Bool.false_eq_true, if_false]; exact h
theorem YdIn.of_same {o : Oper} {v : Value} {a a' : Act} (hy : YdIn P ops C o v a) (he : execOp a'.eval o = execOp a.eval o)
    (hw : Region.wanted o (yielded ops a'.tmps) = Region.wanted o (yielded ops a.tmps)) : YdIn P ops C o v a' := by
  unfold YdIn at *
  rw [he, hw]
  exact hy
theorem ydIn_of_gOp {i : Nat} {o : Oper} {a : Act} {K : Act → Prop} (hi : ops[i]? = some o) (h : gOp P ops C i K a) : ∃ v, YdIn P ops C o v a ∧ K (a.put o.dst v) := by
  unfold gOp at h
  simp only [hi] at h
  by_cases hw : Region.wanted o (yielded ops a.tmps) = true
  · simp only [hw, if_true] at h
    obtain ⟨v, h1, h2⟩ := h
    exact ⟨v, .inl ⟨hw, h1⟩, h2⟩
  · simp only [hw] at h
    exact ⟨undef, .inr ⟨by simpa using hw, rfl⟩, h⟩
theorem gOp_put {j : Nat} {oi oj : Oper} {v : Value} (hj : ops[j]? = some oj) (hap : oi.apart ops oj = true)
    (hsi : ∀ cs b, oi.op ≠ .select cs b) (hsj : ∀ cs b, oj.op ≠ .select cs b) {K : Act → Prop} {a : Act}
    (hy : YdIn P ops C oi v a) (h : gOp P ops C j K (a.put oi.dst v)) :
    gOp P ops C j (fun a' => YdIn P ops C oi v a' ∧ K (a'.put oi.dst v)) a := by
  obtain ⟨h1, h2, h3⟩ := Oper.apart_spec hap
  have keep : ∀ (a : Act), YdIn P ops C oi v a → ∀ u, YdIn P ops C oi v (a.put oj.dst u) := fun a hy u =>
    hy.of_same (execOp_put oi hsi a oj.dst u h3) (wanted_put oi a oj.dst u h3)
  unfold gOp at *
  simp only [hj] at *
  rw [wanted_put oj a oi.dst v h1] at h
  split
  · rename_i hw
    simp only [hw, if_true] at h
    obtain ⟨u, hu, hn⟩ := h
    rw [execOp_put oj hsj a oi.dst v h1] at hu
    exact ⟨u, hu, keep a hy u, by rw [← Act.put_comm a v u h2]; exact hn⟩
  · rename_i hw
    simp only [hw] at h
    exact ⟨keep a hy _, by rw [← Act.put_comm a v undef h2]; exact h⟩
theorem wpAnyG_first {Q : Act → Prop} {i : Nat} {oi : Oper} {v : Value} (hi : ops[i]? = some oi) (hsel : ∀ (j : Nat) (o : Oper) cs b, ops[j]? = some o → o.op ≠ .select cs b) :
    ∀ (fuel : Nat) (listed : Array Bool) (a : Act),
      (∀ j oj, ops[j]? = some oj → j ≠ i → listed.getD j true = false → (∀ e ∈ oj.after, Region.binds md e = true → e.on ≠ i) → oi.apart ops oj = true) →
      i ∈ Region.ready md ops listed → YdIn P ops C oi v a →
      wpAnyG P md ops C Q fuel (listed.setIfInBounds i true) (a.put oi.dst v) → wpAnyG P md ops C Q (fuel + 1) listed a := by
  intro fuel
  induction fuel with
  | zero =>
    intro listed a _ hr hy H
    refine ⟨fun h => (by rw [h] at hr; cases hr), fun j hj => ?_⟩
    by_cases hji : j = i
    · subst hji; exact hy.gOp hi H
    · have := ready_mono hj hji
      rw [H.1] at this
      cases this
  | succ fuel ih =>
    intro listed a hfree hr hy H
    refine ⟨fun h => (by rw [h] at hr; cases hr), fun j hj => ?_⟩
    by_cases hji : j = i
    · subst hji; exact hy.gOp hi H
    · have h1 := H.2 j (ready_mono hj hji)
      obtain ⟨hjun, oj, hoj, hall⟩ := mem_ready.1 hj
      have hnot : ∀ e ∈ oj.after, Region.binds md e = true → e.on ≠ i := fun e he hb heq => by
        have h1 := hall e he hb
        have h0 := (mem_ready.1 hr).1
        rw [heq] at h1
        rcases Nat.lt_or_ge i listed.size with h' | h'
        · simp [h'] at h0 h1; rw [h0] at h1; cases h1
        · simp [Array.getElem?_eq_none h'] at h1
      have h2 := gOp_put hoj (hfree j oj hoj hji hjun hnot) (fun cs b => hsel i oi cs b hi) (fun cs b => hsel j oj cs b hoj) hy h1
      have hfree' : ∀ k ok, ops[k]? = some ok → k ≠ i → (listed.setIfInBounds j true).getD k true = false →
          (∀ e ∈ ok.after, Region.binds md e = true → e.on ≠ i) → oi.apart ops ok = true := fun k ok hk hki hun hno => by
        refine hfree k ok hk hki ?_ hno
        by_cases hjk : j = k
        · subst hjk; exact hjun
        · rw [getD_set_ne true hjk] at hun; exact hun
      refine gOp_mono (fun a' h3 => ih (listed.setIfInBounds j true) a' hfree' (ready_mono hr (Ne.symm hji)) h3.1 ?_) h2
      rw [Array.setIfInBounds_comm _ _ hji]
      exact h3.2

/-- The places of a walk, in their order: each may come up when its turn comes, and nobody who could come before it touches its temporaries. -/
def lexIdx (md : Region.Mode) (ops : Array Oper) : List Nat → Array Bool → Bool
  | [], listed => (Region.ready md ops listed).isEmpty
  | k :: idx, listed => (Region.ready md ops listed).contains k && Region.free md ops listed k && lexIdx md ops idx (listed.setIfInBounds k true)
def opsAt (ops : Array Oper) (idx : List Nat) : List Oper := idx.filterMap fun i => ops[i]?
theorem wpAnyG_idx {Q : Act → Prop} (hs : Region.noSelect ops = true) : ∀ (idx : List Nat) (listed : Array Bool) (a : Act),
    lexIdx md ops idx listed = true → wpGrow P ops C Q (opsAt ops idx) a → wpAnyG P md ops C Q idx.length listed a
  | [], _, _, hB, h => ⟨by simpa [lexIdx] using hB, h⟩
  | k :: idx, listed, a, hB, h => by
    simp only [lexIdx, Bool.and_eq_true] at hB
    obtain ⟨⟨hr, hf⟩, hB'⟩ := hB
    obtain ⟨_, o, h0, _⟩ := mem_ready.1 (by simpa using hr : k ∈ Region.ready md ops listed)
    have hst : gOp P ops C k (wpGrow P ops C Q (opsAt ops idx)) a := by
      unfold gOp
      simp only [opsAt, List.filterMap_cons, h0, wpGrow] at h
      simp only [h0]
      exact h
    obtain ⟨v, hy, hK⟩ := ydIn_of_gOp h0 hst
    exact wpAnyG_first h0 (Region.noSelect_spec hs) idx.length listed a (Region.free_spec h0 hf) (by simpa using hr) hy
      (wpAnyG_idx hs idx _ _ hB' hK)

/-! ### One allocation beside them, and one store behind all -/

/-- Every operation but 's' is waited for by one behind it; edges lead back. -/
def sinkB (md : Region.Mode) (ops : Array Oper) (s : Nat) : Bool :=
  (List.range ops.size).all fun j => j == s || (List.range ops.size).any fun k => decide (j < k) && ((ops[k]?).map fun o => o.after.any fun e => Region.binds md e && e.on == j).getD false
def backB (md : Region.Mode) (ops : Array Oper) : Bool :=
  (List.range ops.size).all fun j => ((ops[j]?).map fun o => o.after.all fun e => !Region.binds md e || decide (e.on < j)).getD true
def DownClosed (md : Region.Mode) (ops : Array Oper) (listed : Array Bool) : Prop :=
  ∀ j o, ops[j]? = some o → listed.getD j false = true → ∀ e ∈ o.after, Region.binds md e = true → listed.getD e.on false = true
theorem DownClosed.set {listed : Array Bool} {i : Nat} (h : DownClosed md ops listed) (hr : i ∈ Region.ready md ops listed) : DownClosed md ops (listed.setIfInBounds i true) := by
  intro j o hj hl e he hb
  obtain ⟨_, oi, hoi, hall⟩ := mem_ready.1 hr
  by_cases hji : i = j
  · subst hji
    rw [hoi] at hj
    cases hj
    exact getD_set_true (hall e he hb)
  · rw [getD_set_ne false hji] at hl
    exact getD_set_true (h j o hj hl e he hb)
theorem all_listed {listed : Array Bool} {s : Nat} (hsink : sinkB md ops s = true) (hd : DownClosed md ops listed) (hr : s ∈ Region.ready md ops listed) :
    ∀ n j, j < ops.size → ops.size - j ≤ n → j ≠ s → listed.getD j false = true := by
  obtain ⟨_, os, hos, hall⟩ := mem_ready.1 hr
  intro n
  induction n with
  | zero => intro j hj hn; omega
  | succ n ih =>
    intro j hj hn hne
    simp only [sinkB, List.all_eq_true, List.mem_range, Bool.or_eq_true, beq_iff_eq, List.any_eq_true, Bool.and_eq_true, decide_eq_true_eq] at hsink
    obtain ⟨k, hk, hlt, hk2⟩ := (hsink j hj).resolve_left hne
    have hok : ops[k]? = some ops[k] := Array.getElem?_eq_getElem hk
    rw [hok] at hk2
    simp only [Option.map_some, Option.getD_some] at hk2
    obtain ⟨e, he, hb⟩ := Array.any_eq_true'.1 hk2
    simp only [Bool.and_eq_true, beq_iff_eq] at hb
    by_cases hks : k = s
    · subst hks
      rw [hok] at hos
      cases hos
      have := hall e he hb.1
      rwa [hb.2] at this
    · have hl := ih k hk (by omega) hks
      have := hd k _ hok hl e he hb.1
      rwa [hb.2] at this
theorem ready_ne {listed : Array Bool} (hback : backB md ops = true) (hsz : listed.size = ops.size) : ∀ n i, i < n → i < ops.size → listed.getD i true = false → Region.ready md ops listed ≠ [] := by
  intro n
  induction n with
  | zero => intro i h; omega
  | succ n ih =>
    intro i hn hi hl hre
    have hoi : ops[i]? = some ops[i] := Array.getElem?_eq_getElem hi
    by_cases hall : ∀ e ∈ ops[i].after, Region.binds md e = true → listed.getD e.on false = true
    · have : i ∈ Region.ready md ops listed := mem_ready.2 ⟨hl, _, hoi, hall⟩
      rw [hre] at this
      cases this
    · have ⟨e, he⟩ := Classical.not_forall.1 hall
      have ⟨he1, he2⟩ := Classical.not_imp.1 he
      have ⟨hb, hnl⟩ := Classical.not_imp.1 he2
      simp only [backB, List.all_eq_true, List.mem_range] at hback
      have h1 := hback i hi
      rw [hoi] at h1
      simp only [Option.map_some, Option.getD_some, Array.all_eq_true_iff_forall_mem, Bool.or_eq_true, Bool.not_eq_true', decide_eq_true_eq] at h1
      have hlt : e.on < i := (h1 e he1).resolve_left (by simp [hb])
      have hs : e.on < listed.size := by omega
      refine ih e.on (by omega) (by omega) ?_ hre
      have h2 : listed.getD e.on false = false := by simpa using hnl
      simp [hs] at h2 ⊢
      exact h2
theorem getD_tf {listed : Array Bool} {i : Nat} (h : i < listed.size) : listed.getD i true = listed.getD i false := by simp [h]

section
variable {l0 : List Oper} {Q : Exit → Act → World → Prop} {Qf : Act → Prop} {ia s : Nat} {oa os : Oper} {da : Tmp} {n0 : Nat} {obj : Obj}

/-- What the two lemmas below share. -/
structure Plan (P : Program) (md : Region.Mode) (ops : Array Oper) (C : World → Prop) (Q : Exit → Act → World → Prop) (Qf : Act → Prop) (ia s : Nat) (oa : Oper) (da : Tmp) (n0 : Nat) (obj : Obj) : Prop where
  sel : Region.noSelect ops = true
  sink : sinkB md ops s = true
  back : backB md ops = true
  ha : ops[ia]? = some oa
  hdst : oa.dst = some da
  hguard : oa.guard = none
  hs : s < ops.size
  hne : ia ≠ s
  apart : ∀ j oj, ops[j]? = some oj → j ≠ ia → j ≠ s → oa.apart ops oj = true
  grows : ∀ w w', C w → Below w.heap.size w w' → C w'
  base : ∀ w, C w → n0 ≤ w.heap.size
  alloc : ∀ (a : Act) (w : World), C w → (execOp a.eval oa).run P w = .ok (.value (.pointer (some ⟨w.heap.size, 0, none⟩))) (w.alloc obj)
  last : ∀ (a : Act) (w : World) (b : Nat), Qf a → C w → w.heap[b]? = some obj → n0 ≤ b → wpOp P ops Q s (fun a' w' => Q .normal a' w') (a.put (some da) (.pointer (some ⟨b, 0, none⟩))) w

def G (ia s : Nat) (listed : Array Bool) : Array Bool := (listed.setIfInBounds ia true).setIfInBounds s true

theorem ready_G {listed : Array Bool} {i : Nat} (h : i ∈ Region.ready md ops listed) (h1 : i ≠ ia) (h2 : i ≠ s) : i ∈ Region.ready md ops (G ia s listed) :=
  ready_mono (ready_mono h h1) h2
theorem G_set {listed : Array Bool} {i : Nat} (h1 : i ≠ ia) (h2 : i ≠ s) : (G ia s listed).setIfInBounds i true = G ia s (listed.setIfInBounds i true) := by
  unfold G
  rw [Array.setIfInBounds_comm _ _ (Ne.symm h2), Array.setIfInBounds_comm _ _ (Ne.symm h1)]
theorem not_ready_listed {listed : Array Bool} {i : Nat} (h : ∀ j, j < ops.size → listed.getD j true = true) : Region.ready md ops listed = [] := by
  rw [List.eq_nil_iff_forall_not_mem]
  intro j hj
  obtain ⟨h0, o, ho, _⟩ := mem_ready.1 hj
  have hlt : j < ops.size := (Array.getElem?_eq_some_iff.1 ho).1
  rw [h j hlt] at h0
  cases h0
theorem getD_true_of_false {listed : Array Bool} {j : Nat} (h : listed.getD j false = true) : listed.getD j true = true := by
  rcases Nat.lt_or_ge j listed.size with h' | h'
  · simp [h'] at h ⊢; exact h
  · simp [Array.getElem?_eq_none h'] at h
theorem getD_self {listed : Array Bool} {s : Nat} : (listed.setIfInBounds s true).getD s true = true := by
  rcases Nat.lt_or_ge s listed.size with h' | h'
  · simp [h']
  · simp
theorem G_done {listed : Array Bool} (hl : ∀ j, j < ops.size → j ≠ s → listed.getD j false = true) : Region.ready md ops (G ia s listed) = [] := by
  refine not_ready_listed (i := 0) fun j hj => ?_
  by_cases hjs : s = j
  · subst hjs
    exact getD_self
  · exact getD_true_of_false (getD_set_true (getD_set_true (hl j hj (Ne.symm hjs))))
theorem set_done {listed : Array Bool} (hl : ∀ j, j < ops.size → j ≠ s → listed.getD j false = true) : Region.ready md ops (listed.setIfInBounds s true) = [] := by
  refine not_ready_listed (i := 0) fun j hj => ?_
  by_cases hjs : s = j
  · subst hjs
    exact getD_self
  · exact getD_true_of_false (getD_set_true (hl j hj (Ne.symm hjs)))

/-- A quiet operation, carried out while the allocation's slot already holds its pointer. -/
theorem wpOp_of_gOp_put (pl : Plan P md ops C Q Qf ia s oa da n0 obj) {i : Nat} {a : Act} {v : Value} {K : Act → Prop} {K' : Act → World → Prop} {w : World} (hC : C w) (h1 : i ≠ ia) (h2 : i ≠ s)
    (h : ∀ a w', C w' → Below w.heap.size w w' → K a → K' (a.put (some da) v) w') (hh : gOp P ops C i K a) : wpOp P ops Q i K' (a.put (some da) v) w := by
  unfold gOp at hh
  unfold wpOp
  split
  · rename_i ho; simp only [ho] at hh; exact h _ _ hC (Below.refl _ _) hh
  · rename_i o ho
    have hap := pl.apart i o ho h1 h2
    obtain ⟨p1, p2, p3⟩ := Oper.apart_spec hap
    rw [pl.hdst] at p1 p2
    have hsj := Region.noSelect_spec pl.sel i o
    simp only [ho] at hh
    rw [wanted_put o a (some da) v p1]
    split
    · rename_i hw
      simp only [hw, if_true] at hh
      refine .inl ?_
      obtain ⟨u, hu, hn⟩ := hh
      unfold Oper.wp
      rw [execOp_put o (fun cs b => hsj cs b ho) a (some da) v p1]
      have h3 := hu w hC
      generalize (execOp a.eval o).run P w = r at *
      cases r with
      | ok n w' =>
        cases n <;> simp only [growUpon] at h3 <;> simp only [Oper.upon]
        case value x =>
          obtain ⟨e1, e2⟩ := h3
          rw [e1, e2, Act.put_comm a v u p2]
          exact h _ _ hC (Below.refl _ _) hn
        case skip =>
          obtain ⟨e1, e2⟩ := h3
          rw [e1, ← e2, Act.put_comm a v u p2]
          exact h _ _ hC (Below.refl _ _) hn
        case enter f args =>
          obtain ⟨e1, hc⟩ := h3
          rw [e1]
          exact hc.mono fun e w'' ⟨he, hw''⟩ => by
            subst he
            simp only []
            rw [Act.put_comm a v u p2]
            exact h _ _ (pl.grows _ _ hC hw'') hw'' hn
      | halt x w' => simp only [growUpon] at h3
    · rename_i hw
      simp only [hw] at hh
      rw [Act.put_comm a v undef p2]
      exact h _ _ hC (Below.refl _ _) hh
/-- The same with the slot as it was. -/
theorem wpOp_of_gOp (pl : Plan P md ops C Q Qf ia s oa da n0 obj) {i : Nat} {a : Act} {K : Act → Prop} {K' : Act → World → Prop} {w : World} (hC : C w)
    (h : ∀ a w', C w' → K a → K' a w') (hh : gOp P ops C i K a) : wpOp P ops Q i K' a w := by
  unfold gOp at hh
  unfold wpOp
  split
  · rename_i ho; simp only [ho] at hh; exact h _ _ hC hh
  · rename_i o ho
    simp only [ho] at hh
    split
    · rename_i hw
      simp only [hw, if_true] at hh
      refine .inl ?_
      obtain ⟨u, hu, hn⟩ := hh
      unfold Oper.wp
      have h3 := hu w hC
      generalize (execOp a.eval o).run P w = r at *
      cases r with
      | ok n w' =>
        cases n <;> simp only [growUpon] at h3 <;> simp only [Oper.upon]
        case value x =>
          obtain ⟨e1, e2⟩ := h3
          rw [e1, e2]
          exact h _ _ hC hn
        case skip =>
          obtain ⟨e1, e2⟩ := h3
          rw [e1, ← e2]
          exact h _ _ hC hn
        case enter f args =>
          obtain ⟨e1, hc⟩ := h3
          rw [e1]
          exact hc.mono fun e w'' ⟨he, hw''⟩ => by subst he; exact h _ _ (pl.grows _ _ hC hw'') hn
      | halt x w' => simp only [growUpon] at h3
    · rename_i hw
      simp only [hw] at hh
      exact h _ _ hC hh

/-- The allocation has come up. -/
theorem any_behind (pl : Plan P md ops C Q Qf ia s oa da n0 obj) : ∀ (fg : Nat) (listed : Array Bool) (a : Act) (w : World) (b : Nat), listed.size = ops.size → C w → w.heap[b]? = some obj → n0 ≤ b → listed.getD ia false = true → listed.getD s true = false →
    DownClosed md ops listed → wpAnyG P md ops C Qf fg (G ia s listed) a → wpAny P md ops Q (fg + 1) listed (a.put (some da) (.pointer (some ⟨b, 0, none⟩))) w := by
  intro fg
  induction fg with
  | zero =>
    intro listed a w b hsz hC hb hn hia his hd H
    refine ⟨fun h0 => absurd h0 (ready_ne pl.back hsz _ s (Nat.lt_succ_self _) pl.hs his), fun i hi => ?_⟩
    by_cases his' : i = s
    · subst his'
      have hl := fun j hj hne => all_listed pl.sink hd hi _ j hj (Nat.le_refl _) hne
      exact wpOp_mono (fun a' w' h => wpAny_done (set_done hl) h _) (pl.last a w b H.2 hC hb hn)
    · by_cases hii : i = ia
      · subst hii
        have := (mem_ready.1 hi).1
        rw [getD_true_of_false hia] at this
        cases this
      · have := ready_G (ia := ia) (s := s) hi hii his'
        rw [H.1] at this
        cases this
  | succ fg ih =>
    intro listed a w b hsz hC hb hn hia his hd H
    refine ⟨fun h0 => absurd h0 (ready_ne pl.back hsz _ s (Nat.lt_succ_self _) pl.hs his), fun i hi => ?_⟩
    by_cases his' : i = s
    · subst his'
      have hl := fun j hj hne => all_listed pl.sink hd hi _ j hj (Nat.le_refl _) hne
      exact wpOp_mono (fun a' w' h => wpAny_done (set_done hl) h _) (pl.last a w b (H.1 (G_done hl)) hC hb hn)
    · by_cases hii : i = ia
      · subst hii
        have := (mem_ready.1 hi).1
        rw [getD_true_of_false hia] at this
        cases this
      · have h1 := H.2 i (ready_G (ia := ia) (s := s) hi hii his')
        refine wpOp_of_gOp_put pl hC hii his' (fun a' w' hC' hb' hK => ?_) h1
        rw [G_set hii his'] at hK
        exact ih _ a' w' b (by simpa using hsz) hC' ((hb'.block b (lt_of_block hb)).trans hb) hn (getD_set_true hia) (by rw [getD_set_ne true his']; exact his) (hd.set hi) hK
/-- The allocation has not come up yet. -/
theorem any_ahead (pl : Plan P md ops C Q Qf ia s oa da n0 obj) : ∀ (fg : Nat) (listed : Array Bool) (a : Act) (w : World), listed.size = ops.size → C w → listed.getD ia true = false → listed.getD s true = false →
    DownClosed md ops listed → wpAnyG P md ops C Qf fg (G ia s listed) a → wpAny P md ops Q (fg + 2) listed a w := by
  intro fg
  induction fg with
  | zero =>
    intro listed a w hsz hC hia his hd H
    refine ⟨fun h0 => absurd h0 (ready_ne pl.back hsz _ s (Nat.lt_succ_self _) pl.hs his), fun i hi => ?_⟩
    have hlia : ia < ops.size := (Array.getElem?_eq_some_iff.1 pl.ha).1
    by_cases his' : i = s
    · subst his'
      have hl := all_listed pl.sink hd hi _ ia hlia (Nat.le_refl _) pl.hne
      rw [getD_true_of_false hl] at hia
      cases hia
    · by_cases hii : i = ia
      · subst hii
        unfold wpOp
        simp only [pl.ha, Region.wanted, pl.hguard, if_true, pl.hdst]
        refine .inl ?_
        simp only [Oper.wp, pl.alloc a w hC, Oper.upon, pl.hdst]
        refine any_behind pl 0 _ a _ w.heap.size (by simpa using hsz) (pl.grows _ _ hC ((Below.refl _ _).alloc (Nat.le_refl _) _)) (heap_alloc_new _ _) (pl.base w hC) ?_ (by rw [getD_set_ne true his']; exact his) (hd.set hi) ?_
        · rw [← getD_tf (by simp; omega)]; exact getD_self
        · have : G i s (listed.setIfInBounds i true) = G i s listed := by unfold G; rw [Array.setIfInBounds_setIfInBounds]
          rw [this]
          exact H
      · have := ready_G (ia := ia) (s := s) hi hii his'
        rw [H.1] at this
        cases this
  | succ fg ih =>
    intro listed a w hsz hC hia his hd H
    refine ⟨fun h0 => absurd h0 (ready_ne pl.back hsz _ s (Nat.lt_succ_self _) pl.hs his), fun i hi => ?_⟩
    have hlia : ia < ops.size := (Array.getElem?_eq_some_iff.1 pl.ha).1
    by_cases his' : i = s
    · subst his'
      have hl := all_listed pl.sink hd hi _ ia hlia (Nat.le_refl _) pl.hne
      rw [getD_true_of_false hl] at hia
      cases hia
    · by_cases hii : i = ia
      · subst hii
        unfold wpOp
        simp only [pl.ha, Region.wanted, pl.hguard, if_true, pl.hdst]
        refine .inl ?_
        simp only [Oper.wp, pl.alloc a w hC, Oper.upon, pl.hdst]
        refine any_behind pl (fg + 1) _ a _ w.heap.size (by simpa using hsz) (pl.grows _ _ hC ((Below.refl _ _).alloc (Nat.le_refl _) _)) (heap_alloc_new _ _) (pl.base w hC) ?_ (by rw [getD_set_ne true his']; exact his) (hd.set hi) ?_
        · rw [← getD_tf (by simp; omega)]; exact getD_self
        · have : G i s (listed.setIfInBounds i true) = G i s listed := by unfold G; rw [Array.setIfInBounds_setIfInBounds]
          rw [this]
          exact H
      · have h1 := H.2 i (ready_G (ia := ia) (s := s) hi hii his')
        refine wpOp_of_gOp pl hC (fun a' w' hC' hK => ?_) h1
        rw [G_set hii his'] at hK
        exact ih _ a' w' (by simpa using hsz) hC' (by rw [getD_set_ne true hii]; exact hia) (by rw [getD_set_ne true his']; exact his) (hd.set hi) hK

theorem wp_region_grow (pl : Plan P .any ops C Q Qf ia s oa da n0 obj) {id : Nat} {a : Act} {w : World} (hm : P.follows .mixedOrders = true) (hC : C { w with drawn := w.drawn + 1 }) (idx : List Nat) (hlen : idx.length + 2 = ops.size)
    (hB : lexIdx .any ops idx (G ia s (Array.replicate ops.size false)) = true) (h : wpGrow P ops C Qf (opsAt ops idx) a) : (Code.region id ops true).wp P Q a w := by
  refine wp_region_any hm ?_
  have hlia : ia < ops.size := (Array.getElem?_eq_some_iff.1 pl.ha).1
  have := any_ahead pl idx.length (Array.replicate ops.size false) a _ (by simp) hC (by simp [hlia]) (by simp [pl.hs]) (fun j o _ hl => by
    exfalso
    rcases Nat.lt_or_ge j ops.size with h' | h'
    · simp [h'] at hl
    · simp [h'] at hl) (wpAnyG_idx pl.sel idx _ a hB h)
  rwa [hlen] at this
theorem opsAt_range (l : List Oper) : ∀ n, n ≤ l.length → opsAt l.toArray (List.range n) = l.take n := by
  intro n
  induction n with
  | zero => intro _; rfl
  | succ n ih =>
    intro h
    have h1 : l[n]? = some l[n] := List.getElem?_eq_getElem (by omega)
    unfold opsAt at *
    rw [List.range_succ, List.filterMap_append, ih (by omega), List.take_succ_eq_append_getElem (by omega)]
    simp [h1]
theorem wpGrow_take {Q : Act → Prop} {a : Act} {o : Oper} {rest : List Oper} {n : Nat} {d : Tmp} (v : Value) (hd : o.dst = some d) (hg : o.guard = none) (hy : Yd P C (execOp a.eval o) v)
    (h : wpGrow P ops C Q (rest.take n) (a.put (some d) v)) : wpGrow P ops C Q ((o :: rest).take (n + 1)) a := by
  rw [List.take_succ_cons]
  exact wpGrow_plain v hg hy (by rw [hd]; exact h)
/-- Each operation yields, in the frame of the end, what stands there in its own slot. -/
def AllYd (P : Program) (C : World → Prop) (af : Act) : List Oper → Prop
  | [] => True
  | o :: r => (∃ d, o.dst = some d ∧ o.guard = none ∧ Yd P C (execOp af.eval o) (af.eval (.tmp d))) ∧ AllYd P C af r
theorem allYd_take {af : Act} {o : Oper} {rest : List Oper} {n : Nat} {v : Value} (d : Tmp) (hd : o.dst = some d) (hg : o.guard = none) (hv : af.eval (.tmp d) = v) (hy : Yd P C (execOp af.eval o) v)
    (h : AllYd P C af (rest.take n)) : AllYd P C af ((o :: rest).take (n + 1)) := by
  rw [List.take_succ_cons]
  exact ⟨⟨d, hd, hg, by rw [hv]; exact hy⟩, h⟩
/-- No operation looks at a slot that it or a later one writes. -/
def looksB (ops : Array Oper) : List Oper → Bool
  | [] => true
  | o :: r => (o :: r).all (fun x => (x.dst.map fun d => !(o.looksAt ops).contains d).getD true) && looksB ops r
theorem wpGrow_final {Q : Act → Prop} {af : Act} (hsel : ∀ (o : Oper) cs b, o ∈ l0 → o.op ≠ .select cs b) : ∀ (l : List Oper) (a : Act), (∀ o ∈ l, o ∈ l0) → looksB ops l = true → AllYd P C af l →
    a.defers = af.defers → a.tmps.size = af.tmps.size → (∀ t, (∀ o ∈ l, o.dst ≠ some t) → a.tmps[t]? = af.tmps[t]?) → Q af → wpGrow P ops C Q l a
  | [], a, _, _, _, hd, hs, ha, hq => by
    have : a = af := by
      obtain ⟨t, d⟩ := a
      obtain ⟨t', d'⟩ := af
      simp only at hd hs ha
      subst hd
      congr 1
      exact Array.ext_getElem? fun i => ha i (fun o ho => by cases ho)
    rw [this]
    exact hq
  | o :: r, a, hmem, hl, hall, hd, hs, ha, hq => by
    obtain ⟨⟨d, hdst, hg, hy⟩, hr⟩ := hall
    simp only [looksB, Bool.and_eq_true, List.all_eq_true] at hl
    obtain ⟨hl1, hl2⟩ := hl
    have hev : ∀ t, t ∈ o.looksAt ops → a.tmps[t]? = af.tmps[t]? := fun t ht => ha t fun x hx hxd => by
      have := hl1 x hx
      rw [hxd] at this
      simp [ht] at this
    have hex : execOp a.eval o = execOp af.eval o := execOp_congr o (fun cs b => hsel o cs b (hmem o List.mem_cons_self)) fun x hx => by
      cases x with
      | tmp t =>
        have := hev t (List.mem_append_left _ (List.mem_filterMap.2 ⟨.tmp t, by simpa using hx, rfl⟩))
        simp only [Act.eval, Array.getD_eq_getD_getElem?, this]
      | _ => rfl
    refine wpGrow_plain (af.eval (.tmp d)) hg (by rw [hex]; exact hy) ?_
    refine wpGrow_final hsel r _ (fun x hx => hmem x (List.mem_cons_of_mem _ hx)) hl2 hr (by rw [hdst]; exact hd) (by rw [hdst]; simpa [Act.put] using hs) ?_ hq
    intro t ht
    rw [hdst]
    by_cases htd : d = t
    · subst htd
      simp only [Act.put, Act.eval, Array.getD_eq_getD_getElem?, Array.getElem?_setIfInBounds]
      rcases Nat.lt_or_ge d a.tmps.size with h' | h'
      · have h2 : d < af.tmps.size := by rw [← hs]; exact h'
        simp [h', h2]
      · have h2 : af.tmps.size ≤ d := by rw [← hs]; exact h'
        simp [Array.getElem?_eq_none h2, h']
    · have := ha t (fun x hx => by
        cases hx with
        | head => rw [hdst]; exact fun h => htd (by injection h)
        | tail _ hm => exact ht x hm)
      simp only [Act.put, Array.getElem?_setIfInBounds_ne htd]
      exact this
def maskL (ds : List Tmp) (l : List Value) : List Value := (l.zipIdx).map fun p => if ds.contains p.2 then undef else p.1
theorem maskL_get {ds : List Tmp} {l : List Value} {t : Nat} (h : ¬ t ∈ ds) : (maskL ds l)[t]? = l[t]? := by
  unfold maskL
  rw [List.getElem?_map, List.getElem?_zipIdx]
  cases l[t]? with
  | none => rfl
  | some v => simp [h]
def finB (ops : Array Oper) (l : List Oper) (a af : Act) : Bool :=
  looksB ops l && l.all (fun o => match o.op with | .select .. => false | _ => true) && a.defers.isEmpty && af.defers.isEmpty && (a.tmps.size == af.tmps.size)
theorem wpGrow_finalL {Q : Act → Prop} {a : Act} (af : Act) (l : List Oper) (hB : finB ops l a af = true) (hm : maskL (l.filterMap (·.dst)) a.tmps.toList = maskL (l.filterMap (·.dst)) af.tmps.toList)
    (hq : Q af) (hall : AllYd P C af l) : wpGrow P ops C Q l a := by
  simp only [finB, Bool.and_eq_true, List.all_eq_true, List.isEmpty_iff, beq_iff_eq] at hB
  obtain ⟨⟨⟨⟨h1, h2⟩, h3⟩, h4⟩, h5⟩ := hB
  refine wpGrow_final (l0 := l) (fun o cs b ho heq => ?_) l a (fun _ h => h) h1 hall (by rw [h3, h4]) h5 (fun t ht => ?_) hq
  · have := h2 o ho
    simp [heq] at this
  · have hn : ¬ t ∈ l.filterMap (·.dst) := fun hm => by
      obtain ⟨o, ho, hd⟩ := List.mem_filterMap.1 hm
      exact ht o ho hd
    rw [← Array.getElem?_toList, ← Array.getElem?_toList, ← maskL_get hn, hm, maskL_get hn]
/-- The bookkeeping of a region whose last two operations are the allocation and the store. -/
def growB (md : Region.Mode) (ops : Array Oper) (n : Nat) (da : Tmp) : Bool :=
  Region.noSelect ops && sinkB md ops (n + 1) && backB md ops && decide (ops.size = n + 2) &&
  ((ops[n]?).map fun oa => (oa.dst == some da) && oa.guard.isNone && (List.range n).all fun j => ((ops[j]?).map fun oj => oa.apart ops oj).getD true).getD false &&
  lexIdx md ops (List.range n) (G n (n + 1) (Array.replicate ops.size false))
theorem wp_region_growL {l : List Oper} {n : Nat} {Q : Exit → Act → World → Prop} {Qf : Act → Prop} {da : Tmp} {n0 : Nat} {obj : Obj} {id : Nat} {a : Act} {w : World} {aop : Op}
    (hm : P.follows .mixedOrders = true) (hB : growB .any l.toArray n da = true)
    (grows : ∀ w w', C w → Below w.heap.size w w' → C w') (base : ∀ w, C w → n0 ≤ w.heap.size)
    (hop : (l.toArray[n]?).map (·.op) = some aop)
    (al : ∀ o : Oper, o.op = aop → ∀ (a : Act) (w : World), C w → (execOp a.eval o).run P w = .ok (.value (.pointer (some ⟨w.heap.size, 0, none⟩))) (w.alloc obj))
    (la : ∀ (a : Act) (w : World) (b : Nat), Qf a → C w → w.heap[b]? = some obj → n0 ≤ b → wpOp P l.toArray Q (n + 1) (fun a' w' => Q .normal a' w') (a.put (some da) (.pointer (some ⟨b, 0, none⟩))) w)
    (hC : C { w with drawn := w.drawn + 1 }) (h : wpGrow P l.toArray C Qf (l.take n) a) : (Code.region id l.toArray true).wp P Q a w := by
  simp only [growB, Bool.and_eq_true, decide_eq_true_eq] at hB
  obtain ⟨⟨⟨⟨⟨h1, h2⟩, h3⟩, h4⟩, h5⟩, h6⟩ := hB
  have hlt : n < l.toArray.size := by omega
  rw [Array.getElem?_eq_getElem hlt] at h5 hop
  simp only [Option.map_some, Option.getD_some, Bool.and_eq_true, beq_iff_eq, List.all_eq_true, List.mem_range, Option.some.injEq] at h5 hop
  obtain ⟨⟨h51, h52⟩, h53⟩ := h5
  refine wp_region_grow (ia := n) (s := n + 1) (oa := l.toArray[n]) (da := da) (n0 := n0) (obj := obj) (Qf := Qf)
    { sel := h1, sink := h2, back := h3, ha := Array.getElem?_eq_getElem hlt, hdst := h51, hguard := by simpa using h52, hs := by omega, hne := by omega, apart := ?_, grows := grows, base := base, alloc := al _ hop, last := la } hm hC (List.range n) (by rw [List.length_range, h4]) h6 ?_
  · intro j oj hj hn hs
    have hjs : j < l.toArray.size := (Array.getElem?_eq_some_iff.1 hj).1
    have := h53 j (by omega)
    rw [hj] at this
    simpa using this
  · rw [opsAt_range l n (by simp at hlt; omega)]
    exact h
end
end
end Go.Proofs.Ytdepolfmibhojaa
