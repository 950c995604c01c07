/-
  A walk by computation: operations that make or write memory, indices, comparisons of structs.
-/
import Derived.Test.YtllnmdmmmkoiaaaWb
namespace Go.Proofs.Ytllnmdmmmkoiaaa.Wx
open Go Go.RowKit
set_option linter.unusedVariables false

def A0.cells : A0 → List Ce
  | .one c => [c]
  | .agg cs => cs
/-- A value of one cell. -/
def Ce.single : Ce → Bool
  | .v x => x.oneCell'
  | _ => true
theorem Ce.single_val {I : IM} {R : RM} {c : Ce} {u : Value} (h : c.single = true) (hr : c.rel I R u) : u.oneCell' = true := by
  cases c with
  | v x => cases hr; exact h
  | own i q k => obtain ⟨p, _, rfl⟩ := hr; rfl
  | osl i q n c => obtain ⟨p, c', _, rfl, _⟩ := hr; rfl
  | fn f cap => obtain ⟨vs, _, rfl⟩ := hr; rfl
  | ro fl sz rows => cases hr <;> rfl
  | rp fl row k => obtain ⟨b, o, rfl, _⟩ := hr; rfl
  | gsl i rows => rcases hr with ⟨_, rfl⟩ | ⟨_, p, c', _, rfl, _⟩ <;> rfl
  | mpv i => obtain ⟨p, _, rfl⟩ := hr; rfl
  | yl i => obtain ⟨p, _, rfl⟩ := hr; rfl
  | mf f l => obtain ⟨vs, _, rfl⟩ := hr; rfl
theorem cells_one {u : Value} (h : u.oneCell' = true) : u.cells = #[u] := by cases u <;> simp_all [Value.oneCell', Value.cells]
theorem A0.cells_rel {I : IM} {R : RM} {v : A0} {u : Value} (h1 : v.cells.all Ce.single = true) (hr : v.rel I R u) : All2 (Ce.rel I R) v.cells u.cells.toList ∧ ∀ x ∈ u.cells.toList, x.oneCell' = true := by
  cases v with
  | one c =>
    have hs : c.single = true := by simpa [A0.cells] using h1
    have h2 := Ce.single_val hs hr
    rw [cells_one h2]
    exact ⟨⟨hr, trivial⟩, by simpa using h2⟩
  | agg cs =>
    obtain ⟨vs, rfl, h3⟩ := hr
    refine ⟨by simpa [A0.cells, Value.cells] using h3, ?_⟩
    intro x hx
    obtain ⟨c, hc, hcr⟩ := h3.mem (by simpa [Value.cells] using hx)
    exact Ce.single_val (by simpa using List.all_eq_true.1 h1 c (by simpa [A0.cells] using hc)) hcr
/-- Cells laid over others from a place on. -/
def spl {α : Type} (cs : List α) : Nat → List α → List α
  | _, [] => cs
  | o, v :: r => spl (cs.set o v) (o + 1) r
theorem spl_length {α : Type} : ∀ (vs : List α) (o : Nat) (cs : List α), (spl cs o vs).length = cs.length
  | [], _, _ => rfl
  | v :: r, o, cs => by rw [spl, spl_length r]; simp
theorem spl_get {α : Type} : ∀ (vs : List α) (o : Nat) (cs : List α) (j : Nat), o + vs.length ≤ cs.length → (spl cs o vs)[j]? = if o ≤ j ∧ j < o + vs.length then vs[j - o]? else cs[j]?
  | [], o, cs, j, _ => by simp [spl]; intro h h2; omega
  | v :: r, o, cs, j, h => by
    simp only [List.length_cons] at h
    rw [spl, spl_get r (o + 1) _ j (by simp; omega)]
    by_cases hj : o = j
    · subst hj
      rw [if_neg (by omega), if_pos (by simp)]
      simp [show o < cs.length by omega]
    · rw [List.getElem?_set_ne hj]
      by_cases h2 : o + 1 ≤ j ∧ j < o + 1 + r.length
      · rw [if_pos h2, if_pos (by simp; omega)]
        rw [show j - o = (j - (o + 1)) + 1 by omega]
        simp
      · rw [if_neg h2, if_neg (by simp; omega)]
theorem All2.set {α β : Type} {r : α → β → Prop} {a : α} {b : β} : ∀ {l : List α} {m : List β} (n : Nat), All2 r l m → r a b → All2 r (l.set n a) (m.set n b)
  | [], [], n, _, _ => by simp [All2]
  | x :: l, y :: m, 0, h, hr => ⟨hr, h.2⟩
  | x :: l, y :: m, n + 1, h, hr => ⟨h.1, All2.set n h.2 hr⟩
  | [], _ :: _, _, hh, _ => hh.elim
  | _ :: _, [], _, hh, _ => hh.elim
theorem All2.spl {α β : Type} {r : α → β → Prop} : ∀ {vs : List α} {us : List β} (o : Nat) {l : List α} {m : List β}, All2 r l m → All2 r vs us → All2 r (spl l o vs) (spl m o us)
  | [], [], _, _, _, h, _ => h
  | v :: vs, u :: us, o, _, _, h, h2 => All2.spl (o + 1) (h.set o h2.1) h2.2
  | [], _ :: _, _, _, _, _, hh => hh.elim
  | _ :: _, [], _, _, _, _, hh => hh.elim
theorem heap_setCells (b : Nat) (t : TypeId) : ∀ (vs : List Value) (o : Nat) (cs : Array Value) (w : World), w.heap[b]? = some (.cells cs t (0, 0)) → o + vs.length ≤ cs.size →
    (w.setCells b o vs).heap[b]? = some (.cells (spl cs.toList o vs).toArray t (0, 0))
  | [], _, cs, _, h, _ => by simpa [World.setCells, spl] using h
  | v :: r, o, cs, w, h, hl => by
    simp only [List.length_cons] at hl
    rw [World.setCells, spl]
    have := heap_setCells b t r (o + 1) (cs.setIfInBounds o v) (w.setCell ⟨b, o, none⟩ v) (by rw [heap_setCell_same w b o _ t _ h]) (by simp; omega)
    rw [this]
    simp
theorem other_setCells (b k : Nat) (hk : k ≠ b) : ∀ (vs : List Value) (o : Nat) (w : World), (w.setCells b o vs).heap[k]? = w.heap[k]?
  | [], _, _ => rfl
  | v :: r, o, w => by rw [World.setCells, other_setCells b k hk r, heap_setCell_other _ _ _ _ (by simpa using hk)]
theorem below_cells {B b : Nat} (hb : B ≤ b) : ∀ (vs : List Value) (o : Nat) (w0 w : World), Below B w0 w → Below B w0 (w.setCells b o vs)
  | [], _, _, _, h => h
  | v :: r, o, w0, w, h => below_cells hb r (o + 1) w0 _ (h.setCell hb _)
theorem belowZ_cells {W : Wo} {b : Nat} (hb : ¬ W.z b) (vs : List Value) (o : Nat) {w : World} (h : BelowZ W w) : BelowZ W (w.setCells b o vs) := by
  have hB : Below 0 w (w.setCells b o vs) := below_cells (Nat.zero_le _) vs o w w (.refl _ _)
  refine ⟨hB.os.trans h.os, hB.tape.trans h.tape, hB.output.trans h.output, Nat.le_trans h.size hB.size, fun k hk => ⟨(h.block k hk).1, ?_⟩⟩
  rw [other_setCells b k (fun e => hb (e ▸ hk))]
  exact (h.block k hk).2
section
variable {P : Program} {n : Nat} {W : Wo} {F : Nat → Option AV} {K : Nat → Option Blk} {I I' : IM} {R R' : RM} {a : Act} {w w' : World}
/-- A row of an own block is written. -/
theorem Wd.store (h : Wd W K I R w) {i : Nat} {b : Blk} (hb : K i = some b) {p : Loc} (hp : I i = some p) {q : Nat} {row : List Ce} (hr : b.rows[q]? = some row) (k : Nat) (vs : List Ce) (us : List Value) (hv : All2 (Ce.rel I R) vs us) (hle : k + vs.length ≤ row.length) :
    Wd W (kup K [(i, some ⟨b.rows.set q (spl row k vs), b.sz, b.ty, b.bx⟩)]) I R (w.setCells p.b (q * p.sz + k) us) := by
  obtain ⟨p', hp', hk⟩ := h.blk i b hb
  rw [hp] at hp'; cases hp'
  have hbase := h.base i b p hb hp
  obtain ⟨cs, hm, hsz, hc⟩ := hk.mem
  have hrow : row.length = p.sz := by rw [hk.sz]; exact hk.row row (List.mem_of_getElem? hr)
  have hql : q < b.rows.length := (List.getElem?_eq_some_iff.1 hr).1
  have hlen := hv.length
  have hfit : q * p.sz + k + us.length ≤ cs.size := by
    rw [hsz]
    have h1 : (q + 1) * p.sz ≤ p.tot * p.sz := Nat.mul_le_mul_right _ (by have := hk.fit; omega)
    rw [Nat.add_mul] at h1
    omega
  refine h.change (.refl _) (belowZ_cells hbase _ _ h.below) ?_ ?_ ?_
  · intro j b' hj
    simp only [kup] at hj
    by_cases hij : j = i
    · subst hij
      simp only [if_true, Option.some.injEq] at hj
      subst hj
      refine .inr ⟨p, hp, ⟨hk.sz, by simpa using hk.fit, hk.few, ?_, (spl cs.toList (q * p.sz + k) us).toArray, heap_setCells _ _ _ _ _ _ hm hfit, by simpa [spl_length] using hsz, ?_⟩, hbase, fun f o => h.apart j b p f o hb hp⟩
      · intro r hr'
        rcases List.mem_or_eq_of_mem_set hr' with h2 | h2
        · exact hk.row r h2
        · rw [h2, spl_length, ← hk.sz]; exact hrow
      · intro q' r k' c hq' hk'
        simp only [List.getElem?_toArray]
        rw [spl_get _ _ _ _ (by simpa using hfit)]
        by_cases hqq : q = q'
        · subst hqq
          rw [List.getElem?_set_self hql] at hq'
          cases hq'
          rw [spl_get _ _ _ _ hle] at hk'
          by_cases h2 : k ≤ k' ∧ k' < k + vs.length
          · rw [if_pos h2] at hk'
            rw [if_pos (by omega)]
            rw [show q * p.sz + k' - (q * p.sz + k) = k' - k by omega]
            exact hv.get hk'
          · rw [if_neg h2] at hk'
            rw [if_neg (by omega)]
            obtain ⟨u, h3, h4⟩ := hc q row k' c hr hk'
            exact ⟨u, by simpa using h3, h4⟩
        · rw [List.getElem?_set_ne hqq] at hq'
          obtain ⟨u, h3, h4⟩ := hc q' r k' c hq' hk'
          have hk'' : k' < p.sz := by
            have := (List.getElem?_eq_some_iff.1 hk').1
            rw [hk.row r (List.mem_of_getElem? hq')] at this
            rw [hk.sz]; exact this
          rw [if_neg ?_]
          · exact ⟨u, by simpa using h3, h4⟩
          · rintro ⟨h5, h6⟩
            rcases Nat.lt_or_gt_of_ne hqq with h7 | h7
            · have := Nat.mul_le_mul_right p.sz (show q + 1 ≤ q' from h7)
              rw [Nat.add_mul] at this
              omega
            · have := Nat.mul_le_mul_right p.sz (show q' + 1 ≤ q from h7)
              rw [Nat.add_mul] at this
              omega
    · rw [if_neg hij] at hj
      exact .inl ⟨hj, fun p2 hp2 => other_setCells _ _ (fun he => hij (h.inj _ _ _ _ _ _ hj hb hp2 hp he)) _ _ _⟩
  · intro f b2 o u hu
    refine other_setCells _ _ (fun he => ?_) _ _ _
    rw [he, h.apart i b p f o hb hp] at hu
    cases hu
  · intro j j' bj bj' p2 q2 hj hj' hp2 hq2 he
    simp only [kup] at hj hj'
    have : ∀ j bj, (if j = i then some (⟨b.rows.set q (spl row k vs), b.sz, b.ty, b.bx⟩ : Blk) else K j) = some bj → ∃ b0, K j = some b0 := fun j bj hj => by
      split at hj
      · rename_i e; rw [e]; exact ⟨b, hb⟩
      · exact ⟨bj, hj⟩
    obtain ⟨b1, h1⟩ := this j bj hj
    obtain ⟨b2, h2⟩ := this j' bj' hj'
    exact h.inj _ _ _ _ _ _ h1 h2 hp2 hq2 he
theorem St.put0 (h : St n W F K I R a w) (hI : IExt I I') (hR : RExt R R') {K' : Nat → Option Blk} (hw : Wd W K' I' R' w') : St n W F K' I' R' a w' :=
  ⟨h.size, h.defers, fun t y hy => AV.mono hI hR (h.fr t y hy), hw⟩
end
section
variable {P : Program} {o : Oper} {F0 : Nat → Option AV} {K0 : Nat → Option Blk} {rd : List Nat} {av : AV} {top : Nat} {T : Tab}
theorem e_store (t : TypeId) (x y : Operand) (ho : o.op = .store t x y) (hdst : o.dst = none) (ti : TI) (ht : tiOf P t = some ti) (i q k : Nat) (hx : evf F0 x = some (.c (.own i q k))) (b : Blk) (hb : K0 i = some b) (row : List Ce) (hr : b.rows[q]? = some row)
    (v : A0) (hy : evf F0 y = some (.pl v)) (hsz : Nat.beq v.cells.length ti.size = true) (h1 : v.cells.all Ce.single = true) (hl : Nat.ble (k + v.cells.length) row.length = true) :
    OpEff P o F0 K0 top ⟨.val undef, [i], [(i, some ⟨b.rows.set q (spl row k v.cells), b.sz, b.ty, b.bx⟩)], top⟩ := by
  intro n W F K I R a w hs hxx hk hf hd next Q hn
  have hm : ∀ z ∈ [x, y], evf F z = evf F0 z := fun z hz => hxx z (by simpa [ho, Op.operands] using hz)
  obtain ⟨p, hp, hu⟩ := hs.ev ((hm x (by simp)).trans hx)
  have hv := hs.ev ((hm y (by simp)).trans hy)
  obtain ⟨c1, c2⟩ := A0.cells_rel h1 hv
  have hlen := c1.length
  have hle : k + v.cells.length ≤ row.length := by simpa [Nat.ble_eq] using hl
  have hsz' : v.cells.length = ti.size := Nat.eq_of_beq_eq_true hsz
  have hKb : K i = some b := (hk i (by simp)).trans hb
  obtain ⟨p', vs, hp', hpsz, r1, r2, r3⟩ := hs.row hKb hr
  rw [hp] at hp'; cases hp'
  obtain ⟨d, inf, z, hud, hinf, _, _, hisz, _⟩ := tiOf_load ht
  have hst := run_storeCells_cells (P := P) p.b (q * p.sz + k) (a.eval y).cells.toList 0 w (fun j hj => by
      obtain ⟨u, hu'⟩ : ∃ u, vs[k + j]? = some u := ⟨vs[k + j]'(by rw [← r1.length]; omega), List.getElem?_eq_getElem _⟩
      have := r2 (k + j) u hu'
      rw [Nat.add_zero, Nat.add_assoc, this]; rfl) (fun j hj => r3 _) c2
  have hrun : (execOp a.eval o).run P w = .ok .skip (w.setCells p.b (q * p.sz + k) (a.eval y).cells.toList) := by
    simp only [execOp, ho, hu]
    rw [Sem.run_bind]
    have : (Instr.storeAt t (.pointer (some ⟨p.b, q * p.sz + k, none⟩)) (a.eval y)).run P w = .ok () (w.setCells p.b (q * p.sz + k) (a.eval y).cells.toList) := by
      have hcl : (a.eval y).cells.size = ti.size := by rw [← hsz', hlen]; simp
      simp only [Instr.storeAt, Instr.sureAddr, Sem.run_bind, Sem.run_pure, Result.andThen_ok]
      simp [storeVar, sizeOf, typeInfo, hinf, hisz, hcl]
      simpa using hst
    rw [this]; rfl
  unfold Oper.wp
  rw [hrun]
  refine hn I R _ _ ?_ (.refl _) (fun _ _ => rfl) (.refl _)
  have hw' := hs.wd.store hKb hp hr k v.cells _ c1 hle
  rw [hdst]
  exact hs.put0 (.refl _) (.refl _) hw'
theorem dom_ext {I : IM} {top : Nat} {p : Loc} : ∀ j, ¬ (top ≤ j ∧ j < top + 1) → ext I top p j = I j := fun j hj => by
  simp only [Wx.ext]; rw [if_neg (by omega)]
theorem e_new {n : Nat} {W : Wo} {F : Nat → Option AV} {K : Nat → Option Blk} {I : IM} {R : RM} {a : Act} {w : World} (hs : St n W F K I R a w) (hf : I top = none ∧ K top = none) (t : TypeId) {cs : List Ce} {us : List Value} (hc : All2 (Ce.rel I R) cs us) {d : Option Nat} (hd : dstB n d = true) :
    St n W (fput F d (.c (.own top 0 0))) (kup K [(top, some ⟨[cs], cs.length, t, true⟩)]) (ext I top ⟨w.heap.size, cs.length, 1⟩) R (a.put d (.pointer (some ⟨w.heap.size, 0, none⟩))) (w.alloc (.cells us.toArray t (0, 0))) := by
  have hw := hs.wd.new hf.1 hf.2 ⟨[cs], cs.length, t, true⟩ (by simp) 1 (by simp) (by simp [maxLen]) ((Below.refl _ w).alloc (Nat.le_refl _) _) (Nat.le_refl _) us.toArray (heap_push w _) (by simp [hc.length]) (fun q r k c h1 h2 => by
    cases q with
    | zero =>
      simp at h1; subst h1
      obtain ⟨u, hu, hr⟩ := hc.get h2
      exact ⟨u, by simpa using hu, hr⟩
    | succ q => simp at h1)
  exact hs.put (.ext hf.1) (.refl _) hw hd ⟨_, by simp [Wx.ext]; rfl, by simp⟩
theorem e_alloc (t : TypeId) (ho : o.op = .alloc t) (ti : TI) (ht : tiOf P t = some ti) : OpEff P o F0 K0 top ⟨.c (.own top 0 0), [], [(top, some ⟨[ti.zero.map .v], (ti.zero.map Ce.v).length, t, true⟩)], top + 1⟩ := by
  intro n W F K I R a w hs hxx hk hf hd next Q hn
  obtain ⟨d, inf, z, hud, hinf, hz, _, hisz, hzc⟩ := tiOf_load ht
  have hc : All2 (Ce.rel I R) (ti.zero.map Ce.v) z.cells.toList := by
    rw [hzc]; exact All2.map _ (All2.of_get rfl fun i a b h1 h2 => by rw [h1] at h2; cases h2; rfl)
  have h2 := e_new hs (hf top (Nat.le_refl _) (by simp)) t hc hd
  unfold Oper.wp
  have hrun : (execOp a.eval o).run P w = .ok (.value (.pointer (some ⟨w.heap.size, 0, none⟩))) (w.alloc (.cells z.cells.toList.toArray t (0, 0))) := by
    simp only [execOp, ho]
    simp [go_sem, zeroValue, typeInfo, hinf, hz]
  rw [hrun]
  exact hn _ _ _ _ h2 (.ext (hf top (Nat.le_refl _) (by simp)).1) dom_ext (.refl _)
theorem e_box (t : TypeId) (x : Operand) (ho : o.op = .box t x) (v : A0) (hx : evf F0 x = some (.pl v)) (h1 : v.cells.all Ce.single = true) : OpEff P o F0 K0 top ⟨.c (.own top 0 0), [], [(top, some ⟨[v.cells], v.cells.length, t, true⟩)], top + 1⟩ := by
  intro n W F K I R a w hs hxx hk hf hd next Q hn
  have hv := hs.ev ((hxx x (by simp [ho, Op.operands])).trans hx)
  obtain ⟨c1, c2⟩ := A0.cells_rel h1 hv
  have h2 := e_new hs (hf top (Nat.le_refl _) (by simp)) t c1 hd
  unfold Oper.wp
  have hrun : (execOp a.eval o).run P w = .ok (.value (.pointer (some ⟨w.heap.size, 0, none⟩))) (w.alloc (.cells (a.eval x).cells.toList.toArray t (0, 0))) := by
    simp only [execOp, ho]
    simp [go_sem]
  rw [hrun]
  exact hn _ _ _ _ h2 (.ext (hf top (Nat.le_refl _) (by simp)).1) dom_ext (.refl _)
/-- Parts laid over a struct's zero. -/
def fillC (offs : List (Nat × Nat × Bool)) : List Ce → List (Nat × A0) → Option (List Ce)
  | cs, [] => some cs
  | cs, (i, v) :: r => match offs[i]? with
    | some (off, sz, _) => match Nat.beq v.cells.length sz && Nat.ble (off + sz) cs.length && v.cells.all Ce.single with
      | true => fillC offs (spl cs off v.cells) r
      | false => none
    | none => none
theorem fold_spl (off : Nat) : ∀ (l : List Value) (k : Nat) (arr : Array Value), ((l.zipIdx k).foldl (fun cs (p : Value × Nat) => cs.setIfInBounds (off + p.2) p.1) arr).toList = spl arr.toList (off + k) l
  | [], _, _ => rfl
  | v :: r, k, arr => by
    simp only [List.zipIdx_cons, List.foldl_cons, spl]
    rw [fold_spl off r (k + 1)]
    simp [Nat.add_assoc]
theorem fill_rel {I : IM} {R : RM} {offs : List (Nat × Nat × Bool)} {place : Nat → Option (Nat × Nat)} (hpl : ∀ i off sz r, offs[i]? = some (off, sz, r) → place i = some (off, sz)) :
    ∀ {parts : List (Nat × A0)} {vals : List (Nat × Value)} {cs : List Ce} {us : Array Value} {out : List Ce}, All2 (Ce.rel I R) cs us.toList → All2 (fun (a : Nat × A0) (b : Nat × Value) => a.1 = b.1 ∧ a.2.rel I R b.2) parts vals → fillC offs cs parts = some out →
      ∃ arr, Instr.fill place us vals = some arr ∧ All2 (Ce.rel I R) out arr.toList
  | [], [], cs, us, out, h, _, ho => by simp only [fillC, Option.some.injEq] at ho; subst ho; exact ⟨us, rfl, h⟩
  | (i, v) :: parts, (j, u) :: vals, cs, us, out, h, hp, ho => by
    obtain ⟨⟨h1, h2⟩, h3⟩ := hp
    simp only at h1 h2
    subst h1
    simp only [fillC] at ho
    split at ho
    · rename_i off sz r hoff
      split at ho
      · rename_i hb
        simp only [Bool.and_eq_true] at hb
        obtain ⟨⟨b1, b2⟩, b3⟩ := hb
        have e1 := Nat.eq_of_beq_eq_true b1
        have e2 : off + sz ≤ cs.length := by simpa [Nat.ble_eq] using b2
        obtain ⟨c1, c2⟩ := A0.cells_rel b3 h2
        have l1 := c1.length
        have l2 := h.length
        have hf : (u.cells.zipIdx.foldl (fun cs (p : Value × Nat) => cs.setIfInBounds (off + p.2) p.1) us).toList = spl us.toList off u.cells.toList := by
          have := fold_spl off u.cells.toList 0 us
          rw [← Array.foldl_toList, Array.toList_zipIdx]
          simpa using this
        obtain ⟨arr, h5, h6⟩ := fill_rel hpl (us := u.cells.zipIdx.foldl (fun cs (p : Value × Nat) => cs.setIfInBounds (off + p.2) p.1) us) (by rw [hf]; exact h.spl off c1) h3 ho
        refine ⟨arr, ?_, h6⟩
        simp only [Instr.fill, hpl i off sz r hoff]
        rw [if_neg (by simp only [Bool.or_eq_true, decide_eq_true_eq, not_or]; simp at l1 l2 ⊢; omega)]
        exact h5
      · cases ho
    · cases ho
  | [], _ :: _, _, _, _, _, hh, _ => hh.elim
  | _ :: _, [], _, _, _, _, hh, _ => hh.elim
def evb (F : Nat → Option AV) : List (Nat × Operand) → Option (List (Nat × A0))
  | [] => some []
  | (i, x) :: r => match evf F x, evb F r with
    | some (.pl v), some l => some ((i, v) :: l)
    | _, _ => none
theorem St.evb {n : Nat} {W : Wo} {F : Nat → Option AV} {K : Nat → Option Blk} {I : IM} {R : RM} {a : Act} {w : World} (h : St n W F K I R a w) : ∀ {l : List (Nat × Operand)} {vs : List (Nat × A0)}, (∀ q ∈ l, evf F q.2 = evf F0 q.2) → Wx.evb F0 l = some vs →
    All2 (fun (a : Nat × A0) (b : Nat × Value) => a.1 = b.1 ∧ a.2.rel I R b.2) vs (l.map fun q => (q.1, a.eval q.2))
  | [], vs, _, hx => by simp only [Wx.evb, Option.some.injEq] at hx; subst hx; trivial
  | (i, x) :: r, vs, hm, hx => by
    simp only [Wx.evb] at hx
    split at hx
    · rename_i v l h1 h2
      simp only [Option.some.injEq] at hx
      subst hx
      exact ⟨⟨rfl, h.ev ((hm (i, x) List.mem_cons_self).trans h1)⟩, h.evb (fun q hq => hm q (List.mem_cons_of_mem _ hq)) h2⟩
    · cases hx
theorem run_places {w : World} : ∀ (l : List Field), (∀ f ∈ l, ∃ i, P.info? f.type = some i ∧ fsz P f.type = i.size) → (l.mapM fun f => (do pure (f.offset, ← sizeOf f.type) : Sem (Nat × Nat))).run P w = .ok (l.map fun f => (f.offset, fsz P f.type)) w
  | [], _ => by simp
  | f :: r, hl => by
    obtain ⟨i, hi, h2⟩ := hl f List.mem_cons_self
    have ih := run_places (w := w) r fun g hg => hl g (List.mem_cons_of_mem _ hg)
    have h1 : (sizeOf f.type).run P w = .ok i.size w := by simp [sizeOf, typeInfo, hi]
    rw [List.mapM_cons, Sem.run_bind, Sem.run_bind, h1]
    simp only [Result.andThen_ok, Sem.run_pure, List.map_cons, h2]
    rw [Sem.run_bind, ih]
    simp
theorem y_build (t : TypeId) (ps : Array (Nat × Operand)) (ho : o.op = .build t ps) (ti : TI) (ht : tiOf P t = some ti) (hoff : (match ti.offs with | [] => false | _ => ti.offs.all fun x => Nat.blt 0 x.2.1) = true) (avs : List (Nat × A0)) (hx : evb F0 ps.toList = some avs) (out : List Ce) (hout : fillC ti.offs (ti.zero.map .v) avs = some out) :
    Yv P o F0 K0 [] (.pl (.agg out)) := by
  obtain ⟨d, inf, z, hud, hinf, hz, _, hisz, hzc⟩ := tiOf_load ht
  have hall : ∀ x ∈ ti.offs, 0 < x.2.1 := by
    intro x hx
    split at hoff
    · cases hoff
    · have := List.all_eq_true.1 hoff x hx
      simpa [Nat.blt_eq] using this
  obtain ⟨fs, hst⟩ : ∃ fs, P.underlying t = some (.struct fs) := by
    have h0 : ∃ x, ti.offs[0]? = some x := by
      cases hq : ti.offs with
      | nil => rw [hq] at hoff; cases hoff
      | cons x r => exact ⟨x, rfl⟩
    obtain ⟨⟨off, sz, r⟩, hx0⟩ := h0
    obtain ⟨fs, fd, h1, _⟩ := tiOf_field ht hx0
    exact ⟨fs, h1⟩
  have hoffs : ti.offs = fs.toList.map fun f => (f.offset, fsz P f.type, (match P.underlying f.type with | some d => d.isRow | none => false)) := by
    have := ht
    unfold tiOf at this
    rw [hst, hinf] at this
    simp only [hz, Option.some.injEq] at this
    rw [← this]
    rfl
  have hinfo : ∀ f ∈ fs.toList, ∃ i, P.info? f.type = some i ∧ fsz P f.type = i.size := by
    intro f hf
    have := hall (f.offset, fsz P f.type, _) (by rw [hoffs]; exact List.mem_map.2 ⟨f, hf, rfl⟩)
    obtain ⟨_, inf, _, h1, h2⟩ := fsz_spec rfl this
    exact ⟨inf, h1, h2.symm⟩
  intro n W F K I R a w hs hxx hk
  have e := hs.evb (fun q hq => hxx q.2 (by simp [ho, Op.operands]; exact ⟨q.1, by simpa using hq⟩)) hx
  have hplaces : (fs.mapM fun f => (do pure (f.offset, ← sizeOf f.type) : Sem (Nat × Nat))).run P w = .ok (fs.toList.map fun f => (f.offset, fsz P f.type)).toArray w := by
    rw [Array.mapM_eq_mapM_toList, ← bind_pure_comp, Sem.run_bind, run_places _ hinfo]
    rfl
  obtain ⟨arr, h1, h2⟩ := fill_rel (I := I) (R := R) (place := fun i => (fs.toList.map fun f => (f.offset, fsz P f.type)).toArray[i]?) (by
      intro i off sz r hi
      rw [hoffs] at hi
      simp only [List.getElem?_map, Option.map_eq_some_iff] at hi
      obtain ⟨f, hf, he⟩ := hi
      simp only [Prod.mk.injEq] at he
      obtain ⟨e1, e2, _⟩ := he
      simp only [List.getElem?_toArray, List.getElem?_map, hf, Option.map_some, e1, e2]) (us := z.cells) (cs := ti.zero.map Ce.v) (by
      rw [hzc]; exact All2.map _ (All2.of_get rfl fun i a b h1 h2 => by rw [h1] at h2; cases h2; rfl)) e hout
  refine ⟨.agg arr, ?_, arr.toList, by simp, h2⟩
  simp only [execOp, ho]
  have hb : (Instr.build t (ps.map fun (i, x) => (i, a.eval x))).run P w = .ok (.agg arr) w := by
    have hzv : (zeroValue t).run P w = .ok z w := by simp [zeroValue, typeInfo, hinf, hz]
    have hp : (ps.map fun (i, x) => (i, a.eval x)).toList = ps.toList.map fun q => (q.1, a.eval q.2) := by simp
    simp only [Instr.build]
    rw [Sem.run_bind, hzv]
    simp only [Result.andThen_ok]
    rw [Sem.run_bind, run_underlying hst]
    simp only [Result.andThen_ok]
    rw [Sem.run_bind, hplaces]
    simp only [Result.andThen_ok, hp, h1, Sem.run_pure]
  rw [Sem.run_bind, hb]
  rfl
/-- The address of an element. -/
theorem y_index (t : TypeId) (x y : Operand) (ho : o.op = .indexAddr t x y) (ti : TI) (ht : tiOf P t = some ti) (e : TypeId) (s bt : Nat) (hel : ti.elem = some (e, s, bt)) (i q m : Nat) (c : Option Nat) (hx : evf F0 x = some (.c (.osl i q m c)) ∨ (q = 0 ∧ ∃ rows, m = rows.length ∧ evf F0 x = some (.c (.gsl i rows)))) (b : Blk) (hb : K0 i = some b) (hsz : Nat.beq b.sz s = true)
    (k : IntKind) (j : Int) (hy : evf F0 y = some (.val (.int k j))) (j' : Nat) (hj : j = (j' : Int)) (hlt : j' < m) : Yv P o F0 K0 [i] (.c (.own i (q + j') 0)) := by
  obtain ⟨hu, inf, z, hinf, _, hs1, _⟩ := tiOf_elem ht hel
  have hsz' := Nat.eq_of_beq_eq_true hsz
  subst hj
  intro n W F K I R a w hs hxx hk
  have hm : ∀ z ∈ [x, y], evf F z = evf F0 z := fun z hz => hxx z (by simpa [ho, Op.operands] using hz)
  obtain ⟨p, c', hp, hx'⟩ : ∃ p c', I i = some p ∧ a.eval x = .slice (some ⟨p.b, q * p.sz, none⟩) m c' := by
    rcases hx with hx | ⟨rfl, rows, rfl, hx⟩
    · obtain ⟨p, c', hp, hx', _⟩ := hs.ev ((hm x (by simp)).trans hx); exact ⟨p, c', hp, hx'⟩
    · rcases hs.ev ((hm x (by simp)).trans hx) with ⟨rfl, _⟩ | ⟨_, p, c', hp, hx', _⟩
      · simp at hlt
      · exact ⟨p, c', hp, by simpa using hx'⟩
  have hy' := ev_plain hs ((hm y (by simp)).trans hy)
  obtain ⟨p', hp', hbk⟩ := hs.wd.blk i b ((hk i (by simp)).trans hb)
  rw [hp] at hp'; cases hp'
  refine ⟨_, ?_, p, hp, rfl⟩
  simp only [execOp, ho, hx', hy']
  have hrun : (Instr.indexAt t (.slice (some ⟨p.b, q * p.sz, none⟩) m c') (.int k (j' : Int))).run P w = .ok (.pointer (some ⟨p.b, (q + j') * p.sz + 0, none⟩)) w := by
    unfold Instr.indexAt
    simp only [asIntOf, Sem.run_bind, Sem.run_pure, Result.andThen_ok, run_underlying hu w]
    simp [sizeOf, typeInfo, hinf, hs1, ← hsz', ← hbk.sz, hlt, Addr.add_mid, Nat.add_mul]
  rw [Sem.run_bind, hrun]
  rfl
theorem y_indexr (t : TypeId) (x y : Operand) (ho : o.op = .indexAddr t x y) (ti : TI) (ht : tiOf P t = some ti) (e : TypeId) (s bt : Nat) (hel : ti.elem = some (e, s, bt)) (fl : Bool) (sz : Nat) (rows : List (List RT)) (hx : evf F0 x = some (.c (.ro fl sz rows))) (hsz : Nat.beq sz s = true)
    (k : IntKind) (j : Int) (hy : evf F0 y = some (.val (.int k j))) (j' : Nat) (hj : j = (j' : Int)) (row : List RT) (hr : rows[j']? = some row) : Yv P o F0 K0 [] (.c (.rp fl row 0)) := by
  obtain ⟨hu, inf, z, hinf, _, hs1, _⟩ := tiOf_elem ht hel
  have hsz' := Nat.eq_of_beq_eq_true hsz
  subst hj
  intro n W F K I R a w hs hxx hk
  have hm : ∀ z ∈ [x, y], evf F z = evf F0 z := fun z hz => hxx z (by simpa [ho, Op.operands] using hz)
  have hx' := hs.ev ((hm x (by simp)).trans hx)
  have hy' := ev_plain hs ((hm y (by simp)).trans hy)
  simp only [AV.rel, A0.rel, Ce.rel] at hx'
  have hlt : j' < rows.length := (List.getElem?_eq_some_iff.1 hr).1
  simp only [execOp, ho, hy']
  generalize a.eval x = u at *
  cases hx' with
  | nil => simp at hlt
  | emp => simp at hlt
  | ro _ _ b off cap val hl hcap hc hrr =>
    refine ⟨.pointer (some ⟨b, off + j' * sz + 0, none⟩), ?_, b, off + j' * sz, rfl, fun l t hlt' => ⟨_, hc j' row l t hr hlt', hrr j' row l t hr hlt'⟩⟩
    have hrun : (Instr.indexAt t (.slice (some ⟨b, off, none⟩) rows.length cap) (.int k (j' : Int))).run P w = .ok (.pointer (some ⟨b, off + j' * sz + 0, none⟩)) w := by
      unfold Instr.indexAt
      simp only [asIntOf, Sem.run_bind, Sem.run_pure, Result.andThen_ok, run_underlying hu w]
      simp [sizeOf, typeInfo, hinf, hs1, ← hsz', hlt, Addr.add_mid]
    rw [Sem.run_bind, hrun]
    rfl
/-- The address of an array's element. -/
theorem y_indexa (t : TypeId) (x y : Operand) (ho : o.op = .indexAddr t x y) (ti : TI) (ht : tiOf P t = some ti) (m s : Nat) (rw' : Bool) (hel : ti.arr = some (m, s, rw')) (c c' : Ce) (hx : evf F0 x = some (.c c))
    (k : IntKind) (j : Int) (hy : evf F0 y = some (.val (.int k j))) (j' : Nat) (hj : j = (j' : Int)) (hlt : j' < m) (hc : (match c with | .own i q k => some (Ce.own i q (k + j' * s)) | .rp fl row k => some (.rp fl row (k + j' * s)) | _ => none) = some c') : Yv P o F0 K0 [] (.c c') := by
  obtain ⟨e, de, inf, hu, hinf, _, hs1, _⟩ := tiOf_arr ht hel
  subst hj
  intro n W F K I R a w hs hxx hk
  have hm : ∀ z ∈ [x, y], evf F z = evf F0 z := fun z hz => hxx z (by simpa [ho, Op.operands] using hz)
  have hx' := hs.ev ((hm x (by simp)).trans hx)
  have hy' := ev_plain hs ((hm y (by simp)).trans hy)
  have hrun : ∀ b o', (Instr.indexAt t (.pointer (some ⟨b, o', none⟩)) (.int k (j' : Int))).run P w = .ok (.pointer (some ⟨b, o' + j' * s, none⟩)) w := by
    intro b o'
    unfold Instr.indexAt
    simp only [asIntOf, Sem.run_bind, Sem.run_pure, Result.andThen_ok, run_underlying hu w]
    simp [sizeOf, typeInfo, hinf, hs1, hlt, Addr.add_mid, Instr.sureAddr, run_underlying hu]
  simp only [execOp, ho, hy']
  cases c with
  | own i q k =>
    simp only [Option.some.injEq] at hc
    subst hc
    obtain ⟨p, hp, hu⟩ := hx'
    refine ⟨_, ?_, p, hp, rfl⟩
    rw [hu, Sem.run_bind, hrun]
    simp [Nat.add_assoc]
  | rp fl row k =>
    simp only [Option.some.injEq] at hc
    subst hc
    obtain ⟨b, o', hu, hh⟩ := hx'
    refine ⟨_, ?_, b, o', rfl, hh⟩
    rw [hu, Sem.run_bind, hrun]
    simp [Nat.add_assoc]
  | _ => simp at hc
theorem y_len (t : TypeId) (x : Operand) (ho : o.op = .call ⟨.builtin .len, #[x], #[t]⟩) (ti : TI) (ht : tiOf P t = some ti) (e : TypeId) (s bt : Nat) (hel : ti.elem = some (e, s, bt)) (c : Ce) (hx : evf F0 x = some (.c c)) (m : Nat)
    (hc : (match c with | .osl i q m c => some m | .ro fl sz rows => some rows.length | .gsl i rows => some rows.length | .v (.slice a m c) => some m | _ => none) = some m) : Yv P o F0 K0 [] (.val (.int .i64 m)) := by
  obtain ⟨hu, inf, z, hinf, _, hs1, _⟩ := tiOf_elem ht hel
  intro n W F K I R a w hs hxx hk
  have hx' := hs.ev ((hxx x (by simp [ho, Op.operands, Call.operands])).trans hx)
  obtain ⟨ad, cap, hv⟩ : ∃ ad cap, a.eval x = .slice ad m cap := by
    generalize a.eval x = u at *
    cases c with
    | v y =>
      cases y <;> simp at hc
      subst hc
      exact ⟨_, _, hx'⟩
    | osl i q l c =>
      simp only [Option.some.injEq] at hc
      subst hc
      obtain ⟨p, c', _, h, _⟩ := hx'
      exact ⟨_, _, h⟩
    | ro fl sz rows =>
      simp only [Option.some.injEq] at hc
      subst hc
      simp only [AV.rel, A0.rel, Ce.rel] at hx'
      cases hx' with
      | nil => exact ⟨_, _, rfl⟩
      | emp => exact ⟨_, _, rfl⟩
      | ro _ _ b off cap val hl hcap hc hrr => exact ⟨_, _, rfl⟩
    | gsl i rows =>
      simp only [Option.some.injEq] at hc
      subst hc
      rcases hx' with ⟨h1, h2⟩ | ⟨_, p, c', _, h2, _⟩
      · rw [h1]; exact ⟨_, _, h2⟩
      · exact ⟨_, _, h2⟩
    | _ => simp at hc
  refine ⟨_, ?_, rfl⟩
  simp only [execOp, ho]
  rw [Sem.run_bind]
  simp [resolve, invoke, builtin, Builtin.len_, hv, run_underlying hu, goInt]
theorem y_mm (mx : Bool) (x y : Operand) (ts : Array TypeId) (ho : o.op = .call ⟨.builtin (if mx then .max else .min), #[x, y], ts⟩) (k : IntKind) (p q : Int) (hx : evf F0 x = some (.val (.int k p))) (hy : evf F0 y = some (.val (.int k q))) :
    Yv P o F0 K0 [] (.val (.int k (if mx then max p q else min p q))) := by
  intro n W F K I R a w hs hxx hk
  have hm : ∀ z ∈ [x, y], evf F z = evf F0 z := fun z hz => hxx z (by simpa [ho, Op.operands, Call.operands] using hz)
  have e1 := ev_plain hs ((hm x (by simp)).trans hx)
  have e2 := ev_plain hs ((hm y (by simp)).trans hy)
  refine ⟨_, ?_, rfl⟩
  cases mx with
  | true =>
    have hmx : (if q > p then q else p) = max p q := by
      rw [Int.max_def]
      split <;> split <;> omega
    simp only [execOp, ho]
    rw [Sem.run_bind]
    simp [resolve, invoke, builtin, Builtin.max_, Builtin.max2, e1, e2]
    exact hmx
  | false =>
    have hmn : (if q < p then q else p) = min p q := by
      rw [Int.min_def]
      split <;> split <;> omega
    simp only [execOp, ho]
    rw [Sem.run_bind]
    simp [resolve, invoke, builtin, Builtin.min_, Builtin.min2, e1, e2]
    exact hmn
/-- A field, or an element, of a value. -/
theorem y_field (t : TypeId) (x : Operand) (f : Nat) (ho : o.op = .field t x f) (ti : TI) (ht : tiOf P t = some ti) (off sz : Nat) (r : Bool) (hf : ti.offs[f]? = some (off, sz, r)) (hz : Nat.blt 0 sz = true) (cs : List Ce) (hx : evf F0 x = some (.pl (.agg cs))) (v : A0) (hv : cut r off sz cs = some v) : Yv P o F0 K0 [] (.pl v) := by
  obtain ⟨fs, fd, h1, h2, h3, h4, h5⟩ := tiOf_field ht hf
  intro n W F K I R a w hs hxx hk
  have h0 := hs.ev ((hxx x (by simp [ho, Op.operands])).trans hx)
  simp only [AV.rel, A0.rel] at h0
  obtain ⟨vs, e1, e2⟩ := h0
  have hz' : 0 < sz := by simpa [Nat.blt_eq] using hz
  obtain ⟨dd, inf, hdd, hinf, hsz⟩ := fsz_spec h4 hz'
  rw [hdd] at h5
  simp only at h5
  have hpart : ∃ u, (part fd.type vs.toArray off).run P w = .ok u w ∧ v.rel I R u := by
    unfold cut at hv
    have hlen := e2.length
    cases hrow : r with
    | true =>
      rw [hrow] at hv h5
      simp only at hv
      split at hv
      · rename_i hle
        simp only [Option.some.injEq] at hv
        subst hv
        have hle' : off + sz ≤ cs.length := by simpa [Nat.ble_eq] using hle
        have hagg : (isAgg fd.type).run P w = .ok true w := by
          unfold isAgg
          rw [Sem.run_bind, run_underlying hdd w]
          cases dd <;> simp_all
        refine ⟨.agg ((vs.drop off).take sz).toArray, ?_, _, rfl, (e2.drop off).take sz⟩
        unfold part
        rw [Sem.run_bind, hagg]
        simp [sizeOf, typeInfo, hinf, hsz]
      · cases hv
    | false =>
      rw [hrow] at hv h5
      simp only at hv
      split at hv
      · rename_i c hcc
        simp only [Option.some.injEq] at hv
        subst hv
        obtain ⟨u, g1, g2⟩ := e2.get hcc
        have hagg : (isAgg fd.type).run P w = .ok false w := by
          unfold isAgg
          rw [Sem.run_bind, run_underlying hdd w]
          cases dd <;> simp_all
        refine ⟨u, ?_, g2⟩
        unfold part
        rw [Sem.run_bind, hagg]
        simp [g1]
      · cases hv
  obtain ⟨u, g1, g2⟩ := hpart
  refine ⟨u, ?_, g2⟩
  simp only [execOp, ho, e1]
  have : (Instr.field t (.agg vs.toArray) f).run P w = .ok u w := by
    simp only [Instr.field, Sem.run_bind, run_underlying h1, Result.andThen_ok]
    simp only [h2, asAgg, Sem.run_bind, Sem.run_pure, Result.andThen_ok, h3]
    exact g1
  rw [Sem.run_bind, this]
  rfl
end
end Go.Proofs.Ytllnmdmmmkoiaaa.Wx
