/-
  A walk by computation: copy, append of noughts, cap.
-/
import Derived.Test.YtllnmdmmmkoiaaaWm
import Derived.IntWalk
namespace Go.Proofs.Ytllnmdmmmkoiaaa.Wx
open Go Go.RowKit
set_option linter.unusedVariables false

section
variable {P : Program} {n : Nat} {W : Wo} {F : Nat → Option AV} {K : Nat → Option Blk} {I : IM} {R : RM} {a : Act} {w : World}
/-- Rows laid over rows. -/
def lay (rows : List (List Ce)) (q : Nat) (src : List (List Ce)) : List (List Ce) := rows.take q ++ (src ++ rows.drop (q + src.length))
theorem lay_length {rows src : List (List Ce)} {q : Nat} (h : q + src.length ≤ rows.length) : (lay rows q src).length = rows.length := by
  simp [lay]; omega
theorem lay_get {rows src : List (List Ce)} {q j : Nat} (h : q + src.length ≤ rows.length) : (lay rows q src)[j]? = if q ≤ j ∧ j < q + src.length then src[j - q]? else rows[j]? := by
  unfold lay
  by_cases h1 : j < q
  · rw [List.getElem?_append_left (by simp; omega), List.getElem?_take, if_pos h1, if_neg (by omega)]
  · rw [List.getElem?_append_right (by simp; omega)]
    have hl : (rows.take q).length = q := by simp; omega
    rw [hl]
    by_cases h2 : j < q + src.length
    · rw [if_pos ⟨by omega, h2⟩, List.getElem?_append_left (by omega)]
    · rw [if_neg (by omega), List.getElem?_append_right (by omega), List.getElem?_drop]
      congr 1; omega
theorem Wd.lay (h : Wd W K I R w) {i : Nat} {b : Blk} (hb : K i = some b) {p : Loc} (hp : I i = some p) {q : Nat} {src : List (List Ce)} {us : List Value} (hq : q + src.length ≤ b.rows.length) (hrow : ∀ r ∈ src, r.length = b.sz) (hul : us.length = src.length * b.sz) (hv : All2 (Ce.rel I R) src.flatten us) :
    Wd W (kup K [(i, some ⟨Wx.lay b.rows q src, b.sz, b.ty, b.bx⟩)]) I R (w.setCells p.b (q * p.sz) us) := by
  obtain ⟨p', hp', hk⟩ := h.blk i b hb
  rw [hp] at hp'; cases hp'
  have hbase := h.base i b p hb hp
  obtain ⟨cs, hm, hsz, hc⟩ := hk.mem
  have hps := hk.sz
  rw [← hps] at hul hrow
  have hfit : q * p.sz + us.length ≤ cs.size := by
    rw [hsz, hul, ← Nat.add_mul]
    exact Nat.mul_le_mul_right _ (by have := hk.fit; omega)
  refine h.change (.refl _) (belowZ_cells hbase _ _ h.below) ?_ ?_ ?_
  · intro j b' hj
    simp only [kup] at hj
    by_cases hij : j = i
    · subst hij
      simp only [if_true, Option.some.injEq] at hj
      subst hj
      refine .inr ⟨p, hp, ⟨hps, by simp only [lay_length hq]; exact hk.fit, hk.few, ?_, (spl cs.toList (q * p.sz) us).toArray, heap_setCells _ _ _ _ _ _ hm hfit, by simpa [spl_length] using hsz, ?_⟩, hbase, fun f o => h.apart j b p f o hb hp⟩
      · intro r hr
        simp only [Wx.lay, List.mem_append] at hr
        rcases hr with hr | hr | hr
        · exact hk.row r (List.mem_of_mem_take hr)
        · rw [← hps]; exact hrow r hr
        · exact hk.row r (List.mem_of_mem_drop hr)
      · intro q' r k c hq' hk'
        rw [lay_get hq] at hq'
        simp only [List.getElem?_toArray]
        rw [spl_get _ _ _ _ (by simpa using hfit)]
        split at hq'
        · rename_i hin
          have hks : k < p.sz := by rw [← hrow r (List.mem_of_getElem? hq')]; exact (List.getElem?_eq_some_iff.1 hk').1
          have h1 := Nat.mul_le_mul_right p.sz hin.1
          have h2 := Nat.mul_le_mul_right p.sz (show q' + 1 ≤ q + src.length from hin.2)
          rw [Nat.add_mul, Nat.add_mul] at h2
          rw [if_pos (by rw [hul]; omega)]
          obtain ⟨u, hu, hr⟩ := flat_at hrow hv hq' hk'
          refine ⟨u, ?_, hr⟩
          rw [← hu]
          congr 1
          rw [Nat.sub_mul]; omega
        · rename_i hout
          obtain ⟨u, h3, h4⟩ := hc q' r k c hq' hk'
          have hks : k < p.sz := by
            have := (List.getElem?_eq_some_iff.1 hk').1
            rw [hk.row r (List.mem_of_getElem? hq')] at this
            rw [hps]; exact this
          rw [if_neg ?_]
          · exact ⟨u, by simpa using h3, h4⟩
          · rintro ⟨h5, h6⟩
            rcases Nat.lt_or_ge q' q with h7 | h7
            · have := Nat.mul_le_mul_right p.sz (show q' + 1 ≤ q from h7)
              rw [Nat.add_mul] at this
              omega
            · have := Nat.mul_le_mul_right p.sz (show q + src.length ≤ q' by omega)
              rw [Nat.add_mul] at this
              rw [hul] at h6
              omega
    · rw [if_neg hij] at hj
      exact .inl ⟨hj, fun p2 hp2 => other_setCells _ _ (fun he => hij (h.inj _ _ _ _ _ _ hj hb hp2 hp he)) _ _ _⟩
  · intro f b2 o u hu
    refine other_setCells _ _ (fun he => ?_) _ _ _
    rw [he, h.apart i b p f o hb hp] at hu
    cases hu
  · intro j j' bj bj' p2 q2 hj hj' hp2 hq2 he
    simp only [kup] at hj hj'
    have : ∀ j bj, (if j = i then some (⟨Wx.lay b.rows q src, b.sz, b.ty, b.bx⟩ : Blk) else K j) = some bj → ∃ b0, K j = some b0 := fun j bj hj => by
      split at hj
      · rename_i e; rw [e]; exact ⟨b, hb⟩
      · exact ⟨bj, hj⟩
    obtain ⟨b1, h1⟩ := this j bj hj
    obtain ⟨b2, h2⟩ := this j' bj' hj'
    exact h.inj _ _ _ _ _ _ h1 h2 hp2 hq2 he
theorem run_copy_gen {dT sT ty elem : TypeId} {inf : TypeInfo} (hu : P.underlying dT = some (.slice elem)) (hi : P.info? elem = some inf) (g off dLen dCap : Nat) (ad : Option Addr) (sLen sCap : Nat) (cs : List Value) (hn : cs.length = Nat.min sLen dLen * inf.size)
    (hsrc : ∀ x, ad = some x → ∀ j v, cs[j]? = some v → w.cell? (x.add j) = some v) (hnone : ad = none → cs = []) (hc : ∀ j, j < cs.length → (w.cell? ⟨g, off + j, none⟩).isSome = true) (hf : ∀ j, j < cs.length → w.frozen? ⟨g, off + j, none⟩ = false) (h1 : ∀ v ∈ cs, v.oneCell' = true) :
    (Builtin.copy_ #[dT, sT] ty #[.slice (some ⟨g, off, none⟩) dLen dCap, .slice ad sLen sCap]).run P w = .ok (goInt (Nat.min sLen dLen)) (w.setCells g off cs) := by
  have hst := run_storeCells_cells (P := P) g off cs 0 w (by simpa using hc) (by simpa using hf) h1
  cases ad with
  | none =>
    have := hnone rfl
    subst this
    simp [Builtin.copy_, run_underlying hu, Builtin.lenOf, sizeOf, typeInfo, hi, run_firstCells_none, storeCells, World.setCells]
  | some x =>
    have hfc := run_firstCells_some (P := P) w inf.size (Nat.min sLen dLen) x sLen sCap cs hn (hsrc x rfl)
    simp only [Nat.add_zero] at hst
    have hfc' : (Builtin.firstCells inf.size (min sLen dLen) (.slice (some x) sLen sCap)).run P w = .ok cs.toArray w := hfc
    simp [Builtin.copy_, run_underlying hu, Builtin.lenOf, sizeOf, typeInfo, hi, hfc', hst]
end
section
variable {P : Program} {o : Oper} {F0 : Nat → Option AV} {K0 : Nat → Option Blk} {top : Nat}
/-- What a copy asks. -/
structure cpyN (q n L m : Nat) (src : List (List Ce)) (A : Prop) : Prop where
  len : src.length = m
  one : ∀ r ∈ src, ∀ c ∈ r, c.single = true
  fit : q + n ≤ L
  k : A
theorem flat_take {sz : Nat} {rows : List (List Ce)} (h : ∀ r ∈ rows, r.length = sz) (m : Nat) (hm : m ≤ rows.length) {us : List Value} {rel : Ce → Value → Prop} (hv : All2 rel rows.flatten us) (hl : us.length = rows.length * sz) : All2 rel (rows.take m).flatten (us.take (m * sz)) ∧ (us.take (m * sz)).length = m * sz := by
  have hle : m * sz ≤ us.length := by rw [hl]; exact Nat.mul_le_mul_right _ hm
  have hlen : (us.take (m * sz)).length = m * sz := by simp; omega
  refine ⟨all2_flat (fun r hr => h r (List.mem_of_mem_take hr)) (by rw [hlen, List.length_take]; congr 1; omega) fun q r k c hq hk => ?_, hlen⟩
  rw [List.getElem?_take] at hq
  split at hq
  · rename_i hlt
    obtain ⟨u, hu, hr⟩ := flat_at h hv hq hk
    have hks : k < sz := by rw [← h r (List.mem_of_getElem? hq)]; exact (List.getElem?_eq_some_iff.1 hk).1
    have h3 := Nat.mul_le_mul_right sz (show q + 1 ≤ m from hlt)
    rw [Nat.add_mul] at h3
    exact ⟨u, by rw [List.getElem?_take, if_pos (by omega)]; exact hu, hr⟩
  · cases hq
theorem e_copy (x y : Operand) (t t' : TypeId) (ho : o.op = .call ⟨.builtin .copy, #[x, y], #[t, t']⟩) (ti : TI) (ht : tiOf P t = some ti) (e s bt : Nat) (hel : ti.elem = some (e, s, bt)) (i q m0 : Nat) (cp : Option Nat) (hx : evf F0 x = some (.c (.osl i q m0 cp))) (b : Blk) (hb : K0 i = some b) (hs : Nat.beq b.sz s = true)
    (cy : Ce) (hy : evf F0 y = some (.c cy)) (src : List (List Ce)) (m : Nat) (rd : List Nat) (hsrc : srcOf K0 s cy = some (src, m, rd)) (hn : cpyN q m0 b.rows.length m src True) :
    OpEff P o F0 K0 top ⟨.val (.int .i64 (Nat.min m m0 : Nat)), i :: rd, [(i, some ⟨lay b.rows q (src.take (Nat.min m m0)), b.sz, b.ty, b.bx⟩)], top⟩ := by
  obtain ⟨hu, inf, z, hinf, hz, hs1, hs2, hs3⟩ := tiOf_elem ht hel
  intro n W F K I R a w hst hxx hk hf hd next Q hnext
  have hm : ∀ z ∈ [x, y], evf F z = evf F0 z := fun z hz => hxx z (by simpa [ho, Op.operands, Call.operands] using hz)
  have hbK : K i = some b := (hk i (by simp)).trans hb
  have hbs := Nat.eq_of_beq_eq_true hs
  obtain ⟨p, c', hp, hux, hc1, hc2, _⟩ := hst.ev ((hm x (by simp)).trans hx)
  have hvy := hst.ev ((hm y (by simp)).trans hy)
  have hlen := hn.len
  obtain ⟨ad, cj, news, huy, hnl, hrows, hrel, hcells, hnone⟩ := src_spec hst.wd (srcOf_agree (fun j hj => hk j (List.mem_cons_of_mem _ hj)) hsrc) hlen hvy
  have hmin : Nat.min m m0 ≤ src.length := by rw [hlen]; exact Nat.min_le_left _ _
  obtain ⟨hr1, hr2⟩ := flat_take hrows (Nat.min m m0) hmin hrel (by rw [hnl, hlen])
  have htl : (src.take (Nat.min m m0)).length = Nat.min m m0 := by rw [List.length_take]; omega
  have hmin2 : Nat.min m m0 ≤ m0 := Nat.min_le_right _ _
  have hq : q + (src.take (Nat.min m m0)).length ≤ b.rows.length := by rw [htl]; have := hn.fit; omega
  have hw' := hst.wd.lay hbK hp hq (fun r hr => by rw [hbs]; exact hrows r (List.mem_of_mem_take hr)) (by rw [hr2, htl, hbs]) hr1
  obtain ⟨p', hp', hbk⟩ := hst.wd.blk i b hbK
  rw [hp] at hp'; cases hp'
  obtain ⟨cs, hmem, hsz, hcs⟩ := hbk.mem
  have hps : p.sz = s := hbk.sz.trans hbs
  have hfit : q * p.sz + (news.take (Nat.min m m0 * s)).length ≤ cs.size := by
    rw [hsz, hr2, hps, ← Nat.add_mul]
    exact Nat.mul_le_mul_right _ (by have := hbk.fit; rw [htl] at hq; omega)
  have hone : ∀ v ∈ news.take (Nat.min m m0 * s), v.oneCell' = true := fun v hv => by
    obtain ⟨c, hc, hcr⟩ := hr1.mem hv
    obtain ⟨r, hr, hcr'⟩ := List.mem_flatten.1 hc
    exact Ce.single_val (hn.one r (List.mem_of_mem_take hr) c hcr') hcr
  have hrun := run_copy_gen (P := P) (w := w) (ty := o.type) (sT := t') hu hinf p.b (q * p.sz) m0 c' ad m cj (news.take (Nat.min m m0 * s)) (by rw [hr2, hs1]) (fun x hx j v hj => by
      rw [List.getElem?_take] at hj
      split at hj
      · exact hcells x hx j v hj
      · cases hj) (fun h => by have := hnone h; subst this; simp [Nat.min]) (fun j hj => by
      rw [cell_of_row w p.b _ _ _ _ hmem]
      have : q * p.sz + j < cs.size := by omega
      simp [this]) (fun j hj => frozen_of_row w p.b _ _ _ hmem) hone
  unfold Oper.wp
  have hex : (execOp a.eval o).run P w = .ok (.value (goInt (Nat.min m m0))) (w.setCells p.b (q * p.sz) (news.take (Nat.min m m0 * s))) := by
    obtain ⟨dst, op, ty, pos, af, gd⟩ := o
    simp only at ho
    subst ho
    simp only [execOp, resolve]
    rw [Sem.run_bind]
    simp only [Sem.run_pure, Result.andThen_ok, invoke, builtin]
    rw [Sem.run_bind]
    simp only [List.map_toArray, List.map_cons, List.map_nil, hux, huy]
    simp only at hrun
    rw [hrun]
    rfl
  rw [hex]
  exact hnext I R _ _ (hst.put (.refl _) (.refl _) hw' hd rfl) (.refl _) (fun _ _ => rfl) (.refl _)
theorem y_cap (t : TypeId) (x : Operand) (ho : o.op = .call ⟨.builtin .cap, #[x], #[t]⟩) (ti : TI) (ht : tiOf P t = some ti) (e s bt : Nat) (hel : ti.elem = some (e, s, bt)) (i q m c : Nat) (hx : evf F0 x = some (.c (.osl i q m (some c)))) : Yv P o F0 K0 [] (.val (.int .i64 c)) := by
  obtain ⟨hu, inf, z, hinf, _, hs1, _⟩ := tiOf_elem ht hel
  intro n W F K I R a w hs hxx hk
  obtain ⟨p, c', hp, hux, _, _, hc⟩ := hs.ev ((hxx x (by simp [ho, Op.operands, Call.operands])).trans hx)
  have := hc c rfl
  subst this
  refine ⟨_, ?_, rfl⟩
  simp only [execOp, ho]
  rw [Sem.run_bind]
  simp [resolve, invoke, builtin, Builtin.cap_, hux, run_underlying hu, goInt]
theorem y_capv (t : TypeId) (x : Operand) (ho : o.op = .call ⟨.builtin .cap, #[x], #[t]⟩) (ti : TI) (ht : tiOf P t = some ti) (e s bt : Nat) (hel : ti.elem = some (e, s, bt)) (ad : Option Addr) (m c : Nat) (hx : evf F0 x = some (.val (.slice ad m c))) : Yv P o F0 K0 [] (.val (.int .i64 c)) := by
  obtain ⟨hu, inf, z, hinf, _, hs1, _⟩ := tiOf_elem ht hel
  intro n W F K I R a w hs hxx hk
  have hux : a.eval x = .slice ad m c := hs.ev ((hxx x (by simp [ho, Op.operands, Call.operands])).trans hx)
  refine ⟨_, ?_, rfl⟩
  simp only [execOp, ho]
  rw [Sem.run_bind]
  simp [resolve, invoke, builtin, Builtin.cap_, hux, run_underlying hu, goInt]
theorem run_append_zroom {t tn ty e : TypeId} {inf : TypeInfo} {z : Value} {kk : IntKind} {w : World} (hu : P.underlying t = some (.slice e)) (hi : P.info? e = some inf) (hz : inf.zero = some z) (hzs : z.cells.size = inf.size) (htn : P.underlying tn = some (.int kk)) (g m0 c m : Nat) (k : IntKind) (cur : Array Value)
    (hg : w.heap[g]? = some (.cells cur e (0, 0))) (hroom : m0 + m ≤ c) (hfit : m0 * inf.size + m * inf.size ≤ cur.size) (hmx : (m : Int) ≤ 9223372036854775807) (hb : m * inf.bytes ≤ 281474976710656) (h1 : ∀ v ∈ z.cells, v.oneCell' = true) :
    (Builtin.append_ #[t, tn] ty #[.slice (some ⟨g, 0, none⟩) m0 c, .int k m]).run P w = .ok (.slice (some ⟨g, 0, none⟩) (m0 + m) c) (w.setRow g (cur.toList.take (m0 * inf.size) ++ (Builtin.zeroCells z.cells m).toList ++ cur.toList.drop (m0 * inf.size + m * inf.size)).toArray) := by
  have hzl : (Builtin.zeroCells z.cells m).toList.length = m * inf.size := by simp [size_zeroCells, hzs]
  have hone : ∀ v ∈ (Builtin.zeroCells z.cells m).toList, v.oneCell' = true := fun v hv => by
    simp only [Builtin.zeroCells, Array.toList_map, List.mem_map] at hv
    obtain ⟨j, hj, rfl⟩ := hv
    simp only [Array.toList_range, List.mem_range] at hj
    have hpos : 0 < z.cells.size := by
      rcases Nat.eq_zero_or_pos z.cells.size with h | h
      · rw [h] at hj; simp at hj
      · exact h
    have hlt := Nat.mod_lt j hpos
    rw [getElem!_pos z.cells _ hlt]
    exact h1 _ (Array.getElem_mem hlt)
  have hst := run_storeCells_at P g (m0 * inf.size) e (Builtin.zeroCells z.cells m).toList 0 cur w hg (by rw [hzl]; omega) hone
  simp only [Nat.add_zero, hzl] at hst
  have wm : IntKind.i64.wrap (m : Int) = m := IntWalk.i64_in _ (by omega)
  have n1 : ¬ ((m : Int) < 0) := by omega
  have n2 : ¬ (281474976710656 < (m : Int) * (inf.bytes : Int)) := by
    have h : ((m * inf.bytes : Nat) : Int) ≤ 281474976710656 := by omega
    rw [Int.natCast_mul] at h
    omega
  by_cases h0 : m * inf.size = 0
  · have hze : (Builtin.zeroCells z.cells m).toList = [] := List.eq_nil_of_length_eq_zero (by rw [hzl, h0])
    rw [hze] at hst ⊢
    simp only [storeCells, List.append_nil, h0, Nat.add_zero, List.take_append_drop] at hst ⊢
    rw [show (cur.toList.toArray) = cur by simp, setRow_self w g cur e (0, 0) hg]
    simp [Builtin.append_, run_underlying hu, run_underlying htn, sizeOf, typeInfo, hi, asInt, asIntOf, wm, n1, n2, hroom, h0, storeCells]
  · simp [Builtin.append_, run_underlying hu, run_underlying htn, sizeOf, typeInfo, hi, asInt, asIntOf, wm, n1, n2, hroom, h0, zeroValue, hz, Addr.add_lit, hst]
theorem run_append_zgrow {t tn ty e : TypeId} {inf : TypeInfo} {z : Value} {kk : IntKind} {w : World} (hu : P.underlying t = some (.slice e)) (hi : P.info? e = some inf) (hz : inf.zero = some z) (hzs : z.cells.size = inf.size) (htn : P.underlying tn = some (.int kk)) (bb : Addr) (m0 c m : Nat) (k : IntKind) (olds : List Value) (hlo : olds.length = m0 * inf.size)
    (holds : ∀ j v, olds[j]? = some v → w.cell? (bb.add j) = some v) (hg : c < m0 + m) (hmx : ((m0 + m : Nat) : Int) ≤ 9223372036854775807) (hb : (m0 + m) * inf.bytes ≤ 140737488355328) :
    (Builtin.append_ #[t, tn] ty #[.slice (some bb) m0 c, .int k m]).run P w = .ok (.slice (some ⟨w.heap.size, 0, none⟩) (m0 + m) (grownCap w (m0 + m) c e))
        (w.drew.alloc (.cells (olds.toArray ++ Builtin.zeroCells z.cells m ++ Builtin.zeroCells z.cells (grownCap w (m0 + m) c e - (m0 + m))) e)) := by
  have hn : ¬ (m0 + m ≤ c) := by omega
  have h63' : ¬ (9223372036854775807 < ((m0 : Int) + (m : Int))) := by omega
  have hf := run_firstCells_some (P := P) w.drew inf.size m0 bb m0 c olds hlo (by simpa using holds)
  have hfit := growslice_fits (by omega : c < m0 + m) hb
  have h48' : ¬ (281474976710656 < Builtin.nextslicecap (m0 + m) c * inf.bytes) := by omega
  have wm : IntKind.i64.wrap (m : Int) = m := IntWalk.i64_in _ (by omega)
  have n1 : ¬ ((m : Int) < 0) := by omega
  have n2 : ¬ (281474976710656 < (m : Int) * (inf.bytes : Int)) := by
    have h : m * inf.bytes ≤ (m0 + m) * inf.bytes := Nat.mul_le_mul_right _ (by omega)
    have h : ((m * inf.bytes : Nat) : Int) ≤ 281474976710656 := by omega
    rw [Int.natCast_mul] at h
    omega
  by_cases h0 : m * inf.size = 0
  · have hze : Builtin.zeroCells z.cells m = #[] := Array.eq_empty_of_size_eq_zero (by rw [size_zeroCells, hzs, h0])
    simp [Builtin.append_, run_underlying hu, run_underlying htn, sizeOf, typeInfo, hi, asInt, asIntOf, wm, n1, n2, hn, h63', h48', zeroValue, hz, Question.forced, hf, newRow, grownCap, hze]
  · simp [Builtin.append_, run_underlying hu, run_underlying htn, sizeOf, typeInfo, hi, asInt, asIntOf, wm, n1, n2, hn, h63', h48', h0, zeroValue, hz, Question.forced, hf, newRow, grownCap]
end
section
variable {P : Program} {o : Oper} {F0 : Nat → Option AV} {K0 : Nat → Option Blk} {top : Nat}
theorem builtin_append' (o : Oper) (x y : Operand) (t t' : TypeId) (ho : o.op = .call ⟨.builtin .append, #[x, y], #[t, t']⟩) (ρ : Operand → Value) (w : World) {v : Value} {w' : World}
    (h : (Builtin.append_ #[t, t'] o.type #[ρ x, ρ y]).run P w = .ok v w') : (execOp ρ o).run P w = .ok (.value v) w' := by
  obtain ⟨dst, op, ty, pos, af, g⟩ := o
  subst ho
  simp only [execOp, resolve]
  rw [Sem.run_bind]
  simp only [Sem.run_pure, Result.andThen_ok, invoke, builtin]
  rw [Sem.run_bind]
  simp only [List.map_toArray, List.map_cons, List.map_nil]
  simp only at h
  rw [h]
  rfl
/-- What an append of noughts asks. -/
structure apzN (j : Int) (m0 L bt : Nat) (one : Bool) (A : Nat → Prop) : Prop where
  h : ∃ m : Nat, j = (m : Int) ∧ m0 ≤ L ∧ m0 + m ≤ maxLen ∧ (m0 + m) * bt ≤ 140737488355328 ∧ one = true ∧ A m
theorem e_appendz (x y : Operand) (t tn : TypeId) (ho : o.op = .call ⟨.builtin .append, #[x, y], #[t, tn]⟩) (ti : TI) (ht : tiOf P t = some ti) (tj : TI) (htn : tiOf P tn = some tj) (kk : IntKind) (hkk : tj.ikind = some kk) (e s bt : Nat) (hel : ti.elem = some (e, s, bt)) (te : TI) (hte : tiOf P e = some te)
    (i m0 : Nat) (cp : Option Nat) (hx : evf F0 x = some (.c (.osl i 0 m0 cp))) (b : Blk) (hb : K0 i = some b) (hs : Nat.beq b.sz s = true) (hty : Nat.beq b.ty e = true) (k : IntKind) (j : Int) (hy : evf F0 y = some (.val (.int k j))) (m : Nat) (hj : j = (m : Int)) (hm0 : m0 ≤ b.rows.length) (hmax : m0 + m ≤ maxLen) (hroom : (m0 + m) * bt ≤ 140737488355328) (hone : (te.zero.all fun v => v.oneCell') = true) :
    OpEff P o F0 K0 top ⟨.c (.osl top 0 (m0 + m) none), [i], [(i, none), (top, some ⟨b.rows.take m0 ++ List.replicate m (te.zero.map .v), s, e, false⟩)], top + 1⟩ := by
  obtain ⟨hu, inf, z, hinf, hz, hs1, hs2, hs3⟩ := tiOf_elem ht hel
  obtain ⟨_, inf', z', _, hinf', hz', _, _, hzc⟩ := tiOf_load hte
  rw [hinf] at hinf'; cases hinf'
  rw [hz] at hz'; cases hz'
  have hti := tiOf_int htn hkk
  subst hs1 hs2 hj
  intro n W F K I R a w hst hxx hk hf hd next Q hnext
  have hm : ∀ z ∈ [x, y], evf F z = evf F0 z := fun z hz => hxx z (by simpa [ho, Op.operands, Call.operands] using hz)
  have hbK : K i = some b := (hk i (by simp)).trans hb
  obtain ⟨p, c', hp, hux, hc1, hc2, _⟩ := hst.ev ((hm x (by simp)).trans hx)
  have huy := ev_plain hst ((hm y (by simp)).trans hy)
  have htop := (hf top (Nat.le_refl _) (by simp)).1
  obtain ⟨p', hp', hbk⟩ := hst.wd.blk i b hbK
  rw [hp] at hp'; cases hp'
  obtain ⟨cs, hmem, hsz, hcs⟩ := hbk.mem
  have hbs := Nat.eq_of_beq_eq_true hs
  have hps : p.sz = inf.size := hbk.sz.trans hbs
  rw [hps] at hsz hcs
  rw [Nat.eq_of_beq_eq_true hty] at hmem
  have hzl : te.zero.length = inf.size := by rw [← hzc]; simpa using hs3
  have hz1 : ∀ v ∈ z.cells, v.oneCell' = true := fun v hv => List.all_eq_true.1 hone v (by rw [← hzc]; simpa using hv)
  have hbrow : ∀ r ∈ b.rows.take m0, r.length = inf.size := fun r hr => by rw [← hbs]; exact hbk.row r (List.mem_of_mem_take hr)
  have hzrow : ∀ r ∈ List.replicate m (te.zero.map Ce.v), r.length = inf.size := fun r hr => by rw [List.eq_of_mem_replicate hr]; simpa using hzl
  have hrow' : ∀ r ∈ b.rows.take m0 ++ List.replicate m (te.zero.map Ce.v), r.length = inf.size := fun r hr => by
    rcases List.mem_append.1 hr with h | h
    · exact hbrow r h
    · exact hzrow r h
  have hfit : m0 * inf.size ≤ cs.size := by rw [hsz]; exact Nat.mul_le_mul_right _ (by have := hbk.fit; omega)
  have hxl : (cs.toList.take (m0 * inf.size)).length = m0 * inf.size := by simp; omega
  have hznl : (Builtin.zeroCells z.cells m).toList.length = m * inf.size := by simp [size_zeroCells, hs3]
  have hxr : All2 (Ce.rel I R) (b.rows.take m0).flatten (cs.toList.take (m0 * inf.size)) := all2_flat hbrow (by rw [hxl, List.length_take]; congr 1; omega) fun q r k c hq hkk => by
    rw [List.getElem?_take] at hq
    split at hq
    · rename_i hlt
      obtain ⟨v, hv, hr⟩ := hcs q r k c hq hkk
      have hks : k < inf.size := by
        have h1 := (List.getElem?_eq_some_iff.1 hkk).1
        rw [hbk.row r (List.mem_of_getElem? hq), hbs] at h1; exact h1
      have h3 := Nat.mul_le_mul_right inf.size (show q + 1 ≤ m0 from hlt)
      rw [Nat.add_mul] at h3
      exact ⟨v, by rw [List.getElem?_take, if_pos (by omega)]; simpa using hv, hr⟩
    · cases hq
  have hzr : All2 (Ce.rel I R) (List.replicate m (te.zero.map Ce.v)).flatten (Builtin.zeroCells z.cells m).toList := all2_flat hzrow (by rw [hznl]; simp) fun q r k cc hq hkk => by
    have hql := (List.getElem?_eq_some_iff.1 hq).1
    simp only [List.length_replicate] at hql
    have hrr := List.eq_of_mem_replicate (List.mem_of_getElem? hq)
    subst hrr
    have hkl := (List.getElem?_eq_some_iff.1 hkk).1
    simp only [List.length_map, hzl] at hkl
    simp only [List.getElem?_map, Option.map_eq_some_iff] at hkk
    obtain ⟨v, hv, rfl⟩ := hkk
    have h3 := Nat.mul_le_mul_right inf.size (show q + 1 ≤ m by omega)
    rw [Nat.add_mul] at h3
    refine ⟨v, ?_, rfl⟩
    rw [← hzc] at hv
    simp only [Builtin.zeroCells, Array.getElem?_toList, Array.getElem?_map, Array.getElem?_range, hs3]
    rw [if_pos (by omega)]
    simp only [Option.map_some]
    rw [show (q * inf.size + k) % inf.size = k by rw [Nat.mul_comm, Nat.mul_add_mod, Nat.mod_eq_of_lt hkl]]
    simp only [Array.getElem?_toList] at hv
    simp [getElem!_def, hv]
  have hall : ∀ g tot, All2 (Ce.rel (ext I top ⟨g, inf.size, tot⟩) R) (b.rows.take m0 ++ List.replicate m (te.zero.map Ce.v)).flatten (cs.toList.take (m0 * inf.size) ++ (Builtin.zeroCells z.cells m).toList) := fun g tot => by
    rw [List.flatten_append]; exact (hxr.append hzr).mono fun _ _ => Ce.mono (.ext htop) (.refl _)
  have hlen' : (b.rows.take m0 ++ List.replicate m (te.zero.map Ce.v)).length = m0 + m := by simp; omega
  have hxsl : (cs.toList.take (m0 * inf.size) ++ (Builtin.zeroCells z.cells m).toList).length = (m0 + m) * inf.size := by rw [List.length_append, hxl, hznl, Nat.add_mul]
  have hmx : m0 + m ≤ 9223372036854775807 := by simp only [maxLen] at hmax; omega
  rw [Nat.zero_mul] at hux
  have key : ∃ g cn tot w', (Builtin.append_ #[t, tn] o.type #[.slice (some ⟨p.b, 0, none⟩) m0 c', .int k m]).run P w = .ok (.slice (some ⟨g, 0, none⟩) (m0 + m) cn) w' ∧ m0 + m ≤ cn ∧ cn ≤ tot ∧
      Wd W (kup K [(i, none), (top, some ⟨b.rows.take m0 ++ List.replicate m (te.zero.map .v), inf.size, e, false⟩)]) (ext I top ⟨g, inf.size, tot⟩) R w' := by
    by_cases hrm : m0 + m ≤ c'
    · have hft : m0 * inf.size + m * inf.size ≤ cs.size := by rw [hsz, ← Nat.add_mul]; exact Nat.mul_le_mul_right _ (by omega)
      have hb2 : m * inf.bytes ≤ 281474976710656 := by have : m * inf.bytes ≤ (m0 + m) * inf.bytes := Nat.mul_le_mul_right _ (by omega); omega
      have hr := run_append_zroom (P := P) (w := w) (ty := o.type) hu hinf hz hs3 hti p.b m0 c' m k cs hmem hrm hft (by omega) hb2 hz1
      refine ⟨p.b, c', p.tot, _, hr, hrm, by omega, ?_⟩
      refine hst.wd.moved hbK hp htop (g := p.b) ?_ (.inl rfl) (b' := ⟨b.rows.take m0 ++ List.replicate m (te.zero.map .v), inf.size, e, false⟩) (tot := p.tot) ?_
      · exact ⟨rfl, rfl, rfl, by simp, fun k _ hk => setRow_other w p.b k _ (fun e => hk (by rw [e]))⟩
      · refine Bk.mk' (ex := cs.toList.drop (m0 * inf.size + m * inf.size)) hrow' (by rw [hlen']; omega) hbk.few ?_ ?_ (hall _ _)
        · rw [setRow_heap w p.b _ _ e _ hmem]
        · rw [hxsl, Nat.add_mul]
          simp only [List.length_drop, Array.length_toList]
          omega
    · have holds : ∀ j v, (cs.toList.take (m0 * inf.size))[j]? = some v → w.cell? ((⟨p.b, 0, none⟩ : Addr).add j) = some v := fun j v hj => by
        rw [Addr.add_mid, cell_of_row w p.b _ _ _ _ hmem]
        rw [List.getElem?_take] at hj
        split at hj
        · simpa using hj
        · cases hj
      have hr := run_append_zgrow (P := P) (w := w) (ty := o.type) hu hinf hz hs3 hti ⟨p.b, 0, none⟩ m0 c' m k _ hxl holds (by omega) (by omega) hroom
      have hge := grownCap_ge w (m0 + m) c' e
      refine ⟨w.heap.size, _, grownCap w (m0 + m) c' e, _, hr, hge, Nat.le_refl _, ?_⟩
      refine hst.wd.moved hbK hp htop (g := w.heap.size) ?_ (.inr (Nat.le_refl _)) (b' := ⟨b.rows.take m0 ++ List.replicate m (te.zero.map .v), inf.size, e, false⟩) (tot := grownCap w (m0 + m) c' e) ?_
      · exact ⟨rfl, rfl, rfl, by simp, fun k hk _ => heap_alloc_old w.drew _ hk⟩
      · refine Bk.mk' (ex := (Builtin.zeroCells z.cells (grownCap w (m0 + m) c' e - (m0 + m))).toList) hrow' (by rw [hlen']; exact hge) (grownCap_le_maxLen w (m0 + m) c' e hmax) ?_ ?_ (hall _ _)
        · rw [show w.heap.size = w.drew.heap.size from rfl, heap_alloc_new w.drew _]
          congr 2
          apply Array.ext'
          simp
        · simp only [hxsl, Array.length_toList, size_zeroCells, hs3]
          rw [← Nat.add_mul]
          congr 1
          omega
  obtain ⟨g, cn, tot, w', hrun, h1, h2, h3⟩ := key
  unfold Oper.wp
  rw [builtin_append' o x y t tn ho a.eval w (by rw [hux, huy]; exact hrun)]
  exact hnext _ _ _ _ (hst.put (.ext htop) (.refl _) h3 hd ⟨_, cn, by simp [Wx.ext]; rfl, by simp, h1, by simpa using h2, fun _ h => (by cases h)⟩) (.ext htop) dom_ext (.refl _)
theorem run_append_zgrow0 {t tn ty e : TypeId} {inf : TypeInfo} {z : Value} {kk : IntKind} {w : World} (hu : P.underlying t = some (.slice e)) (hi : P.info? e = some inf) (hz : inf.zero = some z) (hzs : z.cells.size = inf.size) (htn : P.underlying tn = some (.int kk)) (m : Nat) (k : IntKind)
    (h0m : 0 < m) (hmx : (m : Int) ≤ 9223372036854775807) (hb : m * inf.bytes ≤ 140737488355328) :
    (Builtin.append_ #[t, tn] ty #[.slice none 0 0, .int k m]).run P w = .ok (.slice (some ⟨w.heap.size, 0, none⟩) m (grownCap w m 0 e))
        (w.drew.alloc (.cells (Builtin.zeroCells z.cells m ++ Builtin.zeroCells z.cells (grownCap w m 0 e - m)) e)) := by
  have hn : ¬ (m ≤ 0) := by omega
  have hm0 : ¬ m = 0 := by omega
  have h63' : ¬ (9223372036854775807 < (m : Int)) := by omega
  have hfit := growslice_fits (need := m) (old := 0) (by omega) hb
  have h48' : ¬ (281474976710656 < Builtin.nextslicecap m 0 * inf.bytes) := by omega
  have wm : IntKind.i64.wrap (m : Int) = m := IntWalk.i64_in _ (by omega)
  have n1 : ¬ ((m : Int) < 0) := by omega
  have n2 : ¬ (281474976710656 < (m : Int) * (inf.bytes : Int)) := by
    have h : ((m * inf.bytes : Nat) : Int) ≤ 281474976710656 := by omega
    rw [Int.natCast_mul] at h
    omega
  by_cases h0 : m * inf.size = 0
  · have hze : Builtin.zeroCells z.cells m = #[] := Array.eq_empty_of_size_eq_zero (by rw [size_zeroCells, hzs, h0])
    simp [Builtin.append_, run_underlying hu, run_underlying htn, sizeOf, typeInfo, hi, asInt, asIntOf, wm, n1, n2, hm0, h63', h48', zeroValue, hz, Question.forced, newRow, grownCap, hze, Builtin.firstCells]
  · simp [Builtin.append_, run_underlying hu, run_underlying htn, sizeOf, typeInfo, hi, asInt, asIntOf, wm, n1, n2, hm0, h63', h48', h0, zeroValue, hz, Question.forced, newRow, grownCap, Builtin.firstCells]
theorem e_appendz0 (x y : Operand) (t tn : TypeId) (ho : o.op = .call ⟨.builtin .append, #[x, y], #[t, tn]⟩) (ti : TI) (ht : tiOf P t = some ti) (tj : TI) (htn : tiOf P tn = some tj) (kk : IntKind) (hkk : tj.ikind = some kk) (e s bt : Nat) (hel : ti.elem = some (e, s, bt)) (te : TI) (hte : tiOf P e = some te)
    (hx : evf F0 x = some (.val (.slice none 0 0))) (k : IntKind) (j : Int) (hy : evf F0 y = some (.val (.int k j))) (m : Nat) (hj : j = (m : Int)) (h0m : 0 < m) (hmax : m ≤ maxLen) (hroom : m * bt ≤ 140737488355328) :
    OpEff P o F0 K0 top ⟨.c (.osl top 0 m none), [], [(top, some ⟨List.replicate m (te.zero.map .v), s, e, false⟩)], top + 1⟩ := by
  obtain ⟨hu, inf, z, hinf, hz, hs1, hs2, hs3⟩ := tiOf_elem ht hel
  obtain ⟨_, inf', z', _, hinf', hz', _, _, hzc⟩ := tiOf_load hte
  rw [hinf] at hinf'; cases hinf'
  rw [hz] at hz'; cases hz'
  have hti := tiOf_int htn hkk
  subst hs1 hs2 hj
  intro n W F K I R a w hst hxx hk hf hd next Q hnext
  have hm : ∀ z ∈ [x, y], evf F z = evf F0 z := fun z hz => hxx z (by simpa [ho, Op.operands, Call.operands] using hz)
  have hux := ev_plain hst ((hm x (by simp)).trans hx)
  have huy := ev_plain hst ((hm y (by simp)).trans hy)
  have htop := hf top (Nat.le_refl _) (by simp)
  have hzl : te.zero.length = inf.size := by rw [← hzc]; simpa using hs3
  have hzrow : ∀ r ∈ List.replicate m (te.zero.map Ce.v), r.length = inf.size := fun r hr => by rw [List.eq_of_mem_replicate hr]; simpa using hzl
  have hr := run_append_zgrow0 (P := P) (w := w) (ty := o.type) hu hinf hz hs3 hti m k h0m (by simp only [maxLen] at hmax; omega) hroom
  have hge := grownCap_ge w m 0 e
  have hw := hst.wd.new htop.1 htop.2 ⟨List.replicate m (te.zero.map .v), inf.size, e, false⟩ hzrow (grownCap w m 0 e) (by simpa using hge) (grownCap_le_maxLen w m 0 e hmax) (w' := w.drew.alloc (.cells (Builtin.zeroCells z.cells m ++ Builtin.zeroCells z.cells (grownCap w m 0 e - m)) e)) (g := w.heap.size) (((Below.refl _ _).drew).alloc (Nat.le_refl _) _) (Nat.le_refl _) _ (by
    rw [show w.heap.size = w.drew.heap.size from rfl, heap_alloc_new w.drew _]) (by
    simp only [Array.size_append, size_zeroCells, hs3]
    rw [← Nat.add_mul]
    congr 1
    omega) (fun q r kx cc hq hkk => by
    have hql := (List.getElem?_eq_some_iff.1 hq).1
    simp only [List.length_replicate] at hql
    have hrr := List.eq_of_mem_replicate (List.mem_of_getElem? hq)
    subst hrr
    have hkl := (List.getElem?_eq_some_iff.1 hkk).1
    simp only [List.length_map, hzl] at hkl
    simp only [List.getElem?_map, Option.map_eq_some_iff] at hkk
    obtain ⟨v, hv, rfl⟩ := hkk
    have h3 := Nat.mul_le_mul_right inf.size (show q + 1 ≤ m by omega)
    rw [Nat.add_mul] at h3
    refine ⟨v, ?_, rfl⟩
    rw [← hzc] at hv
    rw [Array.getElem?_append_left (by simp only [size_zeroCells, hs3]; omega)]
    simp only [Builtin.zeroCells, Array.getElem?_map, Array.getElem?_range, hs3]
    rw [if_pos (by omega)]
    simp only [Option.map_some]
    rw [show (q * inf.size + kx) % inf.size = kx by rw [Nat.mul_comm, Nat.mul_add_mod, Nat.mod_eq_of_lt hkl]]
    simp only [Array.getElem?_toList] at hv
    simp [getElem!_def, hv])
  unfold Oper.wp
  rw [builtin_append' o x y t tn ho a.eval w (by rw [hux, huy]; exact hr)]
  exact hnext _ _ _ _ (hst.put (.ext htop.1) (.refl _) hw hd ⟨_, grownCap w m 0 e, by simp [Wx.ext]; rfl, by simp, hge, by simp, fun _ h => (by cases h)⟩) (.ext htop.1) dom_ext (.refl _)
/-- What an append of noughts to nothing asks. -/
structure apz0N (j : Int) (bt : Nat) (A : Nat → Prop) : Prop where
  h : ∃ m : Nat, j = (m : Int) ∧ 0 < m ∧ m ≤ maxLen ∧ m * bt ≤ 140737488355328 ∧ A m
theorem apz0N_mk {j : Int} {bt : Nat} {A : Nat → Prop} (m : Nat) (h1 : j = (m : Int)) (h2 : 0 < m) (h3 : m ≤ maxLen) (h4 : m * bt ≤ 140737488355328) (k : A m) : apz0N j bt A := ⟨m, h1, h2, h3, h4, k⟩
end
end Go.Proofs.Ytllnmdmmmkoiaaa.Wx
