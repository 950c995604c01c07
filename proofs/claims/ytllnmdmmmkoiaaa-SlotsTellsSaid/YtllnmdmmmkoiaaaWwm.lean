/-
  The second layer: own maps whose keys are integers.
-/
import Derived.Test.YtllnmdmmmkoiaaaWw
import Derived.MapKept
import Derived.Carry
import Derived.Maps.Keyed
namespace Go.Proofs.Ytllnmdmmmkoiaaa.Wx.Y
open Go Go.RowKit Go.MapKept
set_option linter.unusedVariables false

section
variable {W : Wo} {K : Nat → Option Ob} {I : IM} {R : RM} {w : World}
theorem blk_nb {o : Option Ob} (h : ∀ x, o = some x → x.nb = true) : ∀ b, o ≠ some (.b b) := fun b hb => by
  have := h _ hb; cases this
/-- An object that is no block, written. -/
theorem Wz.putO (h : Wz W K I R w) {j : Nat} {o : Ob} (hk : K j = some o) (hn : o.nb = true) {p : Loc} (hp : I j = some p) {x0 x1 : Obj} (hr : w.heap[p.b]? = some x0) (hc : x0.isCells = false) {o' : Ob} (hn' : o'.nb = true) (ho' : ObOk I R o' p (w.putObj p.b x1)) :
    Wz W (upd K j (some o')) I R (w.putObj p.b x1) := by
  have hz : ¬ W.z p.b := by
    obtain ⟨p', hp', _, hz⟩ := h.ob j _ hk hn
    rw [hp] at hp'; cases hp'; exact hz
  refine ⟨by
    rw [blkOf_upd (blk_nb fun x hx => by rw [hk] at hx; cases hx; exact hn) (blk_nb fun x hx => by cases hx; exact hn')]
    refine wd_carry h.wd (fun k o ho hcc => ?_) (fun k hk => ?_) rfl rfl rfl (by simp)
    · refine (World.putObj_heap_other ?_).trans ho
      rintro rfl; rw [hr] at ho; cases ho; rw [hc] at hcc; cases hcc
    · refine World.putObj_heap_other ?_
      rintro rfl; exact hz hk, fun i o1 hi hn1 => ?_, fun i i' oi oj q q' hi hj hni hnj hq hq' he => ?_⟩
  · by_cases hij : i = j
    · subst hij
      rw [upd_same] at hi
      cases hi; exact ⟨p, hp, ho', hz⟩
    · rw [upd_other hij] at hi
      obtain ⟨q, hq, ho, hqz⟩ := h.ob i o1 hi hn1
      refine ⟨q, hq, ho.mono (.refl _) (.refl _) (World.putObj_heap_other ?_), hqz⟩
      intro he
      exact hij (h.inj i j o1 _ q p hi hk hn1 hn hq hp he)
  · have key : ∀ {t : Nat} {o1 : Ob}, upd K j (some o') t = some o1 → o1.nb = true → ∃ o2, K t = some o2 ∧ o2.nb = true := fun {t o1} ht hn1 => by
      by_cases hij : t = j
      · subst hij; exact ⟨_, hk, hn⟩
      · rw [upd_other hij] at ht; exact ⟨o1, ht, hn1⟩
    obtain ⟨o1, g1, g2⟩ := key hi hni
    obtain ⟨o2, g3, g4⟩ := key hj hnj
    exact h.inj i i' o1 o2 q q' g1 g3 g2 g4 hq hq' he
/-- An object that is no block, laid. -/
theorem Wz.laidO (h : Wz W K I R w) {j : Nat} (hI : I j = none) (hK : K j = none) {o' : Ob} {x : Obj} (hn' : o'.nb = true) (ho' : ObOk (Wx.ext I j ⟨w.heap.size, 0, 0⟩) R o' ⟨w.heap.size, 0, 0⟩ (w.alloc x)) :
    Wz W (upd K j (some o')) (Wx.ext I j ⟨w.heap.size, 0, 0⟩) R (w.alloc x) := by
  have hIe : IExt I (Wx.ext I j ⟨w.heap.size, 0, 0⟩) := .ext hI
  have hlt : ∀ {i : Nat} {o : Ob} {p : Loc}, K i = some o → (Wx.ext I j ⟨w.heap.size, 0, 0⟩) i = some p → I i = some p := fun {i o p} hk hp => by
    unfold Wx.ext at hp
    split at hp
    · rename_i he; subst he; rw [hK] at hk; cases hk
    · exact hp
  have hwd : Wd W (blkOf K) (Wx.ext I j ⟨w.heap.size, 0, 0⟩) R w := by
    have hb : ∀ {i : Nat} {b : Blk}, blkOf K i = some b → ∀ {p : Loc}, (Wx.ext I j ⟨w.heap.size, 0, 0⟩) i = some p → I i = some p := fun hb _ hp => hlt (blkOf_some hb) hp
    exact { h.wd with
      blk := fun i b hi => by obtain ⟨p, hp, hk⟩ := h.wd.blk i b hi; exact ⟨p, hIe _ _ hp, hk.mono hIe (.refl _) rfl⟩
      inj := fun i i' bi bj p q hi hj hp hq he => h.wd.inj i i' bi bj p q hi hj (hb hi hp) (hb hj hq) he
      base := fun i b p hi hp => h.wd.base i b p hi (hb hi hp)
      apart := fun i b p f o hi hp => h.wd.apart i b p f o hi (hb hi hp) }
  refine ⟨by
    rw [blkOf_upd (blk_nb fun x hx => by rw [hK] at hx; cases hx) (blk_nb fun x hx => by cases hx; exact hn')]
    exact hwd.grow ((Below.refl _ w).alloc (Nat.le_refl _) _), fun i o hi hn => ?_, fun i i' oi oj q q' hi hj hni hnj hq hq' he => ?_⟩
  · by_cases hij : i = j
    · subst hij
      rw [upd_same] at hi; cases hi
      refine ⟨⟨w.heap.size, 0, 0⟩, by simp [Wx.ext], ho', fun hz => ?_⟩
      have := h.wd.below.lt hz
      simp at this
    · rw [upd_other hij] at hi
      obtain ⟨q, hq, hoo, hqz⟩ := h.ob i o hi hn
      exact ⟨q, hIe _ _ hq, hoo.mono hIe (.refl _) (alloc_old w _ (h.lt hi hq)), hqz⟩
  · have key : ∀ {t : Nat} {o : Ob} {p : Loc}, upd K j (some o') t = some o → (Wx.ext I j ⟨w.heap.size, 0, 0⟩) t = some p → (t = j ∧ p.b = w.heap.size) ∨ (K t = some o ∧ I t = some p ∧ p.b < w.heap.size) := fun {t o p} ht hp => by
      by_cases hij : t = j
      · subst hij
        simp only [Wx.ext, if_true, Option.some.injEq] at hp
        subst hp
        exact .inl ⟨rfl, rfl⟩
      · rw [upd_other hij] at ht
        exact .inr ⟨ht, hlt ht hp, h.lt ht (hlt ht hp)⟩
    rcases key hi hq with ⟨g1, g2⟩ | ⟨g1, g2, g3⟩ <;> rcases key hj hq' with ⟨k1, k2⟩ | ⟨k1, k2, k3⟩
    · exact g1.trans k1.symm
    · omega
    · omega
    · exact h.inj i i' oi oj q q' g1 k1 hni hnj g2 k2 he
end
/-! ### Entries -/
def Ek (I : IM) (R : RM) (e : Value × Nat × A0) (m : MapEntry) : Prop := (m.key = e.1 ∧ m.born = e.2.1) ∧ e.2.2.rel I R m.val
/-- Where a key stands. -/
def posE (q : IntKind) (k : Value) : List (Value × Nat × A0) → Nat → Option (Option (Nat × Value × Nat × A0))
  | [], _ => some none
  | e :: r, i => match Instr.sameNow (.int q) k e.1 with
    | some true => some (some (i, e))
    | some false => posE q k r (i + 1)
    | none => none
theorem posE_now {I : IM} {R : RM} {q : IntKind} {k : Value} : ∀ {es : List (Value × Nat × A0)} {l : List MapEntry} {i : Nat}, All2 (Ek I R) es l →
    (posE q k es i = some none → Instr.findNow (.int q) k l i = some none) ∧ ∀ j e, posE q k es i = some (some (j, e)) → ∃ m, Instr.findNow (.int q) k l i = some (some (j, m.val)) ∧ Ek I R e m ∧ i ≤ j ∧ l[j - i]? = some m ∧ es[j - i]? = some e
  | [], [], i, _ => ⟨fun _ => rfl, fun j e h => by cases h⟩
  | e :: es, m :: l, i, h => by
    have hk : m.key = e.1 := h.1.1.1
    simp only [posE, Instr.findNow, hk]
    obtain ⟨h1, h2⟩ := posE_now (q := q) (k := k) (i := i + 1) h.2
    cases Instr.sameNow (.int q) k e.1 with
    | none => exact ⟨fun h => (by cases h), fun j e h => (by cases h)⟩
    | some b => cases b with
      | true => refine ⟨fun h => (by cases h), fun j e' he => ?_⟩
                simp only [Option.some.injEq, Prod.mk.injEq] at he
                obtain ⟨rfl, rfl⟩ := he
                exact ⟨m, rfl, h.1, Nat.le_refl _, by simp, by simp⟩
      | false => refine ⟨h1, fun j e' he => ?_⟩
                 obtain ⟨m', g1, g2, g3, g4, g5⟩ := h2 j e' he
                 refine ⟨m', g1, g2, by omega, ?_, ?_⟩
                 · rw [show j - i = (j - (i + 1)) + 1 by omega]; simpa using g4
                 · rw [show j - i = (j - (i + 1)) + 1 by omega]; simpa using g5
  | [], _ :: _, _, h => h.elim
  | _ :: _, [], _, h => h.elim
theorem All2.push {α β : Type} {r : α → β → Prop} : ∀ {l : List α} {m : List β} {a : α} {b : β}, All2 r l m → r a b → All2 r (l ++ [a]) (m ++ [b])
  | [], [], _, _, _, h => ⟨h, trivial⟩
  | _ :: _, _ :: _, _, _, h, h' => ⟨h.1, All2.push h.2 h'⟩
  | [], _ :: _, _, _, h, _ => h.elim
  | _ :: _, [], _, _, h, _ => h.elim
theorem All2.setAt {α β : Type} {r : α → β → Prop} : ∀ {l : List α} {m : List β} {a : α} {b : β} (i : Nat), All2 r l m → r a b → All2 r (l.set i a) (m.set i b)
  | [], [], _, _, _, _, _ => trivial
  | _ :: _, _ :: _, _, _, 0, h, h' => ⟨h', h.2⟩
  | _ :: _, _ :: _, _, _, i + 1, h, h' => ⟨h.1, All2.setAt i h.2 h'⟩
  | [], _ :: _, _, _, _, h, _ => h.elim
  | _ :: _, [], _, _, _, h, _ => h.elim
theorem All2.eraseAt {α β : Type} {r : α → β → Prop} : ∀ {l : List α} {m : List β} (i : Nat), All2 r l m → All2 r (l.eraseIdx i) (m.eraseIdx i)
  | [], [], _, _ => trivial
  | _ :: _, _ :: _, 0, h => h.2
  | _ :: _, _ :: _, i + 1, h => ⟨h.1, All2.eraseAt i h.2⟩
  | [], _ :: _, _, h => h.elim
  | _ :: _, [], _, h => h.elim
theorem All2.len {α β : Type} {r : α → β → Prop} : ∀ {l : List α} {m : List β}, All2 r l m → l.length = m.length
  | [], [], _ => rfl
  | _ :: _, _ :: _, h => by simp [All2.len h.2]
  | [], _ :: _, h => h.elim
  | _ :: _, [], h => h.elim
theorem modify_set {es : Array MapEntry} {j : Nat} {m : MapEntry} (h : es.toList[j]? = some m) (f : MapEntry → MapEntry) : (es.modify j f).toList = es.toList.set j (f m) := by
  obtain ⟨l⟩ := es
  simp only at h
  simp only [Array.toList_modify]
  apply List.ext_getElem?
  intro i
  rw [List.getElem?_modify, List.getElem?_set]
  by_cases hi : j = i
  · subst hi
    have hl := (List.getElem?_eq_some_iff.1 h).1
    have h' : l[j] = m := (List.getElem?_eq_some_iff.1 h).2
    simp [hl, h']
  · simp [hi]
/-- The element's zero. -/
def zeroA : Value → A0
  | .agg cs => .agg (cs.toList.map .v)
  | v => .one (.v v)
theorem all2_v {I : IM} {R : RM} : ∀ {l : List Value}, All2 (Ce.rel I R) (l.map .v) l
  | [] => trivial
  | _ :: _ => ⟨rfl, all2_v⟩
theorem zeroA_rel {z : Value} {I : IM} {R : RM} : (zeroA z).rel I R z := by
  cases z with
  | agg cs => exact ⟨cs.toList, by simp, all2_v⟩
  | _ => exact rfl
def isK (q : IntKind) : Ce → Option Value
  | .v (.int k a) => match decide (k = q) with
    | true => some (.int k a)
    | false => none
  | _ => none
theorem isK_spec {q : IntKind} {c : Ce} {k : Value} (h : isK q c = some k) : c = .v k ∧ IsKey (.int q) k := by
  unfold isK at h
  split at h
  · split at h
    · rename_i hd
      simp only [Option.some.injEq] at h
      subst h
      have := of_decide_eq_true hd
      subst this
      exact ⟨rfl, rfl⟩
    · cases h
  · cases h
section
variable {P : Program} {n : Nat} {F : Nat → Option AV} {W : Wo} {K : Nat → Option Ob} {I : IM} {R : RM} {a : Act} {w : World}
theorem St.evM (hs : St n W F K I R a w) {o : Operand} {x : AV} (h : evf F o = some x) : x.rel I R (a.eval o) := by
  have h0 : Wx.St n (stpB W (blkOf K) I R w) F (blkOf K) I R ⟨a.tmps, []⟩ w := ⟨hs.size, rfl, fun t y hy => hs.fr t y hy, wd_step hs.wz.wd⟩
  have := h0.ev h
  have he : (Act.eval a : Operand → Value) = Act.eval ⟨a.tmps, []⟩ := by funext x; cases x <;> rfl
  rw [he]; exact this
theorem op_run {o : Oper} {r : Option Nat} (hnd : ∀ c, o.op ≠ .defer c) {v : Value} {w' : World} (hrun : (execOp a.eval o).run P w = .ok (.value v) w') {next : Act → World → Prop} {Q : Exit → Act → World → Prop} (hn : next (a.put o.dst v) w') : o.wpIn (fr r) 0 P a w next Q :=
  op_in hnd (by unfold Oper.wp; rw [hrun]; exact hn)
theorem y_rel_one {I : IM} {R : RM} {c : Ce} {v : Value} (h : (AV.pl (.one c)).rel I R v) : c.rel I R v := h
end
/-! ### The operations -/
section
variable {P : Program} {o : Oper} {F0 : Nat → Option AV} {K0 : Nat → Option Ob} {top : Nat}
theorem upd_kup {K : Nat → Option Ob} {j : Nat} {x : Option Ob} : kup K [(j, x)] = upd K j x := rfl
theorem o_make (t : TypeId) (ho : o.op = .makeMap t none) : OpEff P o F0 K0 top ⟨.c (.mpv top), [], [(top, some (.m ⟨[], 0⟩))], top + 1⟩ := by
  intro r n W F K I R a w hs hx hk hfree hd next Q hn
  obtain ⟨hI, hK⟩ := hfree top (Nat.le_refl _) (by simp)
  have hrun : (execOp a.eval o).run P w = .ok (.value (.map (some w.heap.size))) (w.alloc (.map #[] 0)) := by
    simp [execOp, ho, run_makeMap, Result.andThen]
  refine op_run (fun c hc => by rw [ho] at hc; cases hc) hrun ?_
  have hl := hs.wz.laidO (o' := .m ⟨[], 0⟩) (x := .map #[] 0) hI hK rfl ⟨#[], heap_alloc_new w _, trivial⟩
  refine hn _ R _ _ (St.put hs (.ext hI) (.refl _) hl (hs.mks.mono fun D hD => alloc_old w _ (Array.getElem?_eq_some_iff.1 hD).1) hd ?_) (.ext hI) ?_ (.refl _)
  · exact ⟨⟨w.heap.size, 0, 0⟩, by simp [Wx.ext], rfl⟩
  · intro j hj
    unfold Wx.ext
    rw [if_neg]
    rintro rfl
    exact hj ⟨Nat.le_refl _, by simp⟩
/-- What is known of a map. -/
theorem mp_at {n : Nat} {W : Wo} {F : Nat → Option AV} {K : Nat → Option Ob} {I : IM} {R : RM} {a : Act} {w : World} (hs : St n W F K I R a w) {m : Operand} {i : Nat} (hm : evf F m = some (.c (.mpv i))) {es : MS} (hk : K i = some (.m es)) :
    ∃ p ents, I i = some p ∧ a.eval m = .map (some p.b) ∧ w.heap[p.b]? = some (.map ents es.c) ∧ All2 (Ek I R) es.es ents.toList ∧ ∀ (es' : MS) (ents' : Array MapEntry), All2 (Ek I R) es'.es ents'.toList → Wz W (upd K i (some (.m es'))) I R (w.putObj p.b (.map ents' es'.c)) ∧ Mk W a.defers (w.putObj p.b (.map ents' es'.c)) := by
  obtain ⟨p, hp, hv⟩ : ∃ p, I i = some p ∧ a.eval m = .map (some p.b) := hs.evM hm
  obtain ⟨p', hp', ho, _⟩ := hs.wz.ob i _ hk rfl
  rw [hp] at hp'; cases hp'
  obtain ⟨ents, h1, h2⟩ := ho.mem
  refine ⟨p, ents, hp, hv, h1, h2, fun es' ents' h3 => ⟨hs.wz.putO hk rfl hp h1 rfl rfl ⟨ents', ?_, h3⟩, hs.mks.mono fun D hD => World.putObj_heap_other ?_⟩⟩
  · exact World.putObj_heap_same (Array.getElem?_eq_some_iff.1 h1).1
  · rintro rfl; rw [h1] at hD; cases hD
theorem run_setM {w : World} {r : Nat} {ents : Array MapEntry} {c : Nat} {o' : Obj} (hb : w.heap[r]? = some (.map ents c)) : (setObj r o').run P w = .ok () (w.putObj r o') := run_setObj_map o' hb
theorem same_eq {q : IntKind} {k k' : Value} (h : Instr.sameNow (.int q) k k' = some true) : k = k' := by
  cases k <;> cases k' <;> simp [Instr.sameNow] at h
  obtain ⟨rfl, rfl⟩ := h; rfl
theorem posE_key {q : IntKind} {k : Value} : ∀ {es : List (Value × Nat × A0)} {i j : Nat} {e : Value × Nat × A0}, posE q k es i = some (some (j, e)) → e.1 = k
  | [], _, _, _, h => by cases h
  | x :: es, i, j, e, h => by
    unfold posE at h
    split at h
    · rename_i hs
      simp only [Option.some.injEq, Prod.mk.injEq] at h
      obtain ⟨_, rfl⟩ := h
      exact (same_eq hs).symm
    · exact posE_key h
    · cases h
def updM (q : IntKind) (kv : Value) (a0 : A0) (es : MS) : Option MS :=
  match posE q kv es.es 0 with
  | some none => some ⟨es.es ++ [(kv, es.c, a0)], es.c + 1⟩
  | some (some (j, e)) => some ⟨es.es.set j (kv, e.2.1, a0), es.c⟩
  | none => none
theorem update_run {t kt et : TypeId} {q : IntKind} (ht : P.underlying t = some (.map kt et)) (hq : P.underlying kt = some (.int q)) {kv : Value} (hk : IsKey (.int q) kv) {w : World} {r : Nat} {ents : Array MapEntry} {es es' : MS} (hb : w.heap[r]? = some (.map ents es.c)) {I : IM} {R : RM} (he : All2 (Ek I R) es.es ents.toList) {a0 : A0} {v : Value} (hv : a0.rel I R v) (hu : updM q kv a0 es = some es') :
    ∃ ents', (Instr.mapUpdate t (.map (some r)) kv v).run P w = .ok () (w.putObj r (.map ents' es'.c)) ∧ All2 (Ek I R) es'.es ents'.toList := by
  obtain ⟨h1, h2⟩ := posE_now (q := q) (k := kv) (i := 0) he
  unfold updM at hu
  split at hu
  · rename_i hp
    simp only [Option.some.injEq] at hu
    subst hu
    refine ⟨ents.push ⟨kv, v, es.c⟩, ?_, ?_⟩
    · simp [Instr.mapUpdate, run_underlying ht, MapKept.run_getObj_map hb, run_checkKey hq hk, run_findKey hq (h1 hp), run_setM hb, Result.andThen]
    · simp only [Array.toList_push]; exact All2.push he ⟨⟨rfl, rfl⟩, hv⟩
  · rename_i j e hp
    simp only [Option.some.injEq] at hu
    subst hu
    obtain ⟨m, g1, g2, g3, g4, g5⟩ := h2 j e hp
    have hkey : m.key = kv := g2.1.1.trans (posE_key hp)
    have hj : ents[j]? = some m := by simpa using g4
    refine ⟨ents.modify j fun x => { x with key := kv, val := v }, ?_, ?_⟩
    · simp [Instr.mapUpdate, run_underlying ht, MapKept.run_getObj_map hb, run_checkKey hq hk, run_findKey hq g1, hj, hkey, run_keyThatStays hk, run_setM hb, Result.andThen]
    · rw [modify_set (by simpa using g4)]
      exact All2.setAt j he ⟨⟨rfl, g2.1.2⟩, hv⟩
  · cases hu
def entM (q : IntKind) (kv : Value) (za : A0) (es : MS) : Option (MS × A0 × Nat) :=
  match posE q kv es.es 0 with
  | some none => some (⟨es.es ++ [(kv, es.c, za)], es.c + 1⟩, za, es.c)
  | some (some (j, e)) => some (⟨es.es.set j (kv, e.2.1, e.2.2), es.c⟩, e.2.2, e.2.1)
  | none => none
theorem entry_run {t kt et : TypeId} {q : IntKind} (ht : P.underlying t = some (.map kt et)) (hq : P.underlying kt = some (.int q)) {kv : Value} (hk : IsKey (.int q) kv) {w : World} {r : Nat} {ents : Array MapEntry} {es es' : MS} (hb : w.heap[r]? = some (.map ents es.c)) {I : IM} {R : RM} (he : All2 (Ek I R) es.es ents.toList) {za a1 : A0} {z : Value} (hz : (zeroValue et).run P w = .ok z w) (hv : za.rel I R z) {b : Nat} (hu : entM q kv za es = some (es', a1, b)) :
    ∃ ents' v, (Instr.mapEntry t (.map (some r)) kv).run P w = .ok (.tuple #[v, goInt b]) (w.putObj r (.map ents' es'.c)) ∧ a1.rel I R v ∧ All2 (Ek I R) es'.es ents'.toList := by
  obtain ⟨h1, h2⟩ := posE_now (q := q) (k := kv) (i := 0) he
  unfold entM at hu
  split at hu
  · rename_i hp
    simp only [Option.some.injEq, Prod.mk.injEq] at hu
    obtain ⟨rfl, rfl, rfl⟩ := hu
    refine ⟨ents.push ⟨kv, z, es.c⟩, z, ?_, hv, ?_⟩
    · simp [Instr.mapEntry, run_underlying ht, MapKept.run_getObj_map hb, run_checkKey hq hk, run_findKey hq (h1 hp), hz, run_setM hb, Result.andThen]
    · simp only [Array.toList_push]; exact All2.push he ⟨⟨rfl, rfl⟩, hv⟩
  · rename_i j e hp
    simp only [Option.some.injEq, Prod.mk.injEq] at hu
    obtain ⟨rfl, rfl, rfl⟩ := hu
    obtain ⟨m, g1, g2, g3, g4, g5⟩ := h2 j e hp
    have hkey : m.key = kv := g2.1.1.trans (posE_key hp)
    have hj : ents[j]? = some m := by simpa using g4
    refine ⟨ents.modify j fun x => { x with key := kv }, m.val, ?_, g2.2, ?_⟩
    · simp [Instr.mapEntry, run_underlying ht, MapKept.run_getObj_map hb, run_checkKey hq hk, run_findKey hq g1, hj, hkey, run_keyThatStays hk, run_setM hb, Result.andThen, g2.1.2]
    · rw [modify_set (by simpa using g4)]
      exact All2.setAt j he ⟨⟨rfl, g2.1.2⟩, g2.2⟩
  · cases hu
def stE (s : Int) : List (Value × Nat × A0) → Nat → Option Nat
  | [], _ => none
  | e :: r, i => match decide ((e.2.1 : Int) = s) with
    | true => some i
    | false => stE s r (i + 1)
theorem stE_find {I : IM} {R : RM} {s : Int} : ∀ {es : List (Value × Nat × A0)} {l : List MapEntry} {i j : Nat}, All2 (Ek I R) es l → stE s es i = some j → i ≤ j ∧ l.findIdx? (fun e => (e.born : Int) == s) = some (j - i) ∧ ∃ e m, es[j - i]? = some e ∧ l[j - i]? = some m ∧ Ek I R e m
  | [], [], _, _, _, h => by cases h
  | e :: es, m :: l, i, j, h, hs => by
    have hb : m.born = e.2.1 := h.1.1.2
    unfold stE at hs
    split at hs
    · rename_i hd
      have hd := of_decide_eq_true hd
      simp only [Option.some.injEq] at hs
      subst hs
      exact ⟨Nat.le_refl _, by simp [List.findIdx?_cons, hb, hd], e, m, by simp, by simp, h.1⟩
    · rename_i hd
      have hd := of_decide_eq_false hd
      obtain ⟨h1, h2, e', m', h3, h4, h5⟩ := stE_find h.2 hs
      have hj : j - i = (j - (i + 1)) + 1 := by omega
      refine ⟨by omega, ?_, e', m', by rw [hj]; simpa using h3, by rw [hj]; simpa using h4, h5⟩
      rw [hj, List.findIdx?_cons]
      simp [hb, hd, h2]
  | [], _ :: _, _, _, h, _ => h.elim
  | _ :: _, [], _, _, h, _ => h.elim
def putM (s : Int) (a0 : A0) (es : MS) : Option MS :=
  match stE s es.es 0 with
  | some j => match es.es[j]? with
    | some e => some ⟨es.es.set j (e.1, e.2.1, a0), es.c⟩
    | none => none
  | none => none
theorem entryStore_run {t : TypeId} {w : World} {r : Nat} {ents : Array MapEntry} {es es' : MS} (hb : w.heap[r]? = some (.map ents es.c)) {I : IM} {R : RM} (he : All2 (Ek I R) es.es ents.toList) {k : IntKind} {s : Int} {a0 : A0} {v : Value} (hv : a0.rel I R v) (hu : putM s a0 es = some es') :
    ∃ ents', (Instr.entryStore t (.map (some r)) (.int k s) v).run P w = .ok () (w.putObj r (.map ents' es'.c)) ∧ All2 (Ek I R) es'.es ents'.toList := by
  unfold putM at hu
  split at hu
  · rename_i j hj
    split at hu
    · rename_i e hee
      simp only [Option.some.injEq] at hu
      subst hu
      obtain ⟨_, h2, e', m, h3, h4, h5⟩ := stE_find he hj
      simp only [Nat.sub_zero] at h2 h3 h4
      rw [hee] at h3; cases h3
      have h2' : ents.findIdx? (fun e => (e.born : Int) == s) = some j := by rw [← h2]; obtain ⟨l⟩ := ents; simp
      refine ⟨ents.modify j fun x => { x with val := v }, ?_, ?_⟩
      · simp [Instr.entryStore, MapKept.run_getObj_map hb, asInt, asIntOf, h2', run_setM hb, Result.andThen]
      · rw [modify_set h4]
        exact All2.setAt j he ⟨h5.1, hv⟩
    · cases hu
  · cases hu
def lookAv (cm : Bool) (a : A0) (ok : Bool) : AV := match cm with | true => .tup [a, .one (.v (.bool ok))] | false => .pl a
def lookM (q : IntKind) (kv : Value) (za : A0) (es : List (Value × Nat × A0)) : Option (A0 × Bool) :=
  match posE q kv es 0 with
  | some none => some (za, false)
  | some (some (_, e)) => some (e.2.2, true)
  | none => none
theorem lookup_run {t kt et : TypeId} {q : IntKind} (ht : P.underlying t = some (.map kt et)) (hq : P.underlying kt = some (.int q)) {kv : Value} (hk : IsKey (.int q) kv) {w : World} {r : Nat} {ents : Array MapEntry} {c : Nat} {es : List (Value × Nat × A0)} (hb : w.heap[r]? = some (.map ents c)) {I : IM} {R : RM} (he : All2 (Ek I R) es ents.toList) {za a1 : A0} {z : Value} (hz : (zeroValue et).run P w = .ok z w) (hv : za.rel I R z) {ok : Bool} (hu : lookM q kv za es = some (a1, ok)) (cm : Bool) :
    ∃ v, (Instr.lookup t (.map (some r)) kv cm).run P w = .ok (if cm then .tuple #[v, .bool ok] else v) w ∧ a1.rel I R v := by
  obtain ⟨h1, h2⟩ := posE_now (q := q) (k := kv) (i := 0) he
  unfold lookM at hu
  split at hu
  · rename_i hp
    simp only [Option.some.injEq, Prod.mk.injEq] at hu
    obtain ⟨rfl, rfl⟩ := hu
    exact ⟨z, by simp [Instr.lookup, run_underlying ht, MapKept.run_getObj_map hb, run_checkKey hq hk, run_findKey hq (h1 hp), hz, Result.andThen], hv⟩
  · rename_i j e hp
    simp only [Option.some.injEq, Prod.mk.injEq] at hu
    obtain ⟨rfl, rfl⟩ := hu
    obtain ⟨m, g1, g2, g3, g4, g5⟩ := h2 _ _ hp
    exact ⟨m.val, by simp [Instr.lookup, run_underlying ht, MapKept.run_getObj_map hb, run_checkKey hq hk, run_findKey hq g1, Result.andThen], g2.2⟩
  · cases hu
theorem lookup_nil {t kt et : TypeId} {q : IntKind} (ht : P.underlying t = some (.map kt et)) (hq : P.underlying kt = some (.int q)) {kv : Value} (hk : IsKey (.int q) kv) {w : World} {z : Value} (hz : (zeroValue et).run P w = .ok z w) (cm : Bool) :
    (Instr.lookup t (.map none) kv cm).run P w = .ok (if cm then .tuple #[z, .bool false] else z) w := by
  have h1 : Instr.findNow (.int q) kv [] 0 = some none := rfl
  simp [Instr.lookup, run_underlying ht, run_checkKey hq hk, run_findKey hq h1, hz, Result.andThen]
theorem zero_run {et : TypeId} {inf : TypeInfo} {z : Value} (hinf : P.info? et = some inf) (hz : inf.zero = some z) {w : World} : (zeroValue et).run P w = .ok z w := by simp [zeroValue, typeInfo, hinf, hz]
/-- An operation on a map that writes it. -/
theorem o_write {ti : TI} {i : Nat} {es es' : MS} {av : AV} (hnd : ∀ c, o.op ≠ .defer c) (m : Operand) (hm : evf F0 m = some (.c (.mpv i))) (hmem : m ∈ o.op.operands.toList) (hk : K0 i = some (.m es))
    (hrun : ∀ (n : Nat) (W : Wo) (F : Nat → Option AV) (K : Nat → Option Ob) (I : IM) (R : RM) (a : Act) (w : World), St n W F K I R a w → (∀ x ∈ o.op.operands.toList, evf F x = evf F0 x) → ∀ (p : Loc) (ents : Array MapEntry), a.eval m = .map (some p.b) → w.heap[p.b]? = some (.map ents es.c) → All2 (Ek I R) es.es ents.toList →
      ∃ ents' v nx, (execOp a.eval o).run P w = .ok nx (w.putObj p.b (.map ents' es'.c)) ∧ (nx = .value v ∨ (nx = .skip ∧ v = undef)) ∧ All2 (Ek I R) es'.es ents'.toList ∧ av.rel I R v) :
    OpEff P o F0 K0 top ⟨av, [i], [(i, some (.m es'))], top⟩ := by
  intro r n W F K I R a w hs hx hkk hfree hd next Q hn
  obtain ⟨p, ents, h1, h2, h3, h4, h5⟩ := mp_at hs ((hx m hmem).trans hm) ((hkk i (by simp)).trans hk)
  obtain ⟨ents', v, nx, g1, g2, g3, g4⟩ := hrun n W F K I R a w hs hx p ents h2 h3 h4
  obtain ⟨k1, k2⟩ := h5 es' ents' g3
  have hfin : next (a.put o.dst v) (w.putObj p.b (.map ents' es'.c)) := hn I R _ _ (St.put hs (.refl _) (.refl _) k1 k2 hd g4) (.refl _) (fun _ _ => rfl) (.refl _)
  refine op_in hnd ?_
  unfold Oper.wp; rw [g1]
  rcases g2 with rfl | ⟨rfl, rfl⟩
  · exact hfin
  · exact hfin
/-- An operation that reads a map. -/
theorem o_read {i : Nat} {es : MS} {av : AV} (hnd : ∀ c, o.op ≠ .defer c) (m : Operand) (hm : evf F0 m = some (.c (.mpv i))) (hmem : m ∈ o.op.operands.toList) (hk : K0 i = some (.m es))
    (hrun : ∀ (n : Nat) (W : Wo) (F : Nat → Option AV) (K : Nat → Option Ob) (I : IM) (R : RM) (a : Act) (w : World), St n W F K I R a w → (∀ x ∈ o.op.operands.toList, evf F x = evf F0 x) → ∀ (p : Loc) (ents : Array MapEntry), a.eval m = .map (some p.b) → w.heap[p.b]? = some (.map ents es.c) → All2 (Ek I R) es.es ents.toList →
      ∃ v, (execOp a.eval o).run P w = .ok (.value v) w ∧ av.rel I R v) :
    OpEff P o F0 K0 top ⟨av, [i], [], top⟩ := by
  intro r n W F K I R a w hs hx hkk hfree hd next Q hn
  obtain ⟨p, ents, h1, h2, h3, h4, h5⟩ := mp_at hs ((hx m hmem).trans hm) ((hkk i (by simp)).trans hk)
  obtain ⟨v, g1, g4⟩ := hrun n W F K I R a w hs hx p ents h2 h3 h4
  exact op_run hnd g1 (hn I R _ _ (St.put hs (.refl _) (.refl _) hs.wz hs.mks hd g4) (.refl _) (fun _ _ => rfl) (.refl _))
theorem o_update (t : TypeId) (m k x : Operand) (ho : o.op = .mapUpdate t m k x ∨ o.op = .insert t m k x) {ti : TI} (ht : tiOf P t = some ti) {kt et : TypeId} {q : IntKind} {z : Value} (hmp : ti.mp = some (kt, et, q, z)) {i : Nat} {es es' : MS} {c : Ce} {kv : Value} {a0 : A0} (hm : evf F0 m = some (.c (.mpv i))) (hk : K0 i = some (.m es)) (hkv : evf F0 k = some (.pl (.one c))) (hc : isK q c = some kv) (hx : evf F0 x = some (.pl a0)) (hu : updM q kv a0 es = some es') : OpEff P o F0 K0 top ⟨.val undef, [i], [(i, some (.m es'))], top⟩ := by
  obtain ⟨h1, h2, _⟩ := tiOf_mp ht hmp
  obtain ⟨rfl, hik⟩ := isK_spec hc
  refine o_write (ti := ti) (fun c hc => by rcases ho with ho | ho <;> (rw [ho] at hc; cases hc)) m hm (by rcases ho with ho | ho <;> simp [ho, Op.operands]) hk fun n W F K I R a w hs hxx p ents e1 e2 e3 => ?_
  have ek : a.eval k = kv := hs.evM ((hxx k (by rcases ho with ho | ho <;> simp [ho, Op.operands])).trans hkv)
  have ex : a0.rel I R (a.eval x) := hs.evM ((hxx x (by rcases ho with ho | ho <;> simp [ho, Op.operands])).trans hx)
  obtain ⟨ents', g1, g2⟩ := update_run h1 h2 hik e2 e3 ex hu
  exact ⟨ents', undef, .skip, by rcases ho with ho | ho <;> simp [execOp, ho, e1, ek, g1, Result.andThen], .inr ⟨rfl, rfl⟩, g2, rfl⟩
theorem o_entry (t : TypeId) (m k : Operand) (ho : o.op = .mapEntry t m k) {ti : TI} (ht : tiOf P t = some ti) {kt et : TypeId} {q : IntKind} {z : Value} (hmp : ti.mp = some (kt, et, q, z)) {i : Nat} {es es' : MS} {c : Ce} {kv : Value} {a1 : A0} {b : Nat} (hm : evf F0 m = some (.c (.mpv i))) (hk : K0 i = some (.m es)) (hkv : evf F0 k = some (.pl (.one c))) (hc : isK q c = some kv) (hu : entM q kv (zeroA z) es = some (es', a1, b)) : OpEff P o F0 K0 top ⟨.tup [a1, .one (.v (.int .i64 b))], [i], [(i, some (.m es'))], top⟩ := by
  obtain ⟨h1, h2, inf, h3, h4⟩ := tiOf_mp ht hmp
  obtain ⟨rfl, hik⟩ := isK_spec hc
  refine o_write (ti := ti) (fun c hc => by rw [ho] at hc; cases hc) m hm (by simp [ho, Op.operands]) hk fun n W F K I R a w hs hxx p ents e1 e2 e3 => ?_
  have ek : a.eval k = kv := hs.evM ((hxx k (by simp [ho, Op.operands])).trans hkv)
  obtain ⟨ents', v, g1, g2, g3⟩ := entry_run h1 h2 hik e2 e3 (zero_run h3 h4) zeroA_rel hu
  exact ⟨ents', .tuple #[v, goInt b], .value _, by simp [execOp, ho, e1, ek, g1, Result.andThen], .inl rfl, g3, [v, goInt b], rfl, g2, rfl, trivial⟩
theorem o_entryStore (t : TypeId) (m s x : Operand) (ho : o.op = .entryStore t m s x) {i : Nat} {es es' : MS} {k : IntKind} {b : Int} {a0 : A0} (hm : evf F0 m = some (.c (.mpv i))) (hk : K0 i = some (.m es)) (hkv : evf F0 s = some (.c (.v (.int k b)))) (hx : evf F0 x = some (.pl a0)) (hu : putM b a0 es = some es') : OpEff P o F0 K0 top ⟨.val undef, [i], [(i, some (.m es'))], top⟩ := by
  refine o_write (ti := ⟨false, 0, [], [], none, none, none, none, false, none, 0⟩) (fun c hc => by rw [ho] at hc; cases hc) m hm (by simp [ho, Op.operands]) hk fun n W F K I R a w hs hxx p ents e1 e2 e3 => ?_
  have ek : a.eval s = .int k b := hs.evM ((hxx s (by simp [ho, Op.operands])).trans hkv)
  have ex : a0.rel I R (a.eval x) := hs.evM ((hxx x (by simp [ho, Op.operands])).trans hx)
  obtain ⟨ents', g1, g2⟩ := entryStore_run (P := P) (t := t) (k := k) e2 e3 ex hu
  exact ⟨ents', undef, .skip, by simp [execOp, ho, e1, ek, g1, Result.andThen], .inr ⟨rfl, rfl⟩, g2, rfl⟩
theorem o_lookup (t : TypeId) (m k : Operand) (cm : Bool) (ho : o.op = .lookup t m k cm) {ti : TI} (ht : tiOf P t = some ti) {kt et : TypeId} {q : IntKind} {z : Value} (hmp : ti.mp = some (kt, et, q, z)) {i : Nat} {es : MS} {c : Ce} {kv : Value} {a1 : A0} {ok : Bool} (hm : evf F0 m = some (.c (.mpv i))) (hk : K0 i = some (.m es)) (hkv : evf F0 k = some (.pl (.one c))) (hc : isK q c = some kv) (hu : lookM q kv (zeroA z) es.es = some (a1, ok)) : OpEff P o F0 K0 top ⟨lookAv cm a1 ok, [i], [], top⟩ := by
  obtain ⟨h1, h2, inf, h3, h4⟩ := tiOf_mp ht hmp
  obtain ⟨rfl, hik⟩ := isK_spec hc
  refine o_read (fun c hc => by rw [ho] at hc; cases hc) m hm (by simp [ho, Op.operands]) hk fun n W F K I R a w hs hxx p ents e1 e2 e3 => ?_
  have ek : a.eval k = kv := hs.evM ((hxx k (by simp [ho, Op.operands])).trans hkv)
  obtain ⟨v, g1, g2⟩ := lookup_run h1 h2 hik e2 e3 (zero_run h3 h4) zeroA_rel hu cm
  refine ⟨_, by simp [execOp, ho, e1, ek, g1, Result.andThen]; rfl, ?_⟩
  cases cm with
  | true => exact ⟨[v, .bool ok], rfl, g2, rfl, trivial⟩
  | false => exact g2
theorem o_lookupNil (t : TypeId) (m k : Operand) (cm : Bool) (ho : o.op = .lookup t m k cm) {ti : TI} (ht : tiOf P t = some ti) {kt et : TypeId} {q : IntKind} {z : Value} (hmp : ti.mp = some (kt, et, q, z)) {c : Ce} {kv : Value} (hm : evf F0 m = some (.c (.v (.map none)))) (hkv : evf F0 k = some (.pl (.one c))) (hc : isK q c = some kv) : OpEff P o F0 K0 top ⟨lookAv cm (zeroA z) false, [], [], top⟩ := by
  obtain ⟨h1, h2, inf, h3, h4⟩ := tiOf_mp ht hmp
  obtain ⟨rfl, hik⟩ := isK_spec hc
  intro r n W F K I R a w hs hxx hkk hfree hd next Q hn
  have em : a.eval m = .map none := hs.evM ((hxx m (by simp [ho, Op.operands])).trans hm)
  have ek : a.eval k = kv := hs.evM ((hxx k (by simp [ho, Op.operands])).trans hkv)
  have g1 := lookup_nil h1 h2 hik (zero_run (w := w) h3 h4) cm
  refine op_run (v := if cm then .tuple #[z, .bool false] else z) (fun c hc => by rw [ho] at hc; cases hc) (by simp [execOp, ho, em, ek, g1, Result.andThen]) (hn I R _ _ (St.put hs (.refl _) (.refl _) hs.wz hs.mks hd ?_) (.refl _) (fun _ _ => rfl) (.refl _))
  cases cm with
  | true => exact ⟨[z, .bool false], rfl, zeroA_rel, rfl, trivial⟩
  | false => exact zeroA_rel
theorem o_len (t : TypeId) (m : Operand) (ho : o.op = .call ⟨.builtin .len, #[m], #[t]⟩) {ti : TI} (ht : tiOf P t = some ti) {kt et : TypeId} {q : IntKind} {z : Value} (hmp : ti.mp = some (kt, et, q, z)) {i : Nat} {es : MS} (hm : evf F0 m = some (.c (.mpv i))) (hk : K0 i = some (.m es)) : OpEff P o F0 K0 top ⟨.val (.int .i64 es.es.length), [i], [], top⟩ := by
  obtain ⟨h1, h2, _⟩ := tiOf_mp ht hmp
  refine o_read (fun c hc => by rw [ho] at hc; cases hc) m hm (by simp [ho, Op.operands, Call.operands]) hk fun n W F K I R a w hs hxx p ents e1 e2 e3 => ?_
  refine ⟨_, ?_, (rfl : Value.int .i64 (es.es.length : Int) = _)⟩
  have hl : ents.size = es.es.length := by rw [All2.len e3]; simp
  simp only [execOp, ho]
  rw [Sem.run_bind]
  simp [resolve, invoke, builtin, Builtin.len_, e1, run_underlying h1, MapKept.run_getObj_map e2, Result.andThen, hl, goInt]
/-- The operations on maps. -/
def opM (T : Tab) (o : Oper) (F : Nat → Option AV) (K : Nat → Option Ob) (top : Nat) : Option Eff :=
  match o.op with
  | .makeMap _ none => some ⟨.c (.mpv top), [], [(top, some (.m ⟨[], 0⟩))], top + 1⟩
  | .mapUpdate t m k x => match tyGet T t, evf F m, evf F k, evf F x with
    | some ti, some (.pl (.one (.mpv i))), some (.pl (.one c)), some (.pl a0) => match ti.mp, K i with
      | some (_, _, q, _), some (.m es) => match isK q c with
        | some kv => match updM q kv a0 es with
          | some es' => some ⟨.val undef, [i], [(i, some (.m es'))], top⟩
          | none => none
        | none => none
      | _, _ => none
    | _, _, _, _ => none
  | .insert t m k x => match tyGet T t, evf F m, evf F k, evf F x with
    | some ti, some (.pl (.one (.mpv i))), some (.pl (.one c)), some (.pl a0) => match ti.mp, K i with
      | some (_, _, q, _), some (.m es) => match isK q c with
        | some kv => match updM q kv a0 es with
          | some es' => some ⟨.val undef, [i], [(i, some (.m es'))], top⟩
          | none => none
        | none => none
      | _, _ => none
    | _, _, _, _ => none
  | .mapEntry t m k => match tyGet T t, evf F m, evf F k with
    | some ti, some (.pl (.one (.mpv i))), some (.pl (.one c)) => match ti.mp, K i with
      | some (_, _, q, z), some (.m es) => match isK q c with
        | some kv => match entM q kv (zeroA z) es with
          | some (es', a1, b) => some ⟨.tup [a1, .one (.v (.int .i64 b))], [i], [(i, some (.m es'))], top⟩
          | none => none
        | none => none
      | _, _ => none
    | _, _, _ => none
  | .entryStore _ m s x => match evf F m, evf F s, evf F x with
    | some (.pl (.one (.mpv i))), some (.pl (.one (.v (.int _ b)))), some (.pl a0) => match K i with
      | some (.m es) => match putM b a0 es with
        | some es' => some ⟨.val undef, [i], [(i, some (.m es'))], top⟩
        | none => none
      | _ => none
    | _, _, _ => none
  | .lookup t m k cm => match tyGet T t, evf F m, evf F k with
    | some ti, some (.pl (.one mc)), some (.pl (.one c)) => match ti.mp with
      | some (_, _, q, z) => match isK q c with
        | some kv => match mc with
          | .mpv i => match K i with
            | some (.m es) => match lookM q kv (zeroA z) es.es with
              | some (a1, ok) => some ⟨lookAv cm a1 ok, [i], [], top⟩
              | none => none
            | _ => none
          | .v (.map none) => some ⟨lookAv cm (zeroA z) false, [], [], top⟩
          | _ => none
        | none => none
      | none => none
    | _, _, _ => none
  | .call c => match c.callee, c.args.toList, c.argTypes.toList with
    | .builtin .len, [m], [t] => match tyGet T t, evf F m with
      | some ti, some (.pl (.one (.mpv i))) => match ti.mp, K i with
        | some _, some (.m es) => some ⟨.val (.int .i64 es.es.length), [i], [], top⟩
        | _, _ => none
      | _, _ => none
    | _, _, _ => none
  | _ => none
theorem opM_sound {T : Tab} (hT : TabOk P T) {K : Nat → Option Ob} {F : Nat → Option AV} {e : Eff} (h : opM T o F K top = some e) : OpEff P o F K top e := by
  obtain ⟨dst, op, ty, pos, after, guard⟩ := o
  unfold opM at h
  dsimp only at h
  split at h
  · cases h; exact o_make _ rfl
  · split at h
    · rename_i ti i c a0 ht hm hk hx
      split at h
      · rename_i kt et q z es hmp hes
        split at h
        · rename_i kv hkv
          split at h
          · rename_i es' hu; cases h; exact o_update _ _ _ _ (.inl rfl) (hT _ _ ht) hmp hm hes hk hkv hx hu
          · cases h
        · cases h
      · cases h
    · cases h
  · split at h
    · rename_i ti i c a0 ht hm hk hx
      split at h
      · rename_i kt et q z es hmp hes
        split at h
        · rename_i kv hkv
          split at h
          · rename_i es' hu; cases h; exact o_update _ _ _ _ (.inr rfl) (hT _ _ ht) hmp hm hes hk hkv hx hu
          · cases h
        · cases h
      · cases h
    · cases h
  · split at h
    · rename_i ti i c ht hm hk
      split at h
      · rename_i kt et q z es hmp hes
        split at h
        · rename_i kv hkv
          split at h
          · rename_i es' a1 b hu; cases h; exact o_entry _ _ _ rfl (hT _ _ ht) hmp hm hes hk hkv hu
          · cases h
        · cases h
      · cases h
    · cases h
  · split at h
    · rename_i i k b a0 hm hs hx
      split at h
      · rename_i es hes
        split at h
        · rename_i es' hu; cases h; exact o_entryStore _ _ _ _ rfl hm hes hs hx hu
        · cases h
      · cases h
    · cases h
  · rename_i t0 m0 k0 cm0
    split at h
    · rename_i ti mc c ht hm hk
      split at h
      · rename_i kt et q z hmp
        split at h
        · rename_i kv hkv
          split at h
          · rename_i _ i _
            split at h
            · rename_i es hes
              split at h
              · rename_i a1 ok hu; cases h; exact o_lookup (o := ⟨dst, _, ty, pos, after, guard⟩) t0 m0 k0 cm0 rfl (hT _ _ ht) hmp hm hes hk hkv hu
              · cases h
            · cases h
          · cases h; exact o_lookupNil (o := ⟨dst, _, ty, pos, after, guard⟩) t0 m0 k0 cm0 rfl (hT _ _ ht) hmp hm hk hkv
          · cases h
        · cases h
      · cases h
    · cases h
  · rename_i c
    obtain ⟨callee, args, tys⟩ := c
    obtain ⟨args⟩ := args
    obtain ⟨tys⟩ := tys
    dsimp only at h
    split at h
    · split at h
      · rename_i ti i ht hm
        split at h
        · rename_i x es hmp hes
          obtain ⟨kt, et, q, z⟩ := x
          cases h; exact o_len _ _ rfl (hT _ _ ht) hmp hm hes
        · cases h
      · cases h
    · cases h
  · cases h
end
end Go.Proofs.Ytllnmdmmmkoiaaa.Wx.Y
