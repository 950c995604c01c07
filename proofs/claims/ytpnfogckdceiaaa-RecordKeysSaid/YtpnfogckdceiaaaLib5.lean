import Derived.Test.YtpnfogckdceiaaaLib4
import Derived.WideKeyMaps2
import Derived.WideKeyPair
/-
  Own maps whose keys are structs or arrays, asx sets of the keys that they have.
-/
namespace Go.Proofs.Ytpnfogckdceiaaa.Wx.Z
open Go Go.RowKit
set_option linter.unusedVariables false

/-- What is known of such a map's type. -/
structure WMap (P : Program) (t kt et : TypeId) (z : Value) : Prop where
  map : P.underlying t = some (.map kt et)
  law : WideMaps.KeyLaw P kt
  zero : ∀ w : World, (zeroValue et).run P w = .ok z w
def keyed (P : Program) (kt : TypeId) (v : Value) : Prop := ∃ l, keyOf P kt v = some l
/-- A map with these keys, all with one value. -/
def mset (L : List (List Value)) (b : A0) : Y.MS := ⟨L.zipIdx.map fun p => (.agg p.1.toArray, p.2, b), L.length⟩
theorem all2_at {α β : Type} {r : α → β → Prop} : ∀ {l : List α} {m : List β} {j : Nat} {y : β}, All2 r l m → m[j]? = some y → ∃ x, l[j]? = some x ∧ r x y
  | [], [], _, _, _, h => by simp at h
  | x :: l, y :: m, 0, _, hh, h => by simp only [List.getElem?_cons_zero, Option.some.injEq] at h; subst h; exact ⟨x, rfl, hh.1⟩
  | x :: l, y :: m, j + 1, _, hh, h => by simp only [List.getElem?_cons_succ] at h ⊢; exact all2_at hh.2 h
  | [], _ :: _, _, _, h, _ => h.elim
  | _ :: _, [], _, _, h, _ => h.elim
theorem all2_fst {α β : Type} {r : α → β → Prop} : ∀ {l : List α} {m : List β} {x : α}, All2 r l m → x ∈ l → ∃ y ∈ m, r x y
  | x :: l, y :: m, z, hh, h => by
    rcases List.mem_cons.1 h with rfl | h
    · exact ⟨y, List.mem_cons_self .., hh.1⟩
    · obtain ⟨y', h1, h2⟩ := all2_fst hh.2 h
      exact ⟨y', List.mem_cons_of_mem _ h1, h2⟩
  | [], _ :: _, _, h, _ => h.elim
  | _ :: _, [], _, h, _ => h.elim
theorem rel_aggv {I : IM} {R : RM} {vs : List Value} {u : Value} (h : (AV.pl (.agg (vs.map Ce.v))).rel I R u) : u = .agg vs.toArray := by
  obtain ⟨us, rfl, h2⟩ := h
  have : ∀ {vs us : List Value}, All2 (Ce.rel I R) (vs.map Ce.v) us → us = vs := by
    intro vs
    induction vs with
    | nil => intro us h; cases us with
      | nil => rfl
      | cons => exact h.elim
    | cons v vs ih => intro us h; cases us with
      | nil => exact h.elim
      | cons u us =>
        have h1 : u = v := h.1
        rw [h1, ih h.2]
  rw [this h2]
section
variable {P : Program} {t kt et : TypeId} {z : Value} {L : List (List Value)} {b : A0} {vs : List Value} {I : IM} {R : RM} {ents : Array MapEntry}
theorem mset_keys (hL : ∀ v ∈ L, keyed P kt (.agg v.toArray)) (he : All2 (Y.Ek I R) (mset L b).es ents.toList) : ∀ e ∈ ents.toList, ∃ v ∈ L, e.key = .agg v.toArray ∧ b.rel I R e.val := by
  intro e h
  obtain ⟨j, hj⟩ := List.getElem?_of_mem h
  obtain ⟨x, hx, hr⟩ := all2_at he hj
  have hm := List.mem_of_getElem? hx
  obtain ⟨p, hp, rfl⟩ := List.mem_map.1 hm
  exact ⟨p.1, (List.mem_zipIdx hp).2.2 ▸ List.getElem_mem _, hr.1.1, hr.2⟩
theorem mset_has (he : All2 (Y.Ek I R) (mset L b).es ents.toList) (hv : vs ∈ L) : ∃ e ∈ ents.toList, e.key = .agg vs.toArray := by
  obtain ⟨j, hj⟩ := List.getElem?_of_mem hv
  have hm : (Value.agg vs.toArray, j, b) ∈ (mset L b).es := by
    refine List.mem_map.2 ⟨(vs, j), ?_, rfl⟩
    rw [List.mk_mem_zipIdx_iff_getElem?]; exact hj
  obtain ⟨e, h1, h2⟩ := all2_fst he hm
  exact ⟨e, h1, h2.1.1⟩
theorem wfind_no (M : WMap P t kt et z) (hk : keyed P kt (.agg vs.toArray)) (hL : ∀ v ∈ L, keyed P kt (.agg v.toArray)) (he : All2 (Y.Ek I R) (mset L b).es ents.toList) (hv : vs ∉ L) (w : World) : (Instr.findKey kt (.agg vs.toArray) ents.toList).run P w = .ok none w := by
  obtain ⟨lx, hlx⟩ := hk
  have hkeys := mset_keys hL he
  rcases M.law.find w hlx ents.toList (fun e h => by obtain ⟨v, h1, h2, _⟩ := hkeys e h; rw [h2]; exact hL v h1) with ⟨h1, _⟩ | ⟨j, e, h1, h2, h3⟩
  · exact h1
  · obtain ⟨v, g1, g2, _⟩ := hkeys e (List.mem_of_getElem? h2)
    rw [h3] at g2
    simp only [Value.agg.injEq] at g2
    have : vs = v := by simpa using congrArg Array.toList g2
    exact absurd (this ▸ g1) hv
theorem wfind_yes (M : WMap P t kt et z) (hk : keyed P kt (.agg vs.toArray)) (hL : ∀ v ∈ L, keyed P kt (.agg v.toArray)) (he : All2 (Y.Ek I R) (mset L b).es ents.toList) (hv : vs ∈ L) (w : World) : ∃ j e, (Instr.findKey kt (.agg vs.toArray) ents.toList).run P w = .ok (some (j, e)) w ∧ b.rel I R e := by
  obtain ⟨lx, hlx⟩ := hk
  have hkeys := mset_keys hL he
  rcases M.law.find w hlx ents.toList (fun e h => by obtain ⟨v, h1, h2, _⟩ := hkeys e h; rw [h2]; exact hL v h1) with ⟨_, h1⟩ | ⟨j, e, h1, h2, h3⟩
  · obtain ⟨e, g1, g2⟩ := mset_has he hv
    exact absurd g2 (h1 e g1)
  · obtain ⟨v, g1, g2, g3⟩ := hkeys e (List.mem_of_getElem? h2)
    exact ⟨j, e.val, h1, g3⟩
end
section
variable {P : Program} {t kt et : TypeId} {z : Value} {L : List (List Value)} {b : A0} {vs : List Value} {F : Nat → Option AV} {K : Kr} {top i : Nat} {m x y : Operand} {cm : Bool} {dst : Option Tmp} {ty : TypeId} {pos : String} {after : Array Edge} {guard : Option (Nat × Bool)} {k : Eff → Prop}
theorem wlook_no (M : WMap P t kt et z) (hk : keyed P kt (.agg vs.toArray)) (hL : ∀ v ∈ L, keyed P kt (.agg v.toArray)) (hv : vs ∉ L) (hm : evf F m = some (.c (.mpv i))) (hi : kz K i = some (.m (mset L b))) (hx : evf F x = some (.pl (.agg (vs.map Ce.v)))) (h : k ⟨match cm with | true => .tup [Y.zeroA z, .one (.v (.bool false))] | false => .pl (Y.zeroA z), [i], [], top⟩) : WideZ P ⟨dst, .lookup t m x cm, ty, pos, after, guard⟩ F K top k := by
  refine ⟨_, ?_, h⟩
  refine Y.o_read (o := ⟨dst, .lookup t m x cm, ty, pos, after, guard⟩) (fun c hc => by cases hc) m hm (by simp [Op.operands]) (ky_m hi) fun n W F1 K1 I R a w hs hxx p ents e1 e2 e3 => ?_
  have ek : a.eval x = .agg vs.toArray := rel_aggv (hs.evM ((hxx x (by simp [Op.operands])).trans hx))
  have hf := wfind_no M hk hL e3 hv w
  obtain ⟨lx, hlx⟩ := hk
  have hc := M.law.check w ents.isEmpty hlx
  have hr : (Instr.lookup t (.map (some p.b)) (.agg vs.toArray) cm).run P w = .ok (if cm then .tuple #[z, .bool false] else z) w := by
    simp [Instr.lookup, run_underlying M.map, MapKept.run_getObj_map e2, hc, hf, M.zero, Result.andThen]
  refine ⟨_, by simp [execOp, e1, ek, hr, Result.andThen]; rfl, ?_⟩
  cases cm with
  | true => exact ⟨[z, .bool false], rfl, Y.zeroA_rel, rfl, trivial⟩
  | false => exact Y.zeroA_rel
theorem wlook_yes (M : WMap P t kt et z) (hk : keyed P kt (.agg vs.toArray)) (hL : ∀ v ∈ L, keyed P kt (.agg v.toArray)) (hv : vs ∈ L) (hm : evf F m = some (.c (.mpv i))) (hi : kz K i = some (.m (mset L b))) (hx : evf F x = some (.pl (.agg (vs.map Ce.v)))) (h : k ⟨match cm with | true => .tup [b, .one (.v (.bool true))] | false => .pl b, [i], [], top⟩) : WideZ P ⟨dst, .lookup t m x cm, ty, pos, after, guard⟩ F K top k := by
  refine ⟨_, ?_, h⟩
  refine Y.o_read (o := ⟨dst, .lookup t m x cm, ty, pos, after, guard⟩) (fun c hc => by cases hc) m hm (by simp [Op.operands]) (ky_m hi) fun n W F1 K1 I R a w hs hxx p ents e1 e2 e3 => ?_
  have ek : a.eval x = .agg vs.toArray := rel_aggv (hs.evM ((hxx x (by simp [Op.operands])).trans hx))
  obtain ⟨j, e, hf, hb⟩ := wfind_yes M hk hL e3 hv w
  obtain ⟨lx, hlx⟩ := hk
  have hc := M.law.check w ents.isEmpty hlx
  have hr : (Instr.lookup t (.map (some p.b)) (.agg vs.toArray) cm).run P w = .ok (if cm then .tuple #[e, .bool true] else e) w := by
    simp [Instr.lookup, run_underlying M.map, MapKept.run_getObj_map e2, hc, hf, Result.andThen]
  refine ⟨_, by simp [execOp, e1, ek, hr, Result.andThen]; rfl, ?_⟩
  cases cm with
  | true => exact ⟨[e, .bool true], rfl, hb, rfl, trivial⟩
  | false => exact hb
theorem wput_run {op : Op} (ho : op = .mapUpdate t m x y ∨ op = .insert t m x y) (M : WMap P t kt et z) (hk : keyed P kt (.agg vs.toArray)) (hL : ∀ v ∈ L, keyed P kt (.agg v.toArray)) (hv : vs ∉ L) (hm : evf F m = some (.c (.mpv i))) (hi : kz K i = some (.m (mset L b))) (hx : evf F x = some (.pl (.agg (vs.map Ce.v)))) (hy : evf F y = some (.pl b)) (h : k ⟨.val undef, [i], [(i, some (.m (mset (L ++ [vs]) b)))], top⟩) : WideZ P ⟨dst, op, ty, pos, after, guard⟩ F K top k := by
  refine ⟨_, ?_, h⟩
  refine Y.o_write (ti := ⟨false, 0, [], [], none, none, none, none, false, none, 0⟩) (o := ⟨dst, op, ty, pos, after, guard⟩) (es' := mset (L ++ [vs]) b) (fun c hc => by rcases ho with ho | ho <;> (rw [show (Oper.mk dst op ty pos after guard).op = op from rfl, ho] at hc; cases hc)) m hm (by rcases ho with rfl | rfl <;> simp [Op.operands]) (ky_m hi) fun n W F1 K1 I R a w hs hxx p ents e1 e2 e3 => ?_
  have ek : a.eval x = .agg vs.toArray := rel_aggv (hs.evM ((hxx x (by rcases ho with rfl | rfl <;> simp [Op.operands])).trans hx))
  have ex : b.rel I R (a.eval y) := hs.evM ((hxx y (by rcases ho with rfl | rfl <;> simp [Op.operands])).trans hy)
  have hf := wfind_no M hk hL e3 hv w
  obtain ⟨lx, hlx⟩ := hk
  have hc := M.law.check w false hlx
  have hr : (Instr.mapUpdate t (.map (some p.b)) (.agg vs.toArray) (a.eval y)).run P w = .ok () (w.putObj p.b (.map (ents.push ⟨.agg vs.toArray, a.eval y, L.length⟩) (mset (L ++ [vs]) b).c)) := by
    have hl : (mset (L ++ [vs]) b).c = L.length + 1 := by simp [mset]
    rw [hl]
    simp [Instr.mapUpdate, run_underlying M.map, MapKept.run_getObj_map e2, hc, hf, Y.run_setM e2, Result.andThen, mset]
  refine ⟨ents.push ⟨.agg vs.toArray, a.eval y, L.length⟩, undef, .skip, ?_, .inr ⟨rfl, rfl⟩, ?_, rfl⟩
  · rcases ho with rfl | rfl <;> simp [execOp, e1, ek, hr, Result.andThen]
  · have hz : (mset (L ++ [vs]) b).es = (mset L b).es ++ [(.agg vs.toArray, L.length, b)] := by simp [mset, List.zipIdx_append]
    rw [hz, Array.toList_push]
    exact Y.All2.push e3 ⟨⟨rfl, rfl⟩, ex⟩
end
/-- At a round's end. -/
theorem wmap_sub {K : Kr} {r : Nat → Nat} {j : Nat} {L L' : List (List Value)} {b : A0} (hb : b.ren r = b) (e : L' = L) (h : kz K (r j) = some (.m (mset L' b))) : ∀ o, some (Ob.m (mset L b)) = some o → kz K (r j) = some (o.ren r) := fun o ho => by
  subst e
  cases ho
  rw [h]
  simp only [Ob.ren, mset, List.map_map]
  congr 2
  congr 1
  exact List.map_congr_left fun p _ => by simp [hb]
end Go.Proofs.Ytpnfogckdceiaaa.Wx.Z
