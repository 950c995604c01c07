/-
  The walk of the first layer, over the second one: loops over functions, with their rounds.
-/
import Derived.Test.YtllnmdmmmkoiaaaWy
import Derived.Maps.RangeRun
namespace Go.Proofs.Ytllnmdmmmkoiaaa.Wx.Y
open Go Go.RowKit Go.MapKept
set_option linter.unusedVariables false
/-! ### Going through maps -/
section
variable {P : Program} {o : Oper} {F0 : Nat → Option AV} {K0 : Nat → Option Ob} {top : Nat}
theorem o_range (t : TypeId) (m : Operand) (ho : o.op = .range t m) {ti : TI} (ht : tiOf P t = some ti) {kt et : TypeId} {q : IntKind} {z : Value} (hmp : ti.mp = some (kt, et, q, z)) {i : Nat} {es : MS} (hm : evf F0 m = some (.c (.mpv i))) (hk : K0 i = some (.m es)) : OpEff P o F0 K0 top ⟨.c (.own top 0 0), [i], [(top, some (.i ⟨i, es.c, [], es.c⟩))], top + 1⟩ := by
  obtain ⟨h1, h2, _⟩ := tiOf_mp ht hmp
  intro r n W F K I R a w hs hx hkk hfree hd next Q hn
  obtain ⟨hI, hK⟩ := hfree top (Nat.le_refl _) (by simp)
  obtain ⟨p, ents, e1, e2, e3, e4, _⟩ := mp_at hs ((hx m (by simp [ho, Op.operands])).trans hm) ((hkk i (by simp)).trans hk)
  have hrun : (execOp a.eval o).run P w = .ok (.value (.pointer (some ⟨w.heap.size, 0, none⟩))) (w.alloc (.mapIter (some p.b) es.c #[] es.c)) := by
    simp [execOp, ho, e2, run_range_map w t kt et p.b ents es.c h1 e3, Result.andThen]
  refine op_run (fun c hc => by rw [ho] at hc; cases hc) hrun ?_
  have hl := hs.wz.laidO (o' := .i ⟨i, es.c, [], es.c⟩) (x := .mapIter (some p.b) es.c #[] es.c) hI hK rfl ⟨p, IExt.ext hI _ _ e1, heap_alloc_new w _⟩
  refine hn _ R _ _ (St.put hs (.ext hI) (.refl _) hl (hs.mks.mono fun D hD => alloc_old w _ (Array.getElem?_eq_some_iff.1 hD).1) hd ?_) (.ext hI) ?_ (.refl _)
  · exact ⟨⟨w.heap.size, 0, 0⟩, by simp [Wx.ext], by simp⟩
  · intro j hj
    unfold Wx.ext
    rw [if_neg]
    rintro rfl
    exact hj ⟨Nat.le_refl _, by simp⟩
/-- What is known of a walk over a map. -/
theorem it_at {n : Nat} {W : Wo} {F : Nat → Option AV} {K : Nat → Option Ob} {I : IM} {R : RM} {a : Act} {w : World} (hs : St n W F K I R a w) {it : Operand} {j : Nat} (hit : evf F it = some (.c (.own j 0 0))) {x : IS} (hj : K j = some (.i x)) {es : MS} (hm : K x.m = some (.m es)) :
    ∃ p pm ents, I j = some p ∧ I x.m = some pm ∧ a.eval it = .pointer (some ⟨p.b, 0, none⟩) ∧ w.heap[p.b]? = some (.mapIter (some pm.b) x.since x.seen.toArray x.last) ∧ w.heap[pm.b]? = some (.map ents es.c) ∧ All2 (Ek I R) es.es ents.toList := by
  obtain ⟨p, hp, hv⟩ : ∃ p, I j = some p ∧ a.eval it = .pointer (some ⟨p.b, 0 * p.sz + 0, none⟩) := hs.evM hit
  obtain ⟨p', hp', ho, _⟩ := hs.wz.ob j _ hj rfl
  rw [hp] at hp'; cases hp'
  obtain ⟨pm, h1, h2⟩ := ho.mem
  obtain ⟨p2, hp2, ho2, _⟩ := hs.wz.ob x.m _ hm rfl
  rw [h1] at hp2; cases hp2
  obtain ⟨ents, h3, h4⟩ := ho2.mem
  exact ⟨p, pm, ents, hp, h1, by simpa using hv, h2, h3, h4⟩
theorem all2_mem {α β : Type} {r : α → β → Prop} : ∀ {l : List α} {m : List β}, All2 r l m → (∀ a ∈ l, ∃ b ∈ m, r a b) ∧ ∀ b ∈ m, ∃ a ∈ l, r a b
  | [], [], _ => ⟨fun a h => by simp at h, fun b h => by simp at h⟩
  | a :: l, b :: m, h => by
    obtain ⟨h1, h2⟩ := all2_mem h.2
    refine ⟨fun x hx => ?_, fun y hy => ?_⟩
    · rcases List.mem_cons.1 hx with rfl | hx
      · exact ⟨b, by simp, h.1⟩
      · obtain ⟨y, hy, hr⟩ := h1 x hx; exact ⟨y, by simp [hy], hr⟩
    · rcases List.mem_cons.1 hy with rfl | hy
      · exact ⟨a, by simp, h.1⟩
      · obtain ⟨x, hx, hr⟩ := h2 y hy; exact ⟨x, by simp [hx], hr⟩
  | [], _ :: _, h => h.elim
  | _ :: _, [], h => h.elim
theorem born_map {I : IM} {R : RM} : ∀ {es : List (Value × Nat × A0)} {l : List MapEntry}, All2 (Ek I R) es l → l.map (·.born) = es.map (·.2.1)
  | [], [], _ => rfl
  | e :: es, m :: l, h => by simp only [List.map_cons, born_map h.2]; rw [h.1.1.2]
  | [], _ :: _, h => h.elim
  | _ :: _, [], h => h.elim
theorem o_entryIt (it : Operand) (ho : o.op = .entry it) {j : Nat} {x : IS} {es : MS} (hit : evf F0 it = some (.c (.own j 0 0))) (hj : K0 j = some (.i x)) (hm : K0 x.m = some (.m es)) {e : Value × Nat × A0} {l : List Nat} (he : e ∈ es.es) (hnd : (es.es.map (·.2.1)).Nodup) (hl : x.last = es.c) (hsn : x.seen = l ++ [e.2.1]) :
    OpEff P o F0 K0 top ⟨.tup [.one (.v e.1), e.2.2], [j, x.m], [], top⟩ := by
  intro r n W F K I R a w hs hx hkk hfree hd next Q hn
  obtain ⟨p, pm, ents, e1, e2, e3, e4, e5, e6⟩ := it_at hs ((hx it (by simp [ho, Op.operands])).trans hit) ((hkk j (by simp)).trans hj) ((hkk x.m (by simp)).trans hm)
  obtain ⟨m, hmm, hr⟩ := (all2_mem e6).1 e he
  have hb : m.born = e.2.1 := hr.1.2
  have g1 := run_entry_at (P := P) w p.b pm.b x.since l.toArray ents es.c m (by rw [e4, hsn, hl, hb]; simp) e5 hmm (by rw [born_map e6]; exact hnd)
  refine op_run (v := .tuple #[m.key, m.val]) (fun c hc => by rw [ho] at hc; cases hc) (by simp [execOp, ho, e3, g1, Result.andThen]) (hn I R _ _ (St.put hs (.refl _) (.refl _) hs.wz hs.mks hd ?_) (.refl _) (fun _ _ => rfl) (.refl _))
  exact ⟨[m.key, m.val], rfl, hr.1.1, hr.2, trivial⟩
theorem Wz.drew {W : Wo} {K : Nat → Option Ob} {I : IM} {R : RM} {w : World} (h : Wz W K I R w) : Wz W K I R w.drew :=
  ⟨wd_carry h.wd (fun _ _ h _ => h) (fun _ _ => rfl) rfl rfl rfl (Nat.le_refl _), fun i o hi hn => by
    obtain ⟨p, hp, ho, hz⟩ := h.ob i o hi hn; exact ⟨p, hp, ho.mono (.refl _) (.refl _) rfl, hz⟩, h.inj⟩
/-- A step through a map: nothing is left, or an entry that has not come yet. -/
theorem step_next (it : Operand) (ho : o.op = .next it false) {r : Option Nat} {n : Nat} {W : Wo} {F : Nat → Option AV} {K : Nat → Option Ob} {I : IM} {R : RM} {a : Act} {w : World} (hs : St n W F K I R a w) {j : Nat} {x : IS} {es : MS} (hit : evf F it = some (.c (.own j 0 0))) (hj : K j = some (.i x)) (hm : K x.m = some (.m es)) (hd : dstB n o.dst = true)
    (hlt : ∀ e ∈ es.es, e.2.1 < x.since) (hsc : x.since ≤ x.last) {next : Act → World → Prop} {Q : Exit → Act → World → Prop}
    (hZ : (∀ e ∈ es.es, e.2.1 ∈ x.seen) → ∀ a' w', St n W (fput F o.dst (.tup [.one (.v (.bool false))])) K I R a' w' → next a' w')
    (hA : ∀ e ∈ es.es, e.2.1 ∉ x.seen → ∀ a' w', St n W (fput F o.dst (.tup [.one (.v (.bool true)), .one (.v e.1), e.2.2])) (upd K j (some (.i ⟨x.m, x.since, x.seen ++ [e.2.1], es.c⟩))) I R a' w' → next a' w') : o.wpIn (fr r) 0 P a w next Q := by
  obtain ⟨p, pm, ents, e1, e2, e3, e4, e5, e6⟩ := it_at hs hit hj hm
  have hnd : ∀ c, o.op ≠ .defer c := fun c hc => by rw [ho] at hc; cases hc
  rcases run_next_at (P := P) w o.type p.b pm.b x.since x.last x.seen.toArray ents es.c e4 e5 (fun m hmm => by
    obtain ⟨e, he, hr⟩ := (all2_mem e6).2 m hmm
    rw [hr.1.2]; exact hlt e he) hsc with ⟨h0, hrun⟩ | ⟨m, hmm, w1, hw1, hrun⟩
  · refine op_run (v := .tuple #[.bool false]) hnd (by simp [execOp, ho, e3, hrun, Result.andThen]) (hZ (fun e he => ?_) _ _ (St.put hs (.refl _) (.refl _) hs.wz hs.mks hd ⟨[.bool false], rfl, rfl, trivial⟩))
    obtain ⟨m, hmm, hr⟩ := (all2_mem e6).1 e he
    have : ¬ m ∈ leftOf ents x.seen.toArray := fun h => by
      rw [Array.eq_empty_of_size_eq_zero h0] at h; simp at h
    unfold leftOf at this
    rw [Array.mem_filter] at this
    have hmm' : m ∈ ents := by simpa using hmm
    simp only [hmm', true_and, Bool.not_eq_true', Bool.not_eq_false] at this
    rw [← hr.1.2]
    simpa using this
  · have hmm' : m ∈ leftOf ents x.seen.toArray := by simpa using hmm
    unfold leftOf at hmm'
    rw [Array.mem_filter] at hmm'
    obtain ⟨e, he, hr⟩ := (all2_mem e6).2 m (by simpa using hmm'.1)
    have hb : m.born = e.2.1 := hr.1.2
    have hns : e.2.1 ∉ x.seen := by
      have := hmm'.2
      rw [hb] at this
      simpa using this
    have hwz1 : Wz W K I R w1 := by rcases hw1 with rfl | rfl; exact hs.wz; exact hs.wz.drew
    have hh1 : w1.heap = w.heap := by rcases hw1 with rfl | rfl <;> rfl
    have hmk1 : Mk W a.defers w1 := by rcases hw1 with rfl | rfl; exact hs.mks; exact hs.mks.mono fun D _ => rfl
    have hwz2 : Wz W (upd K j (some (.i ⟨x.m, x.since, x.seen ++ [e.2.1], es.c⟩))) I R (w1.putObj p.b (.mapIter (some pm.b) x.since (x.seen.toArray.push m.born) es.c)) := by
      refine hwz1.putO hj rfl e1 (by rw [hh1]; exact e4) rfl rfl ⟨pm, e2, ?_⟩
      rw [World.putObj_heap_same (by rw [hh1]; exact (Array.getElem?_eq_some_iff.1 e4).1), hb]; simp
    refine op_run (v := .tuple #[.bool true, m.key, m.val]) (w' := w1.putObj p.b (.mapIter (some pm.b) x.since (x.seen.toArray.push m.born) es.c)) hnd (by simp [execOp, ho, e3, hrun, Result.andThen, Go.ChangeMaps.setBlock, World.putObj]) (hA e he hns _ _ (St.put hs (.refl _) (.refl _) hwz2 (hmk1.mono fun D hD => World.putObj_heap_other ?_) hd ⟨[.bool true, m.key, m.val], rfl, rfl, hr.1.1, hr.2, trivial⟩))
    rintro rfl
    rw [hh1, e4] at hD; cases hD
end
end Go.Proofs.Ytllnmdmmmkoiaaa.Wx.Y
namespace Go.Proofs.Ytllnmdmmmkoiaaa.Wx.Z
open Go Go.RowKit
set_option linter.unusedVariables false

/-! ### States -/
def toBt : Fr → Bt AV
  | [] => .e
  | (k, x) :: F => Bt.put 17 (toBt F) k (some x)
def frOk : Fr → Bool
  | [] => true
  | (k, _) :: F => match Nat.blt k big with
    | true => frOk F
    | false => false
def btOf (F : Fr) : Bt AV := match frOk F with
  | true => toBt F
  | false => .e
theorem toBt_get : ∀ {F : Fr}, frOk F = true → (toBt F).get = get F
  | [], _ => by funext t; rfl
  | (k, x) :: F, h => by
    unfold frOk at h
    split at h
    · rename_i hk
      have hk' : @LT.lt Nat _ k 130000 := by simpa [Nat.blt_eq, big] using hk
      funext t
      have := get_put F (some k) x
      simp only [Wx.put] at this
      rw [this]
      show (Bt.put 17 (toBt F) k (some x)).get t = _
      rw [Bt.get_put 17 _ k (some x) t (by omega), toBt_get h]
      rfl
    · cases h
theorem btOf_get {F : Fr} (h : frOk F = true) : (btOf F).get = get F := by unfold btOf; rw [h]; exact toBt_get h
theorem btOf_sub {F : Fr} {t : Nat} {y : AV} (h : (btOf F).get t = some y) : get F t = some y := by
  unfold btOf at h
  split at h
  · rename_i hk; rw [toBt_get hk] at h; exact h
  · simp [Bt.get] at h
structure LB where
  n : Nat
  F : Fr
  ps : Array Tmp
  assign : Code
  body : Code
  st : Y.LS
inductive Ob where
  | b (x : Blk)
  | m (es : Y.MS)
  | l (x : LB)
  | i (x : Y.IS)
def LB.y (x : LB) : Y.LB := ⟨x.n, btOf x.F, x.ps, x.assign, x.body, x.st⟩
def Ob.y : Ob → Y.Ob
  | .b x => .b x
  | .m es => .m es
  | .l x => .l x.y
  | .i x => .i x
abbrev Kr := List (Nat × Option Ob)
def kz : Kr → Nat → Option Ob
  | [], _ => none
  | (k, x) :: F, t => match Nat.beq k t with
    | true => x
    | false => kz F t
def isB : Option Ob → Option Blk
  | some (.b x) => some x
  | _ => none
def kb : Kr → Nat → Option Blk
  | [], _ => none
  | (k, x) :: F, t => match Nat.beq k t with
    | true => isB x
    | false => kb F t
def kbl : Kr → Wx.Kr
  | [] => []
  | (k, x) :: F => (k, isB x) :: kbl F
def ky (K : Kr) : Nat → Option Y.Ob := fun i => (kz K i).map Ob.y
theorem kb_kz : ∀ (K : Kr) (t : Nat), kb K t = isB (kz K t)
  | [], _ => rfl
  | (k, x) :: F, t => by
    simp only [kb, kz]
    split
    · rfl
    · exact kb_kz F t
theorem kb_eq (K : Kr) : Y.blkOf (ky K) = kb K := by
  funext t
  rw [kb_kz]
  unfold Y.blkOf ky
  cases kz K t with
  | none => rfl
  | some o => cases o <;> rfl
theorem kg_kbl : ∀ (K : Kr), kg (kbl K) = kb K
  | [] => rfl
  | (k, x) :: F => by
    funext t
    have := congrFun (kg_kbl F) t
    simp only [kbl, kg, kb]
    cases Nat.beq k t with
    | true => rfl
    | false => exact this
def upk : Wx.Kr → Kr
  | [] => []
  | (k, x) :: F => (k, x.map Ob.b) :: upk F
def yk : Kr → Y.Kr
  | [] => []
  | (k, x) :: F => (k, x.map Ob.y) :: yk F
theorem yk_upk : ∀ (kw : Wx.Kr), yk (upk kw) = Y.liftK kw
  | [] => rfl
  | (k, x) :: F => by
    show (k, (x.map Ob.b).map Ob.y) :: yk (upk F) = (k, x.map Y.Ob.b) :: Y.liftK F
    rw [yk_upk F]
    cases x <;> rfl
theorem ky_append (K : Kr) : ∀ (r : Kr), ky (r ++ K) = Y.kup (ky K) (yk r)
  | [] => rfl
  | (i, b) :: r => by
    funext t
    have := congrFun (ky_append K r) t
    simp only [ky] at this
    simp only [List.cons_append, ky, kz, yk, Y.kup]
    by_cases h : t = i
    · subst h; simp
    · have hb : Nat.beq i t = false := by rcases hb : Nat.beq i t with _ | _; · rfl
                                          · exact absurd (Nat.eq_of_beq_eq_true hb).symm h
      simp only [hb, if_neg h]
      exact this
theorem ky_up (K : Kr) (kw : Wx.Kr) : ky (upk kw ++ K) = Y.kup (ky K) (Y.liftK kw) := by rw [ky_append, yk_upk]
theorem ky_cons (K : Kr) (j : Nat) (x : Option Ob) : ky ((j, x) :: K) = Y.upd (ky K) j (x.map Ob.y) := ky_append K [(j, x)]
structure S where
  F : Fr
  K : Kr
  top : Nat
def nextP (W : Wo) (n m : Nat) (I : IM) (R : RM) (A : S → Prop) (a' : Act) (w' : World) : Prop :=
  ∃ s' I' R', Y.St n W (get s'.F) (ky s'.K) I' R' a' w' ∧ (∀ j, s'.top ≤ j → I' j = none) ∧ m ≤ s'.top ∧ (∀ j, j < m → I' j = I j) ∧ RExt R R' ∧ A s'
def Tr (P : Program) (n m : Nat) (rd : Option Nat) (c : Code) (s : S) (Q : Exit → S → Prop) : Prop :=
  ∀ (W : Wo) (r : Option Nat) (I : IM) (R : RM) (a : Act) (w : World), Y.RdOk I rd r → Y.St n W (get s.F) (ky s.K) I R a w → (∀ j, s.top ≤ j → I j = none) → m ≤ s.top → c.wpIn (Y.fr r) 0 P (fun e a' w' => nextP W n m I R (Q e) a' w') a w
/-- A call, in the memory at hand. -/
structure CallZ (P : Program) (m : Nat) (c : Ce) (avs : List AV) (K : Kr) (top : Nat) (k : AV → Kr → Nat → Prop) : Prop where
  run : ∀ (W : Wo) (I : IM) (R : RM) (w : World) (v : Value) (vs : List Value), Y.Wz W (ky K) I R w → (∀ j, top ≤ j → I j = none) → m ≤ top → All2 (AV.rel I R) avs vs → c.rel I R v →
    Y.UpsX P v vs.toArray w fun e w' => ∃ u x K' top' I' R', e = .returned u ∧ Y.Wz W (ky K') I' R' w' ∧ (∀ j, top' ≤ j → I' j = none) ∧ top ≤ top' ∧ (∀ j, j < top → I' j = I j) ∧ RExt R R' ∧ x.rel I' R' u ∧ k x K' top'

/-! ### Own maps whose entries are not known -/
structure Eff where
  av : AV
  rd : List Nat
  kw : Kr
  top : Nat
def Eff.y (e : Eff) : Y.Eff := ⟨e.av, e.rd, yk e.kw, e.top⟩
def Eff.up : Wx.Eff → Eff
  | ⟨av, rd, kw, t⟩ => ⟨av, rd, upk kw, t⟩

/-- A look-up, whatever it finds. -/
structure lookN (q : IntKind) (z : Value) (es : Y.MS) (x : Int) (A : A0 → Bool → Prop) : Prop where
  h : ∃ a ok, Y.lookM q (.int q x) (Y.zeroA z) es.es = some (a, ok) ∧ A a ok
structure updN (q : IntKind) (es : Y.MS) (x : Int) (a : A0) (A : Y.MS → Prop) : Prop where
  h : ∃ es', Y.updM q (.int q x) a es = some es' ∧ A es'
structure entN (q : IntKind) (z : Value) (es : Y.MS) (x : Int) (A : Y.MS → A0 → Nat → Prop) : Prop where
  h : ∃ es' a b, Y.entM q (.int q x) (Y.zeroA z) es = some (es', a, b) ∧ A es' a b
structure putN (es : Y.MS) (b : Int) (a : A0) (A : Y.MS → Prop) : Prop where
  h : ∃ es', Y.putM b a es = some es' ∧ A es'
structure mlenN (es : Y.MS) (A : Int → Prop) : Prop where
  h : ∃ n : Int, (es.es.length : Int) = n ∧ A n
/-- Which operations are on maps. -/
def isM (F : Nat → Option AV) : Op → Bool
  | .makeMap _ _ => true
  | .mapUpdate _ _ _ _ => true
  | .insert _ _ _ _ => true
  | .mapEntry _ _ _ => true
  | .entryStore _ _ _ _ => true
  | .lookup _ _ _ _ => true
  | .range _ _ => true
  | .entry _ => true
  | .call c => match c.callee, c.args.toList with
    | .builtin .len, [m] => match evf F m with
      | some (.pl (.one (.mpv _))) => true
      | _ => false
    | _, _ => false
  | _ => false
/-- The entry that came last. -/
structure entryN (es : Y.MS) (x : Y.IS) (A : Value × Nat × A0 → Prop) : Prop where
  h : (es.es.map (·.2.1)).Nodup ∧ x.last = es.c ∧ ∃ e l, e ∈ es.es ∧ x.seen = l ++ [e.2.1] ∧ A e
section
variable (T : Tab)
def opMZ (o : Oper) (F : Nat → Option AV) (K : Kr) (top : Nat) (k : Eff → Prop) : Prop :=
  match o.op with
  | .makeMap _ r => match r with
    | none => k ⟨.c (.mpv top), [], [(top, some (.m ⟨[], 0⟩))], top + 1⟩
    | some _ => False
  | .mapUpdate t m x y => match tyGet T t, evf F m, evf F x, evf F y with
    | some ti, some (.pl (.one (.mpv i))), some (.pl (.one (.v (.int kk v)))), some (.pl a0) => match ti.mp, kz K i with
      | some (_, _, q, _), some (.m es) => match decide (kk = q) with
        | true => updN q es v a0 fun es' => k ⟨.val undef, [i], [(i, some (.m es'))], top⟩
        | false => False
      | _, _ => False
    | _, _, _, _ => False
  | .insert t m x y => match tyGet T t, evf F m, evf F x, evf F y with
    | some ti, some (.pl (.one (.mpv i))), some (.pl (.one (.v (.int kk v)))), some (.pl a0) => match ti.mp, kz K i with
      | some (_, _, q, _), some (.m es) => match decide (kk = q) with
        | true => updN q es v a0 fun es' => k ⟨.val undef, [i], [(i, some (.m es'))], top⟩
        | false => False
      | _, _ => False
    | _, _, _, _ => False
  | .mapEntry t m x => match tyGet T t, evf F m, evf F x with
    | some ti, some (.pl (.one (.mpv i))), some (.pl (.one (.v (.int kk v)))) => match ti.mp, kz K i with
      | some (_, _, q, z), some (.m es) => match decide (kk = q) with
        | true => entN q z es v fun es' a b => k ⟨.tup [a, .one (.v (.int .i64 b))], [i], [(i, some (.m es'))], top⟩
        | false => False
      | _, _ => False
    | _, _, _ => False
  | .entryStore _ m s x => match evf F m, evf F s, evf F x with
    | some (.pl (.one (.mpv i))), some (.pl (.one (.v (.int _ b)))), some (.pl a0) => match kz K i with
      | some (.m es) => putN es b a0 fun es' => k ⟨.val undef, [i], [(i, some (.m es'))], top⟩
      | _ => False
    | _, _, _ => False
  | .lookup t m x cm => match tyGet T t, evf F m, evf F x with
    | some ti, some (.pl (.one (.mpv i))), some (.pl (.one (.v (.int kk v)))) => match ti.mp, kz K i with
      | some (_, _, q, z), some (.m es) => match decide (kk = q) with
        | true => lookN q z es v fun a ok => k ⟨match cm with | true => .tup [a, .one (.v (.bool ok))] | false => .pl a, [i], [], top⟩
        | false => False
      | _, _ => False
    | _, _, _ => False
  | .range t m => match tyGet T t, evf F m with
    | some ti, some (.pl (.one (.mpv i))) => match ti.mp, kz K i with
      | some _, some (.m es) => k ⟨.c (.own top 0 0), [i], [(top, some (.i ⟨i, es.c, [], es.c⟩))], top + 1⟩
      | _, _ => False
    | _, _ => False
  | .entry it => match evf F it with
    | some (.pl (.one (.own j 0 0))) => match kz K j with
      | some (.i x) => match kz K x.m with
        | some (.m es) => entryN es x fun e => k ⟨.tup [.one (.v e.1), e.2.2], [j, x.m], [], top⟩
        | _ => False
      | _ => False
    | _ => False
  | .call c => match c.callee, c.args.toList, c.argTypes.toList with
    | .builtin .len, [m], [t] => match tyGet T t, evf F m with
      | some ti, some (.pl (.one (.mpv i))) => match ti.mp, kz K i with
        | some _, some (.m es) => mlenN es fun l => k ⟨.val (.int .i64 l), [i], [], top⟩
        | _, _ => False
      | _, _ => False
    | _, _, _ => False
  | _ => False
end
theorem ky_i {K : Kr} {i : Nat} {x : Y.IS} (h : kz K i = some (.i x)) : ky K i = some (.i x) := by simp [ky, h, Ob.y]
theorem ky_m {K : Kr} {i : Nat} {es : Y.MS} (h : kz K i = some (.m es)) : ky K i = some (.m es) := by simp [ky, h, Ob.y]
theorem isK_mk {q : IntKind} {v : Int} : Y.isK q (.v (.int q v)) = some (.int q v) := by simp [Y.isK]
theorem opMZ_sound {P : Program} {T : Tab} (hT : TabOk P T) {o : Oper} {F : Nat → Option AV} {K : Kr} {top : Nat} {k : Eff → Prop} (h : opMZ T o F K top k) : ∃ e : Eff, Y.OpEff P o F (ky K) top e.y ∧ k e := by
  obtain ⟨dst, op, ty, pos, after, guard⟩ := o
  unfold opMZ at h
  dsimp only at h
  split at h
  · split at h
    · exact ⟨_, Y.o_make _ rfl, h⟩
    · exact h.elim
  · split at h
    · rename_i ti i kk v a0 ht hm hx hy
      split at h
      · rename_i kt et q z es hmp hes
        split at h
        · rename_i hq
          have hq := of_decide_eq_true hq
          subst hq
          obtain ⟨es', h1, h2⟩ := h.h
          exact ⟨_, Y.o_update _ _ _ _ (.inl rfl) (hT _ _ ht) hmp hm (ky_m hes) hx isK_mk hy h1, h2⟩
        · exact h.elim
      · exact h.elim
    · exact h.elim
  · split at h
    · rename_i ti i kk v a0 ht hm hx hy
      split at h
      · rename_i kt et q z es hmp hes
        split at h
        · rename_i hq
          have hq := of_decide_eq_true hq
          subst hq
          obtain ⟨es', h1, h2⟩ := h.h
          exact ⟨_, Y.o_update _ _ _ _ (.inr rfl) (hT _ _ ht) hmp hm (ky_m hes) hx isK_mk hy h1, h2⟩
        · exact h.elim
      · exact h.elim
    · exact h.elim
  · split at h
    · rename_i ti i kk v ht hm hx
      split at h
      · rename_i kt et q z es hmp hes
        split at h
        · rename_i hq
          have hq := of_decide_eq_true hq
          subst hq
          obtain ⟨es', a, b, h1, h2⟩ := h.h
          exact ⟨_, Y.o_entry _ _ _ rfl (hT _ _ ht) hmp hm (ky_m hes) hx isK_mk h1, h2⟩
        · exact h.elim
      · exact h.elim
    · exact h.elim
  · split at h
    · rename_i i kk b a0 hm hs hx
      split at h
      · rename_i es hes
        obtain ⟨es', h1, h2⟩ := h.h
        exact ⟨_, Y.o_entryStore _ _ _ _ rfl hm (ky_m hes) hs hx h1, h2⟩
      · exact h.elim
    · exact h.elim
  · split at h
    · rename_i cm _ _ _ ti i kk v ht hm hx
      split at h
      · rename_i kt et q z es hmp hes
        split at h
        · rename_i hq
          have hq := of_decide_eq_true hq
          subst hq
          obtain ⟨a, ok, h1, h2⟩ := h.h
          refine ⟨_, ?_, h2⟩
          have := Y.o_lookup (o := ⟨dst, _, ty, pos, after, guard⟩) (P := P) (top := top) _ _ _ cm rfl (hT _ _ ht) hmp hm (ky_m hes) hx isK_mk h1
          cases cm <;> exact this
        · exact h.elim
      · exact h.elim
    · exact h.elim
  · split at h
    · rename_i ti i ht hm
      split at h
      · rename_i y es hmp hes
        obtain ⟨kt, et, q, z⟩ := y
        exact ⟨_, Y.o_range _ _ rfl (hT _ _ ht) hmp hm (ky_m hes), h⟩
      · exact h.elim
    · exact h.elim
  · split at h
    · rename_i j hit
      split at h
      · rename_i x hj
        split at h
        · rename_i es hes
          obtain ⟨h1, h2, e, l, h3, h4, h5⟩ := h.h
          exact ⟨_, Y.o_entryIt _ rfl hit (ky_i hj) (ky_m hes) h3 h1 h2 h4, h5⟩
        · exact h.elim
      · exact h.elim
    · exact h.elim
  · rename_i c
    obtain ⟨callee, args, tys⟩ := c
    obtain ⟨args⟩ := args
    obtain ⟨tys⟩ := tys
    dsimp only at h
    split at h
    · split at h
      · rename_i ti i ht hm
        split at h
        · rename_i y es hmp hes
          obtain ⟨kt, et, q, z⟩ := y
          obtain ⟨l, h1, h2⟩ := h.h
          subst h1
          exact ⟨_, Y.o_len _ _ rfl (hT _ _ ht) hmp hm (ky_m hes), h2⟩
        · exact h.elim
      · exact h.elim
    · exact h.elim
  · exact h.elim
/-- What is left to come of a map that is gone through. -/
structure nextN (es : Y.MS) (x : Y.IS) (Z : Prop) (A : Value × Nat × A0 → Prop) : Prop where
  h : (∀ e ∈ es.es, e.2.1 < x.since) ∧ x.since ≤ x.last ∧ ((∀ e ∈ es.es, e.2.1 ∈ x.seen) → Z) ∧ ∀ e ∈ es.es, e.2.1 ∉ x.seen → A e
section
variable (P : Program) (T : Tab) (n m : Nat) (rd : Option Nat)
def onE (dst : Option Tmp) (F : Fr) (K : Kr) (top : Nat) (k : S → Prop) (e : Wx.Eff) : Prop :=
  match e with
  | ⟨av, _, kw, top'⟩ => match Nat.ble top top' with
    | true => match dst, kw with
      | none, [] => k ⟨F, K, top'⟩
      | some d, [] => k ⟨(d, av) :: F, K, top'⟩
      | none, [(j, b)] => k ⟨F, (j, b.map Ob.b) :: K, top'⟩
      | some d, [(j, b)] => k ⟨(d, av) :: F, (j, b.map Ob.b) :: K, top'⟩
      | _, _ => k ⟨Wx.put F dst av, upk kw ++ K, top'⟩
    | false => False
def onZ (dst : Option Tmp) (F : Fr) (K : Kr) (top : Nat) (k : S → Prop) (e : Eff) : Prop :=
  match e with
  | ⟨av, _, kw, top'⟩ => match Nat.ble top top' with
    | true => match dst, kw with
      | none, [] => k ⟨F, K, top'⟩
      | some d, [] => k ⟨(d, av) :: F, K, top'⟩
      | none, [p] => k ⟨F, p :: K, top'⟩
      | some d, [p] => k ⟨(d, av) :: F, p :: K, top'⟩
      | dst, kw => k ⟨Wx.put F dst av, kw ++ K, top'⟩
    | false => False
/-- The operand of a step through a map. -/
def nextOf : Op → Option Operand
  | .next it false => some it
  | _ => none
def stepZ (o : Oper) (s : S) (k : S → Prop) : Prop :=
  match o, s with
  | ⟨dst, op, ty, pos, after, guard⟩, ⟨F, K, top⟩ => match dstB n dst with
    | true => match callOf op with
      | some (f, xs) => match evf (get F) f, evs (get F) xs with
        | some (.pl (.one c)), some avs => CallZ P m c avs K top fun x K' top' => match dst with
          | some d => k ⟨(d, x) :: F, K', top'⟩
          | none => k ⟨F, K', top'⟩
        | _, _ => False
      | none => match op with
        | .defer _ => False
        | op => match isM (get F) op, nextOf op with
          | true, _ => opMZ T ⟨dst, op, ty, pos, after, guard⟩ (get F) K top (onZ dst F K top k)
          | false, some it => match evf (get F) it, dst with
            | some (.pl (.one (.own j 0 0))), some d => match kz K j with
              | some (.i x) => match kz K x.m with
                | some (.m es) => nextN es x (k ⟨(d, .tup [.one (.v (.bool false))]) :: F, K, top⟩) fun e => k ⟨(d, .tup [.one (.v (.bool true)), .one (.v e.1), e.2.2]) :: F, (j, some (.i ⟨x.m, x.since, x.seen ++ [e.2.1], es.c⟩)) :: K, top⟩
                | _ => False
              | _ => False
            | _, _ => False
          | false, none => opA P T ⟨dst, op, ty, pos, after, guard⟩ (get F) (kb K) top (onE dst F K top k)
    | false => False
def runZ (ops : Array Oper) : List Oper → S → (S → Prop) → Prop
  | [], s, k => k s
  | ⟨dst, op, ty, pos, after, guard⟩ :: r, ⟨F, K, top⟩, k => match guard with
    | none => stepZ P T n m ⟨dst, op, ty, pos, after, none⟩ ⟨F, K, top⟩ fun s' => runZ ops r s' k
    | some (g, want) => match dstB n dst, (ops[g]?).bind (·.dst) with
      | true, some t => match get F t with
        | some (.pl (.one (.v (.bool b)))) => match want, dst with
          | true, some d => spB b (stepZ P T n m ⟨dst, op, ty, pos, after, none⟩ ⟨(t, .val (.bool true)) :: F, K, top⟩ fun s' => runZ ops r s' k) (runZ ops r ⟨(d, .val undef) :: (t, .val (.bool false)) :: F, K, top⟩ k)
          | false, some d => spB b (runZ ops r ⟨(d, .val undef) :: (t, .val (.bool true)) :: F, K, top⟩ k) (stepZ P T n m ⟨dst, op, ty, pos, after, none⟩ ⟨(t, .val (.bool false)) :: F, K, top⟩ fun s' => runZ ops r s' k)
          | true, none => spB b (stepZ P T n m ⟨dst, op, ty, pos, after, none⟩ ⟨(t, .val (.bool true)) :: F, K, top⟩ fun s' => runZ ops r s' k) (runZ ops r ⟨(t, .val (.bool false)) :: F, K, top⟩ k)
          | false, none => spB b (runZ ops r ⟨(t, .val (.bool true)) :: F, K, top⟩ k) (stepZ P T n m ⟨dst, op, ty, pos, after, none⟩ ⟨(t, .val (.bool false)) :: F, K, top⟩ fun s' => runZ ops r s' k)
        | some (.pl (.one (.v (.tuple _)))) => match dst with
          | some d => runZ ops r ⟨(d, .val undef) :: F, K, top⟩ k
          | none => runZ ops r ⟨F, K, top⟩ k
        | _ => False
      | _, _ => False
structure DrawZ (id : Nat) (ops : Array Oper) (s : S) (k : S → Prop) : Prop where
  h : ∀ rd, Tr P n m rd (.region id ops true) s fun e s' => match e with | .normal => k s' | _ => False
structure LoopZ (c : Code) (s : S) (Q : Exit → S → Prop) : Prop where
  h : (∀ j, rd = some j → j < m) → Tr P n m rd (.loop c) s Q
structure RangeZ (g : Operand) (ps : Array Tmp) (assign body : Code) (s : S) (Q : Exit → S → Prop) : Prop where
  h : (∀ j, rd = some j → j < m) → Tr P n m rd (.rangeFunc g ps assign body) s Q
def codeZ : Code → S → (Exit → S → Prop) → Prop
  | .skip, s, Q => Q .normal s
  | .region id ops draw, s, Q => match draw with
    | false => runZ P T n m ops ops.toList s (Q .normal)
    | true => DrawZ P n m id ops s (Q .normal)
  | .seq a b, s, Q => codeZ a s fun e s' => match e with
    | .normal => codeZ b s' Q
    | e => Q e s'
  | .cond c x y, ⟨F, K, top⟩, Q => match evf (get F) c with
    | some (.pl (.one (.v (.bool b)))) => spB b (codeZ x ⟨F, K, top⟩ Q) (codeZ y ⟨F, K, top⟩ Q)
    | _ => False
  | .block id c, s, Q => codeZ c s fun e s' => match e with
    | .exit i => match Nat.beq i id with
      | true => Q .normal s'
      | false => Q (.exit i) s'
    | e => Q e s'
  | .loop c, s, Q => LoopZ P n m rd c s Q
  | .rangeFunc g ps a b, s, Q => RangeZ P n m rd g ps a b s Q
  | .exit id, s, Q => Q (.exit id) s
  | .ret, s, Q => Q .ret s
  | .label _, s, Q => Q .normal s
  | _, _, _ => False
end
section
variable {P : Program} {T : Tab} {W : Wo} {n m : Nat} {rd : Option Nat}
theorem rd_next {I I' : IM} {r : Option Nat} (hrd : ∀ j, rd = some j → j < m) (h : Y.RdOk I rd r) (h4 : ∀ j, j < m → I' j = I j) : Y.RdOk I' rd r := by
  cases rd with
  | none => exact h
  | some j => obtain ⟨p, h1, h2⟩ := h; exact ⟨p, (h4 j (hrd j rfl)).trans h1, h2⟩
theorem nextP.of {I I1 : IM} {R R1 : RM} {A : S → Prop} {a' : Act} {w' : World} (h : nextP W n m I1 R1 A a' w') (hI : ∀ j, j < m → I1 j = I j) (hR : RExt R R1) : nextP W n m I R A a' w' := by
  obtain ⟨s', I', R', h1, h2, h3, h4, h5, h6⟩ := h
  exact ⟨s', I', R', h1, h2, h3, fun j hj => (h4 j hj).trans (hI j hj), hR.trans h5, h6⟩
theorem onE_spec {dst : Option Tmp} {F : Fr} {K : Kr} {top : Nat} {k : S → Prop} {e : Wx.Eff} (h : onE dst F K top k e) : top ≤ e.top ∧ k ⟨Wx.put F dst e.av, upk e.kw ++ K, e.top⟩ := by
  obtain ⟨av, rd, kw, top'⟩ := e
  unfold onE at h
  simp only at h
  split at h
  · rename_i hb
    refine ⟨by simpa [Nat.ble_eq] using hb, ?_⟩
    split at h <;> exact h
  · exact h.elim
theorem onZ_spec {dst : Option Tmp} {F : Fr} {K : Kr} {top : Nat} {k : S → Prop} {e : Eff} (h : onZ dst F K top k e) : top ≤ e.top ∧ k ⟨Wx.put F dst e.av, e.kw ++ K, e.top⟩ := by
  obtain ⟨av, rd, kw, top'⟩ := e
  unfold onZ at h
  simp only at h
  split at h
  · rename_i hb
    refine ⟨by simpa [Nat.ble_eq] using hb, ?_⟩
    split at h <;> exact h
  · exact h.elim
theorem stepZ_sound (hT : TabOk P T) {o : Oper} {s : S} {k : S → Prop} (h : stepZ P T n m o s k) {r : Option Nat} {I : IM} {R : RM} {a : Act} {w : World} (hs : Y.St n W (get s.F) (ky s.K) I R a w) (hd : ∀ j, s.top ≤ j → I j = none) (hm : m ≤ s.top)
    {next : Act → World → Prop} {Q : Exit → Act → World → Prop} (hn : ∀ a' w', nextP W n m I R k a' w' → next a' w') : o.wpIn (Y.fr r) 0 P a w next Q := by
  obtain ⟨dst, op, ty, pos, after, guard⟩ := o
  obtain ⟨F, K, top⟩ := s
  have hm : m ≤ top := hm
  have hd : ∀ j, top ≤ j → I j = none := hd
  have hs : Y.St n W (get F) (ky K) I R a w := hs
  unfold stepZ at h
  simp only at h
  split at h
  · rename_i hdst
    split at h
    · rename_i f xs hc
      unfold callOf at hc
      split at hc
      · rename_i f' xs' ts
        simp only [Option.some.injEq, Prod.mk.injEq] at hc
        obtain ⟨rfl, rfl⟩ := hc
        split at h
        · rename_i c avs hf hxs
          refine Y.upsx_op (h.run (Y.mkW W a.defers w) I R w _ _ (hs.wz.mk' hs.mks) hd hm (hs.evs hxs) (hs.ev hf)) ?_
          rintro e w' ⟨v, x, K', top', I', R', rfl, hw', hd', ht, hI, hR, hx, hk⟩
          obtain ⟨g1, g2⟩ := hs.wz.un hs.mks hw'
          have hk' : k ⟨Wx.put F dst x, K', top'⟩ := by cases dst <;> exact hk
          refine ⟨v, rfl, hn _ _ ⟨⟨Wx.put F dst x, K', top'⟩, I', R', ?_, hd', Nat.le_trans hm ht, fun j hj => hI j (Nat.lt_of_lt_of_le hj hm), hR, hk'⟩⟩
          simp only
          rw [get_put]
          exact hs.put (Y.ext_of hd hI) hR g1 g2 hdst hx
        · exact h.elim
      · cases hc
    · split at h
      · exact h.elim
      · rename_i hnd
        split at h
        · obtain ⟨e, he, hk0⟩ := opMZ_sound hT h
          obtain ⟨htop, hk⟩ := onZ_spec hk0
          refine he r n W _ _ I R a w hs (fun _ _ => rfl) (fun _ _ => rfl) (fun j h1 h2 => ⟨hd j h1, ?_⟩) hdst next Q ?_
          · cases hq : ky K j with
            | none => rfl
            | some b => obtain ⟨p, hp⟩ := hs.dom hq; rw [hd j h1] at hp; cases hp
          · intro I' R' a' w' hs' hI hfree hR
            simp only [Eff.y] at hfree hs'
            refine hn _ _ ⟨_, I', R', ?_, fun j hj => ?_, Nat.le_trans hm htop, fun j hj => hfree j (by omega), hR, hk⟩
            · simp only
              rw [get_put, ky_append]; exact hs'
            · simp only at hj
              rw [hfree j (by omega)]; exact hd j (by omega)
        · rename_i it hmm hit
          split at h
          · rename_i j d hev
            split at h
            · rename_i x hj
              split at h
              · rename_i es hes
                obtain ⟨h1, h2, h3, h4⟩ := h.h
                have hop : op = .next it false := by
                  unfold nextOf at hit
                  split at hit
                  · cases hit; rfl
                  · cases hit
                subst hop
                refine Y.step_next it rfl hs hev (ky_i hj) (ky_m hes) hdst h1 h2 (fun hz a' w' hs' => hn _ _ ⟨_, I, R, ?_, hd, hm, fun _ _ => rfl, .refl _, h3 hz⟩) fun e he hns a' w' hs' => hn _ _ ⟨_, I, R, ?_, hd, hm, fun _ _ => rfl, .refl _, h4 e he hns⟩
                · have := get_put F (some d) (.tup [.one (.v (.bool false))])
                  simp only [Wx.put] at this
                  rw [this]; exact hs'
                · have := get_put F (some d) (.tup [.one (.v (.bool true)), .one (.v e.1), e.2.2])
                  simp only [Wx.put] at this
                  simp only
                  rw [this, ky_cons]; exact hs'
              · exact h.elim
            · exact h.elim
          · exact h.elim
        · rename_i hmm hnx
          obtain ⟨e, he, hk0⟩ := opA_sound hT h
          obtain ⟨htop, hk⟩ := onE_spec hk0
          rw [← kb_eq K] at he
          have hop := Y.lift_op (fun c hc => hnd c hc) he
          refine hop r n W _ _ I R a w hs (fun _ _ => rfl) (fun _ _ => rfl) (fun j h1 h2 => ⟨hd j h1, ?_⟩) hdst next Q ?_
          · cases hq : ky K j with
            | none => rfl
            | some b => obtain ⟨p, hp⟩ := hs.dom hq; rw [hd j h1] at hp; cases hp
          · intro I' R' a' w' hs' hI hfree hR
            simp only at hfree hs'
            refine hn _ _ ⟨_, I', R', ?_, fun j hj => ?_, Nat.le_trans hm htop, fun j hj => hfree j (by omega), hR, hk⟩
            · simp only
              rw [get_put, ky_up]; exact hs'
            · simp only at hj
              rw [hfree j (by omega)]; exact hd j (by omega)
  · exact h.elim
theorem St.lit {F : Fr} {K : Nat → Option Y.Ob} {I : IM} {R : RM} {a : Act} {w : World} (h : Y.St n W (get F) K I R a w) {t : Nat} {x : AV} (hx : get F t = some x) : Y.St n W (get ((t, x) :: F)) K I R a w := by
  rw [get_lit hx]; exact h
theorem St.undef {F : Fr} {K : Nat → Option Y.Ob} {I : IM} {R : RM} {a : Act} {w : World} (h : Y.St n W (get F) K I R a w) {d : Option Nat} (hd : dstB n d = true) : Y.St n W (get (Wx.put F d (.val undef))) K I R (a.put d undef) w := by
  rw [get_put]
  exact h.put (.refl _) (.refl _) h.wz h.mks hd rfl
theorem wanted_guard {ops : Array Oper} {F : Fr} {K : Nat → Option Y.Ob} {I : IM} {R : RM} {a : Act} {w : World} {o : Oper} {g t : Nat} {want b : Bool} (hg : o.guard = some (g, want)) (hd : (ops[g]?).bind (·.dst) = some t) (ht : get F t = some (.val (.bool b))) (hs : Y.St n W (get F) K I R a w) :
    Region.wanted o (yielded ops a.tmps) = (b == want) := by
  have hv : a.eval (.tmp t) = .bool b := hs.fr t _ ht
  have hv' : a.tmps.getD t undef = .bool b := hv
  simp only [Array.getD_eq_getD_getElem?] at hv'
  have h3 : a.tmps[t]? = some (.bool b) := by
    cases hq : a.tmps[t]? with
    | none => rw [hq] at hv'; cases hv'
    | some z => rw [hq] at hv'; simp only [Option.getD_some] at hv'; rw [hv']
  simp [Region.wanted, hg, yielded, hd, h3]
theorem unwanted_guard {ops : Array Oper} {F : Fr} {K : Nat → Option Y.Ob} {I : IM} {R : RM} {a : Act} {w : World} {o : Oper} {g t : Nat} {want : Bool} {l : Array Value} (hg : o.guard = some (g, want)) (hd : (ops[g]?).bind (·.dst) = some t) (ht : get F t = some (.val (.tuple l))) (hs : Y.St n W (get F) K I R a w) :
    Region.wanted o (yielded ops a.tmps) = false := by
  have hv : a.eval (.tmp t) = .tuple l := hs.fr t _ ht
  have hv' : a.tmps.getD t undef = .tuple l := hv
  simp only [Array.getD_eq_getD_getElem?] at hv'
  cases hq : a.tmps[t]? with
  | none => simp [Region.wanted, hg, yielded, hd, hq]
  | some z =>
    rw [hq] at hv'
    simp only [Option.getD_some] at hv'
    subst hv'
    simp [Region.wanted, hg, yielded, hd, hq]
theorem runZ_sound (hT : TabOk P T) (ops : Array Oper) {k : S → Prop} {r0 : Option Nat} : ∀ (l : List Oper) (s : S), runZ P T n m ops l s k → ∀ I R a w, Y.St n W (get s.F) (ky s.K) I R a w → (∀ j, s.top ≤ j → I j = none) → m ≤ s.top →
    ∀ Q : Exit → Act → World → Prop, (∀ a' w', nextP W n m I R k a' w' → Q .normal a' w') → wpListIn (Y.fr r0) 0 P ops Q l a w
  | [], s, h, I, R, a, w, hs, hd, hm, Q, hn => hn a w ⟨s, I, R, hs, hd, hm, fun _ _ => rfl, .refl _, h⟩
  | o :: r, s, h, I, R, a, w, hs, hd, hm, Q, hn => by
    have step : ∀ (o' : Oper) (s1 : S), Region.wanted o' (yielded ops a.tmps) = true → stepZ P T n m { o' with guard := none } s1 (fun s' => runZ P T n m ops r s' k) → Y.St n W (get s1.F) (ky s1.K) I R a w → s1.top = s.top → wpListIn (Y.fr r0) 0 P ops Q (o' :: r) a w := by
      intro o' s1 hwant h1 hs1 ht
      unfold wpListIn
      rw [if_pos hwant]
      have := stepZ_sound (r := r0) hT h1 hs1 (by rw [ht]; exact hd) (by rw [ht]; exact hm) (next := wpListIn (Y.fr r0) 0 P ops Q r) (Q := Q) (by
        rintro a' w' ⟨s', I', R', g1, g2, g3, g4, g5, g6⟩
        exact runZ_sound hT ops r s' g6 I' R' a' w' g1 g2 g3 Q fun a2 w2 hx => hn a2 w2 (hx.of g4 g5))
      exact this
    obtain ⟨dst, op, ty, pos, after, guard⟩ := o
    obtain ⟨F, K, top⟩ := s
    have hs : Y.St n W (get F) (ky K) I R a w := hs
    unfold runZ at h
    split at h
    · exact step ⟨dst, op, ty, pos, after, none⟩ ⟨F, K, top⟩ (by simp [Region.wanted]) h hs rfl
    · rename_i g want
      split at h
      · rename_i t hdst hgd
        split at h
        · rename_i b ht
          have hw := wanted_guard (o := ⟨dst, op, ty, pos, after, some (g, want)⟩) rfl hgd ht hs
          have pass : ∀ F1 : Fr, (b == want) = false → runZ P T n m ops r ⟨F1, K, top⟩ k → Y.St n W (get F1) (ky K) I R (a.put dst undef) w → wpListIn (Y.fr r0) 0 P ops Q (⟨dst, op, ty, pos, after, some (g, want)⟩ :: r) a w := by
            intro F1 hb h1 hs1
            unfold wpListIn
            rw [if_neg (by rw [hw, hb]; simp)]
            exact ⟨fun _ _ => trivial, runZ_sound hT ops r ⟨F1, K, top⟩ h1 I R _ w hs1 hd hm Q hn⟩
          have hu : ∀ x : AV, get F t = some x → Y.St n W (get (Wx.put ((t, x) :: F) dst (.val undef))) (ky K) I R (a.put dst undef) w := fun x hx => St.undef (St.lit hs hx) hdst
          split at h
          · cases b with
            | true => exact step ⟨_, op, ty, pos, after, some (g, true)⟩ ⟨_, K, top⟩ (by rw [hw]; rfl) (h.t rfl) (St.lit hs ht) rfl
            | false => exact pass _ rfl (h.f rfl) (hu _ ht)
          · cases b with
            | true => exact pass _ rfl (h.t rfl) (hu _ ht)
            | false => exact step ⟨_, op, ty, pos, after, some (g, false)⟩ ⟨_, K, top⟩ (by rw [hw]; rfl) (h.f rfl) (St.lit hs ht) rfl
          · cases b with
            | true => exact step ⟨_, op, ty, pos, after, some (g, true)⟩ ⟨_, K, top⟩ (by rw [hw]; rfl) (h.t rfl) (St.lit hs ht) rfl
            | false => exact pass _ rfl (h.f rfl) (hu _ ht)
          · cases b with
            | true => exact pass _ rfl (h.t rfl) (hu _ ht)
            | false => exact step ⟨_, op, ty, pos, after, some (g, false)⟩ ⟨_, K, top⟩ (by rw [hw]; rfl) (h.f rfl) (St.lit hs ht) rfl
        · rename_i l ht
          have hw := unwanted_guard (o := ⟨dst, op, ty, pos, after, some (g, want)⟩) rfl hgd ht hs
          have h' : runZ P T n m ops r ⟨Wx.put F dst (.val undef), K, top⟩ k := by cases dst <;> exact h
          unfold wpListIn
          rw [if_neg (by rw [hw]; simp)]
          exact ⟨fun _ _ => trivial, runZ_sound hT ops r _ h' I R _ w (St.undef hs hdst) hd hm Q hn⟩
        · exact h.elim
      · exact h.elim
theorem codeZ_sound (hT : TabOk P T) (hrd : ∀ j, rd = some j → j < m) : ∀ (c : Code) (s : S) (Q : Exit → S → Prop), codeZ P T n m rd c s Q → Tr P n m rd c s Q
  | .skip, s, Q, h => fun W r I R a w hr hs hd hm => wpIn_skip ⟨s, I, R, hs, hd, hm, fun _ _ => rfl, .refl _, h⟩
  | .region id ops draw, s, Q, h => by
    unfold codeZ at h
    cases draw with
    | false =>
      simp only at h
      intro W r I R a w hr hs hd hm
      exact wpIn_region_list (runZ_sound hT ops _ s h I R a w hs hd hm _ fun a' w' hx => hx)
    | true =>
      simp only at h
      intro W r I R a w hr hs hd hm
      refine wpIn_mono (h.h rd W r I R a w hr hs hd hm) ?_
      rintro e a' w' ⟨s', I', R', h1, h2, h3, h4, h5, h6⟩
      cases e <;> first | exact ⟨s', I', R', h1, h2, h3, h4, h5, h6⟩ | exact h6.elim
  | .seq x y, s, Q, h => fun W r I R a w hr hs hd hm => by
    unfold codeZ at h
    refine wpIn_seq (wpIn_mono (codeZ_sound hT hrd x s _ h W r I R a w hr hs hd hm) ?_)
    rintro e a' w' ⟨s', I', R', h1, h2, h3, h4, h5, h6⟩
    cases e with
    | normal =>
      refine wpIn_mono (codeZ_sound hT hrd y s' Q h6 W r I' R' a' w' (rd_next hrd hr h4) h1 h2 h3) ?_
      intro e2 a2 w2 hx
      exact nextP.of hx h4 h5
    | _ => exact ⟨s', I', R', h1, h2, h3, h4, h5, h6⟩
  | .cond c x y, ⟨F, K, top⟩, Q, h => fun W r I R a w hr hs hd hm => by
    unfold codeZ at h
    split at h
    · rename_i b hb
      have hv : a.eval c = .bool b := hs.ev hb
      exact wpIn_cond_split hv (fun ht => codeZ_sound hT hrd x ⟨F, K, top⟩ Q (h.t ht) W r I R a w hr hs hd hm) (fun ht => codeZ_sound hT hrd y ⟨F, K, top⟩ Q (h.f ht) W r I R a w hr hs hd hm)
    · exact h.elim
  | .block id c, s, Q, h => fun W r I R a w hr hs hd hm => by
    unfold codeZ at h
    refine wpIn_block (wpIn_mono (codeZ_sound hT hrd c s _ h W r I R a w hr hs hd hm) ?_)
    rintro e a' w' ⟨s', I', R', h1, h2, h3, h4, h5, h6⟩
    cases e with
    | exit i =>
      simp only at h6
      simp only [Exit.inBlock]
      split at h6
      · rename_i hb; rw [if_pos (Nat.eq_of_beq_eq_true hb)]; exact ⟨s', I', R', h1, h2, h3, h4, h5, h6⟩
      · rename_i hb; rw [if_neg (Nat.ne_of_beq_eq_false hb)]; exact ⟨s', I', R', h1, h2, h3, h4, h5, h6⟩
    | _ => exact ⟨s', I', R', h1, h2, h3, h4, h5, h6⟩
  | .loop c, s, Q, h => by unfold codeZ at h; exact h.h hrd
  | .rangeFunc g ps a b, s, Q, h => by unfold codeZ at h; exact h.h hrd
  | .exit id, s, Q, h => fun W r I R a w hr hs hd hm => wpIn_exit ⟨s, I, R, hs, hd, hm, fun _ _ => rfl, .refl _, h⟩
  | .ret, s, Q, h => fun W r I R a w hr hs hd hm => wpIn_ret ⟨s, I, R, hs, hd, hm, fun _ _ => rfl, .refl _, h⟩
  | .label l, s, Q, h => fun W r I R a w hr hs hd hm => wpIn_label ⟨s, I, R, hs, hd, hm, fun _ _ => rfl, .refl _, h⟩
  | .scope _, s, Q, h => by unfold codeZ at h; exact h.elim
  | .goto _, s, Q, h => by unfold codeZ at h; exact h.elim
  | .refuse _, s, Q, h => by unfold codeZ at h; exact h.elim
end
end Go.Proofs.Ytllnmdmmmkoiaaa.Wx.Z
