/-
  The second layer, walked: rounds, loops over functions, regions that draw their order.
-/
import Derived.Test.YtllnmdmmmkoiaaaWza
namespace Go.Proofs.Ytllnmdmmmkoiaaa.Wx.Z
open Go Go.RowKit
set_option linter.unusedVariables false

/-! ### Rounds -/
def putF (n : Nat) : Fr → List Tmp → List AV → Option Fr
  | F, [], [] => some F
  | F, t :: ts, x :: xs => match Nat.blt t n with
    | true => putF n ((t, x) :: F) ts xs
    | false => none
  | _, _, _ => none
theorem putF_sound {n : Nat} {I : IM} {R : RM} : ∀ (ts : List Tmp) (avs : List AV) (vs : List Value) (F F' : Fr) (tm : Array Value), putF n F ts avs = some F' → tm.size = n → (∀ t y, get F t = some y → y.rel I R (tm.getD t undef)) → All2 (AV.rel I R) avs vs →
    ts.length = vs.length ∧ ((ts.zip vs).foldl (fun tmps (p : Tmp × Value) => tmps.setIfInBounds p.1 p.2) tm).size = n ∧ ∀ t y, get F' t = some y → y.rel I R (((ts.zip vs).foldl (fun tmps (p : Tmp × Value) => tmps.setIfInBounds p.1 p.2) tm).getD t undef)
  | [], [], [], F, F', tm, h, hn, hf, _ => by
    simp only [putF, Option.some.injEq] at h
    subst h
    exact ⟨rfl, hn, hf⟩
  | [], [], _ :: _, _, _, _, _, _, _, hv => hv.elim
  | [], _ :: _, _, F, F', tm, h, _, _, _ => by simp [putF] at h
  | _ :: _, [], _, F, F', tm, h, _, _, _ => by simp [putF] at h
  | _ :: _, _ :: _, [], F, F', tm, _, _, _, hv => hv.elim
  | t :: ts, x :: avs, v :: vs, F, F', tm, h, hn, hf, hv => by
    unfold putF at h
    split at h
    · rename_i h1
      have h1' : @LT.lt Nat _ t n := by simpa [Nat.blt_eq] using h1
      obtain ⟨g1, g2, g3⟩ := putF_sound (n := n) (I := I) (R := R) ts avs vs _ F' (tm.setIfInBounds t v) h (by simpa using hn) (fun u y hy => by
        have := get_put F (some t) x
        simp only [Wx.put] at this
        rw [this] at hy
        simp only [fput] at hy
        simp only [Array.getD_eq_getD_getElem?]
        split at hy
        · rename_i he
          subst he
          simp only [Option.some.injEq] at hy
          subst hy
          rw [Array.getElem?_setIfInBounds_self_of_lt (by omega)]
          exact hv.1
        · rename_i he
          rw [Array.getElem?_setIfInBounds_ne (fun e => he e.symm)]
          have := hf u y hy
          simpa [Array.getD_eq_getD_getElem?] using this) hv.2
      exact ⟨by simp [g1], g2, g3⟩
    · cases h
section
variable {P : Program} {T : Tab} {n m : Nat} {rd : Option Nat}
theorem yield_rule {j : Nat} {avs : List AV} {K : Kr} {top : Nat} {k : AV → Kr → Nat → Prop} (hT : TabOk P T) (lb : LB) (F0 : Fr) (hlb : kz K j = some (.l lb)) (hst : lb.st = .ready) (hok : frOk lb.F = true) (hF0 : putF lb.n lb.F lb.ps.toList avs = some F0)
    (h : codeZ P T lb.n top (some j) lb.assign ⟨F0, K, top⟩ fun e s1 => match e with
      | .normal => match s1 with
        | ⟨F1, K1, t1⟩ => match kz K1 j with
          | some (.l ⟨n1, G1, ps1, as1, bd1, st1⟩) => match st1 with
            | .ready => codeZ P T lb.n top (some j) lb.body ⟨F1, (j, some (.l ⟨n1, G1, ps1, as1, bd1, .busy⟩)) :: K1, t1⟩ fun e s2 => match s2 with
              | ⟨F2, K2, t2⟩ => match kz K2 j with
                | some (.l ⟨n2, G2, ps2, as2, bd2, _⟩) => match e with
                  | .normal => k (.val (.bool true)) ((j, some (.l ⟨n2, G2, ps2, as2, bd2, .ready⟩)) :: K2) t2
                  | .ret => k (.val (.bool false)) ((j, some (.l ⟨n2, G2, ps2, as2, bd2, .done .ret⟩)) :: K2) t2
                  | .exit id => k (.val (.bool false)) ((j, some (.l ⟨n2, G2, ps2, as2, bd2, .done (.exit id)⟩)) :: K2) t2
                  | _ => False
                | _ => False
            | _ => False
          | _ => False
      | _ => False) : CallZ P m (.yl j) avs K top k := by
  refine ⟨fun W I R w v vs hw hd hm hvs hv => ?_⟩
  obtain ⟨p, hp, rfl⟩ : ∃ p, I j = some p ∧ v = .func (.yield p.b) #[] #[] := hv
  have hlt : j < top := by
    rcases Nat.lt_or_ge j top with h1 | h1
    · exact h1
    · rw [hd j h1] at hp; cases hp
  have hrd : ∀ i, some j = some i → i < top := fun i hi => by cases hi; exact hlt
  obtain ⟨rc, r1, r2, r3, r4, r5, r6, r7⟩ := Y.loop_at hw (ky_of hlb) hp
  simp only [LB.y] at r2 r3 r4 r5 r6 r7
  rw [btOf_get hok] at r7
  obtain ⟨g1, g2, g3⟩ := putF_sound _ _ _ _ _ _ hF0 r5 r7 hvs
  refine .inl (.inr ⟨p.b, rc.fn, _, rc.assign, rc.body, rfl, run_yield r1 (by rw [r2]; simpa using g1.symm), roundIn_of_wpIn trivial ?_⟩)
  have hfold : (rc.params.zip vs.toArray).foldl (fun tmps (x : Tmp × Value) => match x with | (t, a) => tmps.setIfInBounds t a) rc.tmps = (lb.ps.toList.zip vs).foldl (fun tmps (p : Tmp × Value) => tmps.setIfInBounds p.1 p.2) rc.tmps := by
    rw [r2, ← Array.foldl_toList]
    simp
  rw [hfold, r3, r4]
  refine wpIn_mono (codeZ_sound hT hrd _ _ _ h W (some p.b) I R _ w ⟨p, hp, rfl⟩ ⟨g2, trivial, g3, hw⟩ hd (Nat.le_refl _)) ?_
  rintro e1 x1 w1 ⟨⟨F1, K1, t1⟩, I1, R1, k1, k2, k3, k4, k5, k6⟩
  have k1 : Y.St lb.n W (get F1) (ky K1) I1 R1 x1 w1 := k1
  have k2 : ∀ j, t1 ≤ j → I1 j = none := k2
  have k3 : top ≤ t1 := k3
  have hI1 : ∀ i, i < top → I1 i = I i := k4
  cases e1 with
  | normal =>
    simp only at k6
    split at k6
    rotate_left
    · exact k6.elim
    rename_i n1 G1 ps1 as1 bd1 st1 hlb1
    split at k6
    rotate_left
    · exact k6.elim
    have hp1 : I1 j = some p := (k4 j hlt).trans hp
    obtain ⟨rc1, q1, q2, q3, q4, q5, q6, q7⟩ := Y.loop_at k1.wz (ky_of hlb1) hp1
    simp only [LB.y] at q2 q3 q4 q5 q6 q7
    refine ⟨_, run_beginRound q1 q6.1, ?_⟩
    have hw2 := Y.loop_set k1.wz (ky_of hlb1) hp1 q1 .busy .busy rc1.pending rfl
    have hst2 : Y.St lb.n W (get F1) (ky ((j, some (.l ⟨n1, G1, ps1, as1, bd1, .busy⟩)) :: K1)) I1 R1 x1 (w1.putObj p.b (.loop { rc1 with state := .busy })) := ⟨k1.size, Y.mk_put q1 k1.mks, k1.fr, by rw [ky_cons]; exact hw2⟩
    refine wpIn_mono (codeZ_sound hT hrd _ _ _ k6 W (some p.b) I1 R1 x1 _ ⟨p, hp1, rfl⟩ hst2 k2 k3) ?_
    rintro e2 x2 w2 ⟨⟨F2, K2, t2⟩, I2, R2, m1, m2, m3, m4, m5, m6⟩
    have m1 : Y.St lb.n W (get F2) (ky K2) I2 R2 x2 w2 := m1
    have hp2 : I2 j = some p := (m4 j hlt).trans hp1
    simp only at m6
    split at m6
    rotate_left
    · exact m6.elim
    rename_i n2 G2 ps2 as2 bd2 st2 hlb2
    obtain ⟨rc2, n1, _⟩ := Y.loop_at m1.wz (ky_of hlb2) hp2
    have fin : ∀ (c : Option Code) (stt : Y.LS), (∀ rc : Loop, Y.recOk stt { rc with state := if c.isNone then .ready else .done, pending := c }) → (∀ (l : Nat) (Q : Ending → World → Prop) (a : Act) (w : World), (∃ v w', (Instr.endRound l c).run P w = .ok v w' ∧ Q (.returned v) w') → roundPost P l Q e2 a w) →
        k (.val (.bool c.isNone)) ((j, some (.l ⟨n2, G2, ps2, as2, bd2, stt⟩)) :: K2) t2 → roundPost P p.b (fun e w' => ∃ u x K' top' I' R', e = .returned u ∧ Y.Wz W (ky K') I' R' w' ∧ (∀ j, top' ≤ j → I' j = none) ∧ top ≤ top' ∧ (∀ j, j < top → I' j = I j) ∧ RExt R R' ∧ x.rel I' R' u ∧ k x K' top') e2 x2 w2 := by
      intro c stt hrec hpost hk
      refine hpost _ _ _ _ ⟨_, _, run_endRound c n1, .bool c.isNone, .val (.bool c.isNone), _, t2, I2, R2, rfl, ?_, m2, m3, fun i hi => (m4 i hi).trans (k4 i hi), k5.trans m5, rfl, hk⟩
      rw [ky_cons]
      exact Y.loop_set m1.wz (ky_of hlb2) hp2 n1 stt _ c (hrec rc2)
    cases e2 with
    | normal => exact fin none .ready (fun _ => ⟨rfl, rfl⟩) (fun _ _ _ _ h => h) m6
    | ret => exact fin (some .ret) (.done .ret) (fun _ => ⟨rfl, .ret, rfl, rfl⟩) (fun _ _ _ _ h => h) m6
    | exit id => exact fin (some (.exit id)) (.done (.exit id)) (fun _ => ⟨rfl, .exit id, rfl, rfl⟩) (fun _ _ _ _ h => h) m6
    | _ => exact m6.elim
  | _ => exact k6.elim

/-! ### Loops over functions -/
def subFz (F : Fr) : Fr → Prop
  | [] => True
  | (t, x) :: G => get F t = some x ∧ subFz F G
theorem subFz.get {F : Fr} : ∀ {G : Fr} {t : Nat} {x : AV}, subFz F G → Wx.get G t = some x → Wx.get F t = some x
  | [], t, x, _, h => by simp [Wx.get] at h
  | (k, y) :: G, t, x, hs, h => by
    simp only [Wx.get] at h
    cases hb : Nat.beq k t with
    | true =>
      simp only [hb, Option.some.injEq] at h
      subst h
      rw [← Nat.eq_of_beq_eq_true hb]
      exact hs.1
    | false =>
      simp only [hb] at h
      exact subFz.get hs.2 h
def rdIn (K : Kr) : Option Nat → Bool
  | none => true
  | some j => match kz K j with
    | some (.l _) => true
    | _ => false
/-- What is behind the function that was ranged over. -/
def rangeQ (s : S) (Q : Exit → S → Prop) (K' : Kr) (top' : Nat) : Prop :=
  match s with
  | ⟨F, K, top⟩ => match kz K' top with
    | some (.l ⟨_, _, _, _, _, st⟩) => match st with
      | .ready => Q .normal ⟨F, (top, none) :: K', top'⟩
      | .done e => match e with
        | .ret => Q .ret ⟨F, (top, none) :: K', top'⟩
        | .exit id => Q (.exit id) ⟨F, (top, none) :: K', top'⟩
        | _ => False
      | _ => False
    | _ => False
structure rngN (A : Prop) : Prop where
  h : A
theorem range_rule0 {g : Operand} {ps : Array Tmp} {assign body : Code} {s : S} {Q : Exit → S → Prop} {f : FuncId} {cap : List Pt} (F0 : Fr) (hg : evf (get s.F) g = some (.c (.fn f cap))) (hsub : subFz s.F F0) (hok : frOk F0 = true) (hin : rdIn s.K rd = true)
    (h : CallZ P m (.fn f cap) [.pl (.one (.yl s.top))] ((s.top, some (.l ⟨n, F0, ps, assign, body, .ready⟩)) :: s.K) (s.top + 1) fun _ K' top' => rangeQ s Q K' top') : RangeZ P n m rd g ps assign body s Q := by
  refine ⟨fun hrd W r I R a w hr hs hd hm => wpIn_rangeFunc fun fn _ => ?_⟩
  have hKn : ky s.K s.top = none := by
    cases hq : ky s.K s.top with
    | none => rfl
    | some o => obtain ⟨p, hp⟩ := hs.dom hq; rw [hd s.top (Nat.le_refl _)] at hp; cases hp
  have hI0 := hd s.top (Nat.le_refl _)
  have lok : ∀ (W1 : World) (dd : Nat), Y.LoopOk (Wx.ext I s.top ⟨W1.heap.size, 0, 0⟩) R (LB.y ⟨n, F0, ps, assign, body, .ready⟩) ⟨W1.heap.size, 0, 0⟩ (W1.alloc (.loop { state := .ready, pending := none, fn, tmps := a.tmps, params := ps, assign, body, defers := dd })) := fun W1 dd => ⟨_, World.alloc_heap_new _ _, rfl, rfl, rfl, hs.size, ⟨rfl, rfl⟩, fun t y hy => AV.mono (.ext hI0) (.refl _) (hs.fr t y (hsub.get (btOf_sub hy)))⟩
  have core : ∀ (l : Nat) (mark : List Deferred) (w1 : World), (Instr.enterLoop fn a.tmps ps assign body r).run P w = .ok (l, mark) w1 →
      Y.Wz W (Y.upd (ky s.K) s.top (some (.l (LB.y ⟨n, F0, ps, assign, body, .ready⟩)))) (Wx.ext I s.top ⟨l, 0, 0⟩) R w1 → Y.Mk W (mark ++ a.defers) w1 →
      ∃ (l : Nat) (mark : List Deferred) (w₁ : World) (d : Deferred) (w₁' : World) (f : FuncId) (args : Array Value) (w₂ : World),
      (Instr.enterLoop fn a.tmps ps assign body (Y.fr r).round).run P w = .ok (l, mark) w₁ ∧
      (resolve a.eval (rangeCall g l) 0).run P w₁ = .ok d w₁' ∧
      (∀ f', Target.leads P w₁' d.target d.args = some f' → (Y.fr r).fn f') ∧
      (invoke d.target d.args).run P w₁' = .ok (.enter f args) w₂ ∧
      ((Y.fr r).depth.isSome = true → 1 ≤ 0) ∧
      CallsIn (Y.fr r) (0 - 1) P f args w₂ (rangePost (Y.fr r) 0 P l (fun e a' w' => nextP W n m I R (Q e) a' w') { a with defers := mark ++ a.defers }) := by
    intro l mark w1 hen hz1 hm1
    obtain ⟨us, hus, hfu⟩ : ∃ vs, All2 (Pt.rel I) cap vs ∧ a.eval g = .func (.func f) #[] vs.toArray := hs.ev hg
    have hIe : IExt I (Wx.ext I s.top ⟨l, 0, 0⟩) := .ext hI0
    have hd1 : ∀ j, s.top + 1 ≤ j → (Wx.ext I s.top ⟨l, 0, 0⟩) j = none := fun j hj => by
      unfold Wx.ext; rw [if_neg (by omega)]; exact hd j (by omega)
    have hyl : (AV.pl (.one (.yl s.top))).rel (Wx.ext I s.top ⟨l, 0, 0⟩) R (.func (.yield l) #[] #[]) := ⟨⟨l, 0, 0⟩, by simp [Wx.ext], rfl⟩
    have hz2 : Y.Wz (Y.mkW W (mark ++ a.defers) w1) (ky ((s.top, some (.l ⟨n, F0, ps, assign, body, .ready⟩)) :: s.K)) (Wx.ext I s.top ⟨l, 0, 0⟩) R w1 := by
      rw [ky_cons]; exact hz1.mk' hm1
    have hcall := h.run (Y.mkW W (mark ++ a.defers) w1) _ R w1 (.func (.func f) #[] us.toArray) [.func (.yield l) #[] #[]] hz2 hd1 (by omega) ⟨hyl, trivial⟩ ⟨us, hus.mono fun _ _ h => Pt.mono hIe h, rfl⟩
    obtain ⟨g', fs', us', hv, hb, hcalls⟩ := (hcall.resolve_right (fun ⟨_, _, _, _, _, _, _, _, _, hargs, _⟩ => by simp at hargs)).resolve_right (fun ⟨_, _, _, _, _, hv, _⟩ => by cases hv)
    simp only [Value.func.injEq, Fn.func.injEq] at hv
    obtain ⟨rfl, rfl, rfl⟩ := hv
    rw [Array.empty_append] at hcalls
    refine ⟨l, mark, w1, ⟨.fn (.func f) us.toArray, #[.func (.yield l) #[] #[]]⟩, w1, f, #[.func (.yield l) #[] #[]] ++ us.toArray, w1, ?_, ?_, ?_, ?_, ?_, ?_⟩
    · rw [show (Y.fr r).round = r from rfl]; exact hen
    · simp [resolve, hfu, Deferred.ofValue, show ∀ v, a.eval (.const v) = v from fun _ => rfl]
    · exact fun _ _ => trivial
    · simp [invoke, fnB_call hb]
    · exact fun hh => (by cases hh)
    refine Y.calls_fr (Calls.mono hcalls ?_)
    rintro e' w3 ⟨u, x, K', top', I', R', rfl, hw3, hd3, ht3, ho3, hR3, _, hq⟩
    have hw3' : Y.Wz (Y.mkW W (mark ++ a.defers) w1) (ky K') I' R' w3 := hw3
    obtain ⟨g1, g2⟩ := hz1.un hm1 hw3'
    have hI' : IExt I I' := hIe.trans (Y.ext_of hd1 ho3)
    obtain ⟨F, K, top⟩ := s
    have hs : Y.St n W (get F) (ky K) I R a w := hs
    have hm : m ≤ top := hm
    have ht3 : top + 1 ≤ top' := ht3
    simp only at hd1 ho3 hI0 hd
    have hfin : ∀ (lb : LB) (e : Exit), kz K' top = some (.l lb) → Q e ⟨F, (top, none) :: K', top'⟩ → ∃ rc, (w3.heap[l]? = some (.loop rc) ∧ Y.recOk lb.st rc) ∧ nextP W n m I R (Q e) { a with defers := mark ++ a.defers } (w3.putObj l (.loop { rc with state := .exhausted })) := by
      intro lb e hlb hQ
      obtain ⟨p, rc, p1, p2, p3, p4⟩ := Y.range_end g1 (ky_of hlb)
      have hpl : p.b = l := by
        have : I' top = some ⟨l, 0, 0⟩ := (ho3 top (by omega)).trans (by simp [Wx.ext])
        rw [p1] at this; cases this; rfl
      refine ⟨rc, ⟨hpl ▸ p2, p3⟩, ⟨F, (top, none) :: K', top'⟩, I', R', ⟨hs.size, Y.mk_put (hpl ▸ p2) g2, fun t x hx => AV.mono hI' hR3 (hs.fr t x hx), ?_⟩, hd3, (by simp only; omega), fun j hj => (ho3 j (by omega)).trans ?_, hR3, hQ⟩
      · rw [ky_cons, ← hpl]
        exact p4 _
      · unfold Wx.ext; rw [if_neg (by omega)]
    unfold rangeQ at hq
    simp only at hq
    split at hq
    rotate_left
    · exact hq.elim
    rename_i n1 G1 ps1 as1 bd1 st1 hlb
    split at hq
    · obtain ⟨rc, ⟨p2, p3⟩, hn⟩ := hfin _ .normal hlb hq
      refine ⟨none, _, (run_endLoop p2 (by rw [p3.1]; exact fun h => (by cases h))).trans (by rw [p3.2]), hn⟩
    · split at hq
      · obtain ⟨rc, ⟨p2, p3⟩, hn⟩ := hfin _ .ret hlb hq
        obtain ⟨q1, c, q2, q3⟩ := p3
        cases q2
        exact ⟨some .ret, _, (run_endLoop p2 (by rw [q1]; exact fun h => (by cases h))).trans (by rw [q3]), wpIn_ret hn⟩
      · rename_i id
        obtain ⟨rc, ⟨p2, p3⟩, hn⟩ := hfin _ (.exit id) hlb hq
        obtain ⟨q1, c, q2, q3⟩ := p3
        cases q2
        exact ⟨some (.exit id), _, (run_endLoop p2 (by rw [q1]; exact fun h => (by cases h))).trans (by rw [q3]), wpIn_exit hn⟩
      · exact hq.elim
    · exact hq.elim
  cases rd with
  | none =>
    cases hr
    have hz0 : Y.Wz W (ky s.K) I R (w.alloc (.deferred (some []))) := hs.wz.grow ((Below.refl _ w).alloc (Nat.le_refl _) _)
    refine core _ _ _ (run_enterLoop_outer fn a.tmps ps assign body) ?_ ?_
    · have := hz0.laid hI0 hKn (lok (w.alloc (.deferred (some []))) w.heap.size)
      rw [show (w.alloc (Obj.deferred (some []))).heap.size = w.heap.size + 1 by simp] at this
      exact this
    · refine ⟨⟨w.heap.size, rfl, Y.alloc_at (World.alloc_heap_new _ _), fun hz => ?_, fun d' hd' D' hD' => ?_⟩, ?_⟩
      · exact absurd (hs.wz.wd.below.lt hz) (Nat.lt_irrefl _)
      · have := (hs.mks.at d' hd' D' hD').1
        have := (Array.getElem?_eq_some_iff.1 this).1
        omega
      · exact hs.mks.mono fun D hD => by
          have hlt := (Array.getElem?_eq_some_iff.1 hD).1
          rw [Y.alloc_old _ _ (by simp; omega), Y.alloc_old _ _ hlt]
  | some j0 =>
    obtain ⟨p0, hp0, rfl⟩ := hr
    unfold rdIn at hin
    simp only at hin
    split at hin
    · rename_i lb0 hlb0
      obtain ⟨p1, hp1, ho1, _⟩ := hs.wz.ob j0 _ (ky_of hlb0) rfl
      rw [hp0] at hp1; cases hp1
      obtain ⟨rc0, hrc0, _⟩ := ho1.mem
      refine core _ _ _ (run_enterLoop_inner hrc0 fn a.tmps ps assign body) (hs.wz.laid hI0 hKn (lok w rc0.defers)) ?_
      exact hs.mks.mono fun D hD => Y.alloc_old _ _ (Array.getElem?_eq_some_iff.1 hD).1
    · cases hin
/-- The same, with the record under a name. -/
theorem range_rule {g : Operand} {ps : Array Tmp} {assign body : Code} {s : S} {Q : Exit → S → Prop} {f : FuncId} {cap : List Pt} (F0 : Fr) (hg : evf (get s.F) g = some (.c (.fn f cap))) (hsub : subFz s.F F0) (hok : frOk F0 = true) (hin : rdIn s.K rd = true)
    (h : ∀ lb : LB, lb = ⟨n, F0, ps, assign, body, .ready⟩ → CallZ P m (.fn f cap) [.pl (.one (.yl s.top))] ((s.top, some (.l lb)) :: s.K) (s.top + 1) fun _ K' top' => rngN (rangeQ s Q K' top')) : RangeZ P n m rd g ps assign body s Q := by
  refine range_rule0 F0 hg hsub hok hin ?_
  have := h _ rfl
  exact ⟨fun W I R w v vs h1 h2 h3 h4 h5 => (this.run W I R w v vs h1 h2 h3 h4 h5).mono fun e w' ⟨u, x, K', top', I', R', g1, g2, g3, g4, g5, g6, g7, g8⟩ => ⟨u, x, K', top', I', R', g1, g2, g3, g4, g5, g6, g7, g8.h⟩⟩
end
/-! ### Cells by another account -/
def Imp (c c' : Ce) : Prop := ∀ (I : IM) (R : RM) (u : Value), c.rel I R u → c'.rel I R u
theorem Imp.refl (c : Ce) : Imp c c := fun _ _ _ h => h
theorem Imp.nilg (i : Nat) : Imp (.v (.slice none 0 0)) (.gsl i []) := fun _ _ _ h => .inl ⟨rfl, h⟩
theorem Imp.nilr (fl : Bool) (sz : Nat) : Imp (.v (.slice none 0 0)) (.ro fl sz []) := fun _ _ u h => by
  have : u = .slice none 0 0 := h
  subst this; exact .nil sz
theorem Stp.cells {m : Nat} {s : S} (i : Nat) (b : Blk) (rows' : List (List Ce)) (hK : kz s.K i = some (.b b)) (hm : m ≤ s.top) (h : All2 (All2 Imp) b.rows rows') : Stp m s ⟨s.F, (i, some (.b ⟨rows', b.sz, b.ty, b.bx⟩)) :: s.K, s.top⟩ := fun n W I R a w hs hd => by
  refine ⟨I, R, ⟨hs.size, hs.mks, hs.fr, ?_⟩, hd, hm, fun _ _ => rfl, .refl _⟩
  have hlen := h.length
  have hb0 : Y.blkOf (ky s.K) i = some b := by rw [kb_eq, kb_kz, hK]; rfl
  have hnew : Y.blkOf (ky ((i, some (.b ⟨rows', b.sz, b.ty, b.bx⟩)) :: s.K)) = fun t => if t = i then some ⟨rows', b.sz, b.ty, b.bx⟩ else Y.blkOf (ky s.K) t := by
    funext t
    rw [ky_cons]
    unfold Y.blkOf Y.upd
    by_cases ht : t = i
    · subst ht; simp [Ob.y]
    · simp only [if_neg ht]
  have hback : ∀ {t : Nat} {b' : Blk}, Y.blkOf (ky ((i, some (.b ⟨rows', b.sz, b.ty, b.bx⟩)) :: s.K)) t = some b' → ∃ b0, Y.blkOf (ky s.K) t = some b0 ∧ (b0 = b' ∨ (t = i ∧ b0 = b ∧ b' = ⟨rows', b.sz, b.ty, b.bx⟩)) := by
    intro t b' ht
    rw [hnew] at ht
    simp only at ht
    split at ht
    · rename_i he; subst he; cases ht; exact ⟨b, hb0, .inr ⟨rfl, rfl, rfl⟩⟩
    · exact ⟨b', ht, .inl rfl⟩
  have hoth : ∀ {t : Nat} {o : Y.Ob}, ky ((i, some (.b ⟨rows', b.sz, b.ty, b.bx⟩)) :: s.K) t = some o → o.nb = true → ky s.K t = some o := by
    intro t o ht hn
    rw [ky_cons] at ht
    unfold Y.upd at ht
    split at ht
    · simp only [Option.map_some, Option.some.injEq] at ht; subst ht; cases hn
    · exact ht
  have hw := hs.wz
  refine ⟨{ hw.wd with
    blk := fun t b' ht => ?_
    inj := fun t t' bi bj p q h1 h2 hp hq he => by
      obtain ⟨c1, k1, _⟩ := hback h1
      obtain ⟨c2, k2, _⟩ := hback h2
      exact hw.wd.inj t t' c1 c2 p q k1 k2 hp hq he
    base := fun t b' p h1 hp => by obtain ⟨c1, k1, _⟩ := hback h1; exact hw.wd.base t c1 p k1 hp
    apart := fun t b' p f o h1 hp => by obtain ⟨c1, k1, _⟩ := hback h1; exact hw.wd.apart t c1 p f o k1 hp }, fun t o h1 hn => hw.ob t o (hoth h1 hn) hn, fun t t' oi oj p q h1 h2 hni hnj => hw.inj t t' oi oj p q (hoth h1 hni) (hoth h2 hnj) hni hnj⟩
  obtain ⟨c1, k1, hc⟩ := hback ht
  obtain ⟨p, hp, hk⟩ := hw.wd.blk t c1 k1
  rcases hc with rfl | ⟨rfl, rfl, rfl⟩
  · exact ⟨p, hp, hk⟩
  · obtain ⟨g1, g2, g3, g4, cs, g5, g6, g7⟩ := hk
    refine ⟨p, hp, g1, by simp only; omega, g3, fun r hr => ?_, cs, g5, g6, fun q r k c hq hc => ?_⟩
    · obtain ⟨r0, hr0, hrr⟩ := h.mem hr
      rw [← hrr.length]; exact g4 r0 hr0
    · have hq' : rows'[q]? = some r := hq
      have hlt : q < c1.rows.length := by
        have := (List.getElem?_eq_some_iff.1 hq').1; omega
      obtain ⟨r', hr', hrel⟩ := h.get (List.getElem?_eq_getElem hlt)
      rw [hq'] at hr'; cases hr'
      have hlt2 : k < c1.rows[q].length := by
        have := (List.getElem?_eq_some_iff.1 hc).1; rw [hrel.length]; exact this
      obtain ⟨c', hc', hi⟩ := hrel.get (List.getElem?_eq_getElem hlt2)
      rw [hc] at hc'; cases hc'
      obtain ⟨u, hu, hr⟩ := g7 q _ k _ (List.getElem?_eq_getElem hlt) (List.getElem?_eq_getElem hlt2)
      exact ⟨u, hu, hi I R u hr⟩
end Go.Proofs.Ytllnmdmmmkoiaaa.Wx.Z
