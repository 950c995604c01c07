import Derived.Test.YtehhmkdghgabaaaLib4
import Derived.Lib.Overlaps
import Derived.Shelf.SlSortCmp.WholeK
/-
  The third layer: slices.overlaps at two slices of own memory that lie in two blocks; own slices whose capacity is unknown, with the row behind their end; calls in drawn regions that hand back one own block, however they come to it.
-/
namespace Go.Proofs.Ytehhmkdghgabaaa.Wx.Z
open Go Go.RowKit
set_option linter.unusedVariables false
theorem callZ_ovl {P : Program} {T : Tab} (hT : TabOk P T) {m : Nat} {g : FuncId} {tS tR e : TypeId} {ti : TI} {sz bt : Nat} {i q n j q' n' : Nat} {c c' : Option Nat} {bi bj : Blk} {K : Kr} {top : Nat} {k : AV → Kr → Nat → Prop} (fn : Func)
    (hf : P.funcs[g]? = some fn) (hname : (fn.name == "runtime.NumGoroutine") = false) (hb : fn.body.isNone = true) (hn : Extern.findNext fn = none) (he : Extern.find fn = some (Extern.SlicesOverlaps.overlaps #[tS, tS] #[tR]))
    (ht : tyGet T tS = some ti) (hel : ti.elem = some (e, sz, bt)) (hi : kz K i = some (.b bi)) (hj : kz K j = some (.b bj)) (hne : i ≠ j) (hbj : 0 < bj.rows.length) (hsz : 0 < bj.sz)
    (h : k (.val (.bool false)) K top) : CallZ P m (.fn g []) [.c (.osl i q n c), .c (.osl j q' n' c')] K top k := by
  refine ⟨fun W I R w v vs hw hd hm hvs hv => ?_⟩
  obtain ⟨us, hus, rfl⟩ : ∃ us, All2 (Pt.rel I) [] us ∧ v = .func (.func g) #[] us.toArray := hv
  cases us with
  | cons _ _ => exact hus.elim
  | nil =>
    cases vs with
    | nil => exact hvs.elim
    | cons v1 vs => cases vs with
      | nil => exact hvs.2.elim
      | cons v2 vs => cases vs with
        | cons _ _ => exact hvs.2.2.elim
        | nil =>
          obtain ⟨p1, c1, hp1, rfl, _⟩ := (show ∃ p c', I i = some p ∧ v1 = .slice (some ⟨p.b, q * p.sz, none⟩) n c' ∧ n ≤ c' ∧ q + c' ≤ p.tot ∧ ∀ c0, c = some c0 → c' = c0 from hvs.1)
          obtain ⟨p2, c2, hp2, rfl, _⟩ := (show ∃ p c'', I j = some p ∧ v2 = .slice (some ⟨p.b, q' * p.sz, none⟩) n' c'' ∧ n' ≤ c'' ∧ q' + c'' ≤ p.tot ∧ ∀ c0, c' = some c0 → c'' = c0 from hvs.2.1)
          have ki : Y.blkOf (ky K) i = some bi := by unfold Y.blkOf; rw [ky_of hi]; rfl
          have kj : Y.blkOf (ky K) j = some bj := by unfold Y.blkOf; rw [ky_of hj]; rfl
          obtain ⟨r1, hr1, b1⟩ := hw.wd.blk i bi ki
          obtain ⟨r2, hr2, b2⟩ := hw.wd.blk j bj kj
          rw [hp1] at hr1; cases hr1
          rw [hp2] at hr2; cases hr2
          have hap : p1.b ≠ p2.b := fun e9 => hne (hw.wd.inj i j bi bj p1 p2 ki kj hp1 hp2 e9)
          obtain ⟨cs1, m1, s1, _⟩ := b1.mem
          obtain ⟨cs2, m2, s2, _⟩ := b2.mem
          obtain ⟨hu, inf, z, hinf, hz, _⟩ := tiOf_elem (hT _ _ ht) hel
          have hso : ∀ w, (Go.sizeOf e).run P w = .ok inf.size w := fun w => by simp [sizeOf, typeInfo, hinf]
          have hk2 : cs2.size ≠ 0 := by
            rw [s2, b2.sz]
            have h1 := b2.fit
            exact Nat.ne_of_gt (Nat.mul_pos (by omega) hsz)
          have hrun := Go.Lib.run_overlaps_apart (P := P) w tS tR e hu inf.size hso ⟨p1.b, q * p1.sz, none⟩ ⟨p2.b, q' * p2.sz, none⟩ n c1 n' c2 hap _ _ _ _
            (show w.shape? p1.b = some (bi.ty, cs1.size) by unfold World.shape?; rw [m1]) (show w.shape? p2.b = some (bj.ty, cs2.size) by unfold World.shape?; rw [m2]) hk2
            (frozen_of_row w p1.b _ _ _ m1) (frozen_of_row w p1.b _ _ _ m1)
          refine .inr ⟨g, .bool false, _, _, _, _, _, _, rfl, rfl, ?_, .bool false, .val (.bool false), K, top, I, R, rfl, hw, hd, Nat.le_refl _, fun _ _ => rfl, RExt.refl _, rfl, h⟩
          show (callFunc g #[_, _]).run P w = _
          rw [run_callFunc_extern hf hname hb hn he]
          rw [hrun]; rfl
theorem reblk {W : Wo} {K : Kr} {I : IM} {R : RM} {w : World} (h : Y.Wz W (ky K) I R w) {i : Nat} {b b' : Blk} {p : Loc} (hb : kz K i = some (.b b)) (hp : I i = some p) (hk : Bk I R b' p w) : Y.Wz W (ky ((i, some (.b b')) :: K)) I R w := by
  rw [ky_cons]
  have hbi : Y.blkOf (ky K) i = some b := by unfold Y.blkOf; rw [ky_of hb]; rfl
  have hkey : ∀ {j : Nat} {x : Blk}, Y.blkOf (Y.upd (ky K) i (some (Y.Ob.b b'))) j = some x → (j = i ∧ x = b') ∨ (j ≠ i ∧ Y.blkOf (ky K) j = some x) := fun {j x} hx => by
    unfold Y.blkOf Y.upd at hx
    by_cases e : j = i
    · rw [if_pos e] at hx
      simp only [Option.some.injEq] at hx
      exact .inl ⟨e, hx.symm⟩
    · rw [if_neg e] at hx
      exact .inr ⟨e, hx⟩
  have hany : ∀ {j : Nat} {x : Blk}, Y.blkOf (Y.upd (ky K) i (some (Y.Ob.b b'))) j = some x → ∃ y, Y.blkOf (ky K) j = some y := fun {j x} hx => by
    rcases hkey hx with ⟨rfl, _⟩ | ⟨_, h2⟩
    · exact ⟨b, hbi⟩
    · exact ⟨x, h2⟩
  have hobs : ∀ {j : Nat} {o : Y.Ob}, Y.upd (ky K) i (some (Y.Ob.b b')) j = some o → o.nb = true → ky K j = some o := fun {j o} ho hn => by
    unfold Y.upd at ho
    by_cases e : j = i
    · rw [if_pos e] at ho; cases ho; cases hn
    · rw [if_neg e] at ho; exact ho
  refine ⟨⟨?_, ?_, ?_, h.wd.ro, ?_, h.wd.fresh, h.wd.less, h.wd.below, h.wd.out, h.wd.qz⟩, fun j o hj hn => h.ob j o (hobs hj hn) hn, fun a c oa oc p q ha hc hna hnc => h.inj a c oa oc p q (hobs ha hna) (hobs hc hnc) hna hnc⟩
  · intro j x hx
    rcases hkey hx with ⟨rfl, rfl⟩ | ⟨_, h2⟩
    · exact ⟨p, hp, hk⟩
    · exact h.wd.blk j x h2
  · intro j l bj bl pj pl hj hl
    obtain ⟨y1, h1⟩ := hany hj
    obtain ⟨y2, h2⟩ := hany hl
    exact h.wd.inj j l y1 y2 pj pl h1 h2
  · intro j x pj hj
    obtain ⟨y1, h1⟩ := hany hj
    exact h.wd.base j y1 pj h1
  · intro j x pj f o hj
    obtain ⟨y1, h1⟩ := hany hj
    exact h.wd.apart j y1 pj f o h1
theorem vals_rel {I : IM} {R : RM} {l : List Value} {k : Nat} {c : Ce} (h : (l.map Ce.v)[k]? = some c) : ∃ u, l[k]? = some u ∧ c.rel I R u := by
  rw [List.getElem?_map] at h
  cases hl : l[k]? with
  | none => rw [hl] at h; cases h
  | some u => rw [hl] at h; cases h; exact ⟨u, rfl, rfl⟩
theorem callZ_capS {P : Program} {m i n top : Nat} {f : Ce} {asx : List AV} {K : Kr} {k : AV → Kr → Nat → Prop} {b : Blk} (hb : kz K i = some (.b b)) (hn : b.rows.length = n)
    (h : ∀ c, n ≤ c → (¬ n + 1 ≤ c → CallZ P m f (.c (.osl i 0 n (some c)) :: asx) K top k) ∧ (n + 1 ≤ c → ∀ g : List Value, g.length = b.sz → CallZ P m f (.c (.osl i 0 n (some c)) :: asx) ((i, some (.b ⟨b.rows ++ [g.map Ce.v], b.sz, b.ty, b.bx⟩)) :: K) top k)) :
    CallZ P m f (.c (.osl i 0 n none) :: asx) K top k := by
  refine ⟨fun W I R w v vs hw hd hm hvs hv => ?_⟩
  cases vs with
  | nil => exact hvs.elim
  | cons u us =>
    obtain ⟨hu, hus⟩ := hvs
    obtain ⟨p, c', hp, hux, h1, h2, _⟩ : (Ce.osl i 0 n none).rel I R u := hu
    have hu' : (Ce.osl i 0 n (some c')).rel I R u := ⟨p, c', hp, hux, h1, h2, fun c hc => Option.some.inj hc⟩
    by_cases hc : n + 1 ≤ c'
    · have hbi : Y.blkOf (ky K) i = some b := by unfold Y.blkOf; rw [ky_of hb]; rfl
      obtain ⟨p', hp', B⟩ := hw.wd.blk i b hbi
      rw [hp] at hp'; cases hp'
      obtain ⟨cs, m1, m2, m3⟩ := B.mem
      have hsz := B.sz
      have hcs : n * b.sz + b.sz ≤ cs.size := by
        rw [m2, hsz]
        have : (n + 1) * b.sz ≤ p.tot * b.sz := Nat.mul_le_mul_right _ (by omega)
        rw [Nat.add_mul, Nat.one_mul] at this
        exact this
      have hg : ((cs.toList.drop (n * b.sz)).take b.sz).length = b.sz := by
        rw [List.length_take, List.length_drop, Array.length_toList]; omega
      refine ((h c' h1).2 hc _ hg).run W I R w v (u :: us) (reblk hw hb hp ⟨hsz, ?_, B.few, ?_, cs, m1, m2, ?_⟩) hd hm ⟨hu', hus⟩ hv
      · simp only [List.length_append, List.length_cons, List.length_nil, hn]; omega
      · intro r hr
        rcases List.mem_append.1 hr with hr | hr
        · exact B.row r hr
        · simp only [List.mem_singleton] at hr; subst hr; rw [List.length_map]; exact hg
      · intro q r kk c hq hk
        by_cases hqn : q < n
        · rw [List.getElem?_append_left (by omega)] at hq
          exact m3 q r kk c hq hk
        · rw [List.getElem?_append_right (by omega)] at hq
          have hq0 : q - b.rows.length = 0 := by
            have := (List.getElem?_eq_some_iff.1 hq).1; simp at this; omega
          rw [hq0] at hq
          simp only [List.getElem?_cons_zero, Option.some.injEq] at hq
          subst hq
          obtain ⟨u2, hu2, hr2⟩ := vals_rel (I := I) (R := R) hk
          refine ⟨u2, ?_, hr2⟩
          have hkl : kk < b.sz := by
            have := (List.getElem?_eq_some_iff.1 hu2).1; rw [hg] at this; exact this
          rw [List.getElem?_take_of_lt hkl, List.getElem?_drop] at hu2
          rw [show q * p.sz + kk = n * b.sz + kk by rw [hsz, show q = n by omega], ← Array.getElem?_toList]
          exact hu2
    · exact ((h c' h1).1 hc).run W I R w v (u :: us) hw hd hm ⟨hu', hus⟩ hv
theorem callZ_capn {P : Program} {m i n top : Nat} {f : Ce} {asx : List AV} {K : Kr} {k : AV → Kr → Nat → Prop} (h : ∀ c, n ≤ c → CallZ P m f (.c (.osl i 0 n (some c)) :: asx) K top k) : CallZ P m f (.c (.osl i 0 n none) :: asx) K top k := by
  refine ⟨fun W I R w v vs hw hd hm hvs hv => ?_⟩
  cases vs with
  | nil => exact hvs.elim
  | cons u us =>
    obtain ⟨hu, hus⟩ := hvs
    obtain ⟨p, c', hp, hux, h1, h2, _⟩ : (Ce.osl i 0 n none).rel I R u := hu
    exact (h c' h1).run W I R w v (u :: us) hw hd hm ⟨⟨p, c', hp, hux, h1, h2, fun c hc => Option.some.inj hc⟩, hus⟩ hv
end Go.Proofs.Ytehhmkdghgabaaa.Wx.Z
/-
  A call in a drawn region whose argument is an own row of slices: each cell is told by what its own block holds.
-/
namespace Go.Proofs.Ytehhmkdghgabaaa.Wx.Z
open Go Go.RowKit
set_option linter.unusedVariables false
end Go.Proofs.Ytehhmkdghgabaaa.Wx.Z
/-
  Calls in place, forgetting what they have made; calls of closures that share blocks of the caller's.
-/
namespace Go.Proofs.Ytehhmkdghgabaaa.Wx.Z
open Go Go.RowKit
set_option linter.unusedVariables false
end Go.Proofs.Ytehhmkdghgabaaa.Wx.Z
/-
  slices.Insert and slices.Delete of own rows: what the rows are behind them; blocks and lengths of a call's arguments by another account.
-/
namespace Go.Proofs.Ytehhmkdghgabaaa.Wx.Z
open Go Go.RowKit
set_option linter.unusedVariables false
theorem slN_hc {y : Int} {len : Nat} {cap : Option Nat} {A : Nat → Nat → Prop} (h : Nat) (e2 : y = (h : Int)) (h2 : ∃ c, cap = some c ∧ h ≤ c) (k : A 0 h) : slN none (some y) len cap A := ⟨0, h, rfl, e2, Nat.zero_le _, .inr h2, k⟩
theorem g_le {α : Type} {f : α → List Ce} {l : List α} {R : List (List Ce)} {m : Nat} (h : R = l.map f) (hm : m ≤ l.length) : m ≤ R.length := by subst h; rw [List.length_map]; exact hm
theorem gS_eq {a : Nat} {X : List (List Ce)} {v : List Ce} (ha : 1 ≤ a) (hX : List.take 1 (List.drop 0 X) = [v]) : List.take (Nat.min 1 a) (List.take 1 (List.drop 0 X)) = [v] := by rw [hX, show Nat.min 1 a = 1 from Nat.min_eq_left ha]; rfl
theorem gS_len {a : Nat} {X : List (List Ce)} : (List.take a (List.take 1 X)).length ≤ 1 := by simp; omega
theorem gT_eq {α : Type} {f : α → List Ce} {l : List α} {i a b : Nat} {R : List (List Ce)} (h : R = l.map f) (ha : l.length - i ≤ a) (hb : l.length - i ≤ b) : List.take a (List.take b (List.drop (0 + i) R)) = (l.map f).drop i := by
  subst h
  rw [Nat.zero_add, List.take_of_length_le (i := b) (by simp; omega), List.take_of_length_le (by simp; omega)]
theorem g_ins {α : Type} {f : α → List Ce} {l : List α} {i k : Nat} {R S T : List (List Ce)} {z : List Ce} {v : α} (h : R = l.map f) (hi : i < l.length) (hk : k = l.length + 1 - i) (hS : S = [f v]) (hT : T = (l.map f).drop i) : lay (lay (List.take (i - 0) R ++ List.replicate k z) (0 + i) S) (0 + (i + 1)) T = (l.take i ++ v :: l.drop i).map f := by
  subst h hk hS hT
  rw [List.map_append, List.map_cons, List.map_take, List.map_drop]
  generalize hM : l.map f = M
  have hl : M.length = l.length := by rw [← hM, List.length_map]
  rw [Nat.zero_add, Nat.zero_add, Nat.sub_zero]
  have h1 : (M.take i).length = i := by simp; omega
  have h2 : (M.drop i).length = l.length - i := by simp; omega
  generalize M.take i = A at *
  generalize M.drop i = B at *
  have e1 : lay (A ++ List.replicate (l.length + 1 - i) z) i [f v] = (A ++ [f v]) ++ List.replicate (l.length - i) z := by
    unfold lay
    rw [List.take_left' h1, show l.length + 1 - i = (l.length - i) + 1 by omega, List.replicate_succ, show A ++ z :: List.replicate (l.length - i) z = (A ++ [z]) ++ List.replicate (l.length - i) z by simp, List.drop_left' (by simp [h1])]
    exact (List.append_assoc _ _ _).symm
  rw [e1]
  unfold lay
  rw [List.take_left' (by simp [h1]), List.drop_eq_nil_of_le (by simp [h1, h2]; omega)]
  simp
theorem g_insp {α : Type} {f : α → List Ce} {l : List α} {i : Nat} {S T : List (List Ce)} {g : List Ce} {v : α} (hi : i < l.length) (hS : S = [f v]) (hT : T = (l.map f).drop i) : lay (lay (l.map f ++ [g]) (0 + (i + 1)) T) (0 + i) S = (l.take i ++ v :: l.drop i).map f := by
  subst hS hT
  rw [List.map_append, List.map_cons, List.map_take, List.map_drop]
  generalize hM : l.map f = M
  have hl : M.length = l.length := by rw [← hM, List.length_map]
  rw [Nat.zero_add, Nat.zero_add]
  have h2 : (M.drop i).length = l.length - i := by simp; omega
  have e1 : lay (M ++ [g]) (i + 1) (M.drop i) = M.take (i + 1) ++ M.drop i := by
    unfold lay
    have e0 : (M ++ [g]).drop (i + 1 + (M.drop i).length) = [] := List.drop_eq_nil_of_le (by rw [h2, List.length_append, hl]; simp; omega)
    rw [List.take_append_of_le_length (by omega), e0, List.append_nil]
  rw [e1]
  show List.take i (M.take (i + 1) ++ M.drop i) ++ ([f v] ++ List.drop (i + 1) (M.take (i + 1) ++ M.drop i)) = _
  have h4 : (M.take (i + 1)).length = i + 1 := by simp; omega
  rw [List.take_append_of_le_length (by omega), List.take_take, Nat.min_eq_left (by omega), List.drop_left' h4]
  rfl
theorem gT_eqp {α : Type} {f : α → List Ce} {l : List α} {i a b : Nat} {g : List Ce} (hi : i ≤ l.length) (h : (a = l.length - i ∧ l.length - i ≤ b) ∨ (l.length - i ≤ a ∧ b = l.length - i)) : List.take a (List.take b (List.drop (0 + i) (l.map f ++ [g]))) = (l.map f).drop i := by
  have h2 : ((l.map f).drop i).length = l.length - i := by simp
  rw [Nat.zero_add, List.drop_append_of_le_length (by simp; omega), List.take_take, show min a b = ((l.map f).drop i).length by omega, List.take_left]
theorem g_fit {α : Type} {f : α → List Ce} {l : List α} {i q : Nat} {R : List (List Ce)} {z : List Ce} (h : R = l.map f) (hi : i < l.length) (hq : q ≤ l.length + 1) : q ≤ (List.take (i - 0) R ++ List.replicate (l.length + 1 - i) z).length := by subst h; simp; omega
theorem g_fit2 {α : Type} {f : α → List Ce} {l : List α} {i q : Nat} {R S : List (List Ce)} {z : List Ce} (h : R = l.map f) (hi : i < l.length) (hq : q ≤ l.length + 1) (hS : S.length ≤ 1) : q ≤ (lay (List.take (i - 0) R ++ List.replicate (l.length + 1 - i) z) (0 + i) S).length := by
  rw [lay_length (by subst h; simp; omega)]; exact g_fit h hi hq
theorem g_one {α : Type} {f : α → List Ce} {l : List α} {m k : Nat} {R : List (List Ce)} (hf : ∀ x, ∀ c ∈ f x, c.single = true) (h : R = l.map f) : ∀ r ∈ List.take m (List.drop k R), ∀ c ∈ r, c.single = true := fun r hr => by
  subst h
  obtain ⟨x, _, rfl⟩ := List.mem_map.1 (List.mem_of_mem_drop (List.mem_of_mem_take hr))
  exact hf x
theorem g_len {α : Type} {f : α → List Ce} {l : List α} {m i : Nat} {R : List (List Ce)} (h : R = l.map f) (hm : m + i ≤ l.length) : (List.take m (List.drop (0 + i) R)).length = m := by subst h; simp; omega
theorem g_onep {α : Type} {f : α → List Ce} {l : List α} {a m k : Nat} {g : List Ce} (hf : ∀ x, ∀ c ∈ f x, c.single = true) (ha : a + k ≤ l.length) : ∀ r ∈ List.take a (List.take m (List.drop k (l.map f ++ [g]))), ∀ c ∈ r, c.single = true := fun r hr => by
  rw [List.drop_append_of_le_length (by rw [List.length_map]; omega), List.take_take, List.take_append_of_le_length (by simp; omega)] at hr
  obtain ⟨x, _, rfl⟩ := List.mem_map.1 (List.mem_of_mem_drop (List.mem_of_mem_take hr))
  exact hf x
theorem g_lenp {α : Type} {f : α → List Ce} {l : List α} {m k : Nat} {g : List Ce} (hm : m + k ≤ l.length + 1) : (List.take m (List.drop k (l.map f ++ [g]))).length = m := by simp; omega
theorem g_fitp {α : Type} {f : α → List Ce} {l : List α} {q : Nat} {g : List Ce} (hq : q ≤ l.length + 1) : q ≤ (l.map f ++ [g]).length := by simp; omega
theorem g_fitp2 {α : Type} {f : α → List Ce} {l : List α} {q k : Nat} {g : List Ce} {S : List (List Ce)} (hq : q ≤ l.length + 1) (hk : k + S.length ≤ l.length + 1) : q ≤ (lay (l.map f ++ [g]) k S).length := by rw [lay_length (by simp; omega)]; exact g_fitp hq
theorem g_fitk {α : Type} {k a b N : Nat} {X : List α} (h : k + b ≤ N) : k + (List.take (Nat.min a b) X).length ≤ N := by
  have h2 : (List.take (Nat.min a b) X).length ≤ b := Nat.le_trans (by rw [List.length_take]; exact Nat.min_le_left _ _) (Nat.min_le_right a b)
  omega
theorem g_min {a b k N : Nat} (h : b + k ≤ N) : Nat.min a b + k ≤ N := Nat.le_trans (Nat.add_le_add_right (Nat.min_le_right a b) k) h
theorem g_clr {α : Type} {f : α → List Ce} {l : List α} {q m : Nat} {R S : List (List Ce)} (h : R = l.map f) (hq : q + S.length ≤ l.length) (hm : m ≤ l.length) : m ≤ (lay R q S).length := by
  subst h; rw [lay_length (by rw [List.length_map]; exact hq), List.length_map]; exact hm
theorem del_full {α : Type} {f : α → List Ce} {A : List α} {i m : Nat} {R : List (List Ce)} {z : α} {Zr : List (List Ce)} (h : R = A.map f) (hi : i < A.length) (hm : m = A.length) (hz : Zr = [f z]) : lay (lay R (i - 0) (List.take (m - (i + 1)) (List.drop (0 + (i + 1)) R))) (0 + (m - 1)) Zr = (A.eraseIdx i ++ [z]).map f := by
  subst h hm hz
  rw [List.map_append, List.eraseIdx_eq_take_drop_succ, List.map_append, List.map_take, List.map_drop]
  generalize hM : A.map f = M
  have hl : M.length = A.length := by rw [← hM, List.length_map]
  rw [Nat.zero_add, Nat.zero_add, Nat.sub_zero]
  have h1 : (M.take i).length = i := by rw [List.length_take]; omega
  have h2 : (M.drop (i + 1)).length = A.length - (i + 1) := by rw [List.length_drop]; omega
  rw [List.take_of_length_le (i := A.length - (i + 1)) (by omega)]
  have e1 : lay M i (M.drop (i + 1)) = (M.take i ++ M.drop (i + 1)) ++ M.drop (A.length - 1) := by
    unfold lay
    rw [h2, show i + (A.length - (i + 1)) = A.length - 1 by omega, List.append_assoc]
  have h3 : (M.take i ++ M.drop (i + 1)).length = A.length - 1 := by rw [List.length_append]; omega
  rw [e1]
  have e2 : List.drop (A.length - 1 + [f z].length) ((M.take i ++ M.drop (i + 1)) ++ M.drop (A.length - 1)) = [] := List.drop_eq_nil_of_le (by rw [List.length_append, h3, List.length_drop, List.length_singleton]; omega)
  unfold lay
  rw [List.take_left' h3, e2]
  simp
theorem del_full0 {α : Type} {f : α → List Ce} {A : List α} {i m : Nat} {R : List (List Ce)} {z : α} {Zr : List (List Ce)} (h : R = A.map f) (hi : i + 1 = A.length) (hm : m = A.length) (hz : Zr = [f z]) : lay (lay R (i - 0) []) (0 + (m - 1)) Zr = (A.eraseIdx i ++ [z]).map f := by
  have h9 := del_full (i := i) (m := m) h (by omega) hm hz
  rw [show m - (i + 1) = 0 by omega, List.take_zero] at h9
  exact h9
theorem g_app {α : Type} {f : α → List Ce} {l : List α} {n : Nat} {S : List (List Ce)} {v : α} (hn : n = l.length) (hS : S = [f v]) : List.take n (l.map f) ++ S = (l ++ [v]).map f := by
  subst hn hS; rw [List.take_of_length_le (by simp)]; simp
theorem g_appr {α : Type} {f : α → List Ce} {l : List α} {n : Nat} {S : List (List Ce)} {g : List Ce} {v : α} (hn : n = l.length) (hS : S = [f v]) : lay (l.map f ++ [g]) n S = (l ++ [v]).map f := by
  subst hn hS
  unfold lay
  rw [List.take_left' (by simp), List.drop_eq_nil_of_le (by simp)]; simp
theorem callZ_rw {P : Program} {m top : Nat} {c : Ce} {avs : List AV} {K : Kr} {k : AV → Kr → Nat → Prop} (B : Nat) {rows : List (List Ce)} (rows' : List (List Ce)) {sz : Nat} {ty : TypeId} {bx : Bool} (hB : kz K B = some (.b ⟨rows, sz, ty, bx⟩)) (h : rows = rows')
    (kk : CallZ P m c avs ((B, some (.b ⟨rows', sz, ty, bx⟩)) :: K) top k) : CallZ P m c avs K top k := by
  subst h
  have e : ky ((B, some (.b ⟨rows, sz, ty, bx⟩)) :: K) = ky K := funext fun j => by
    rw [ky_cons]
    unfold Y.upd
    by_cases hj : j = B
    · subst hj; rw [if_pos rfl]; exact (ky_of hB).symm
    · rw [if_neg hj]
  exact ⟨fun W I R w v vs hw => kk.run W I R w v vs (by rw [e]; exact hw)⟩
theorem kz_hit {B : Nat} {o : Option Ob} {K : Kr} : kz ((B, o) :: K) B = o := by
  have e : Nat.beq B B = true := Nat.beq_refl B
  simp only [kz]
  rw [e]
theorem callZ_rwcap {P : Program} {m i n top : Nat} {f : Ce} {asx : List AV} {K : Kr} {k : AV → Kr → Nat → Prop} {rows : List (List Ce)} (rows' : List (List Ce)) {sz : Nat} {ty : TypeId} {bx : Bool} (hB : kz K i = some (.b ⟨rows, sz, ty, bx⟩)) (hr : rows = rows') (hn : rows'.length = n)
    (h : ∀ c, n ≤ c → (¬ n + 1 ≤ c → CallZ P m f (.c (.osl i 0 n (some c)) :: asx) ((i, some (.b ⟨rows', sz, ty, bx⟩)) :: K) top k) ∧ (n + 1 ≤ c → ∀ g : List Value, g.length = sz → CallZ P m f (.c (.osl i 0 n (some c)) :: asx) ((i, some (.b ⟨rows' ++ [g.map Ce.v], sz, ty, bx⟩)) :: (i, some (.b ⟨rows', sz, ty, bx⟩)) :: K) top k)) :
    CallZ P m f (.c (.osl i 0 n none) :: asx) K top k := by
  refine callZ_rw i rows' hB hr ?_
  exact callZ_capS (b := ⟨rows', sz, ty, bx⟩) kz_hit hn h
theorem callZ_rwcapn {P : Program} {m i n top : Nat} {f : Ce} {asx : List AV} {K : Kr} {k : AV → Kr → Nat → Prop} {rows : List (List Ce)} (rows' : List (List Ce)) {sz : Nat} {ty : TypeId} {bx : Bool} (hB : kz K i = some (.b ⟨rows, sz, ty, bx⟩)) (hr : rows = rows')
    (h : ∀ c, n ≤ c → CallZ P m f (.c (.osl i 0 n (some c)) :: asx) ((i, some (.b ⟨rows', sz, ty, bx⟩)) :: K) top k) : CallZ P m f (.c (.osl i 0 n none) :: asx) K top k :=
  callZ_rw i rows' hB hr (callZ_capn h)
theorem callZ_tell {P : Program} {m top B q n : Nat} {cap : Option Nat} {c : Ce} {asx : List AV} {K : Kr} {k : AV → Kr → Nat → Prop} {rows : List (List Ce)} (rows' : List (List Ce)) (n' : Nat) {sz : Nat} {ty : TypeId} {bx : Bool} (hB : kz K B = some (.b ⟨rows, sz, ty, bx⟩)) (h : rows = rows') (hn : n = n')
    (kk : CallZ P m c (.c (.osl B q n' cap) :: asx) ((B, some (.b ⟨rows', sz, ty, bx⟩)) :: K) top k) : CallZ P m c (.c (.osl B q n cap) :: asx) K top k := by
  subst hn
  exact callZ_rw B rows' hB h kk
end Go.Proofs.Ytehhmkdghgabaaa.Wx.Z
/-
  A result's block of which only the first rows are told.
-/
namespace Go.Proofs.Ytehhmkdghgabaaa.Wx.Z
open Go Go.RowKit
set_option linter.unusedVariables false
end Go.Proofs.Ytehhmkdghgabaaa.Wx.Z
/-
  The third layer: slices.SortFunc in place on an own row of structs, with a comparison that has a contract: the kit's own contract at whatever length.
-/
namespace Go.Proofs.Ytehhmkdghgabaaa.Wx.Z
open Go Go.RowKit
set_option linter.unusedVariables false
theorem setCells_mapK (b : Nat) : ∀ (vs : List Value) (o : Nat) (w : World), w.setCells b o vs = Go.Sort.mapBlock w b (fun c => (spl c.toList o vs).toArray)
  | [], o, w => by
    rw [World.setCells]
    exact (Go.Sort.mapBlock_id w b _ (fun c _ _ _ => by simp [spl])).symm
  | v :: r, o, w => by
    rw [World.setCells, setCells_mapK b r (o + 1), Go.Sort.setCell_eq, Go.Sort.mapBlock_mapBlock]
    congr 1
    funext c
    simp [spl]
theorem putRow_setCellsK {w : World} {b : Nat} {cs : Array Value} {ty : TypeId} {fz : Nat × Nat} (hm : w.heap[b]? = some (.cells cs ty fz)) (F : List Value) (hl : F.length ≤ cs.size) : Go.Sort.putRow id w b 0 F.toArray = w.setCells b 0 F := by
  rw [setCells_mapK, Go.Sort.putRow]
  refine Go.Sort.mapBlock_congr w b _ _ (fun c e fr hc => ?_)
  rw [hm] at hc
  cases hc
  apply Array.ext_getElem?
  intro k
  simp only [Go.Sort.putCells, Array.getElem?_mapIdx, List.getElem?_toArray]
  rw [spl_get _ _ _ _ (by simpa using hl)]
  by_cases hk : k < F.length
  · have hk2 : k < cs.size := by omega
    simp [hk, hk2]
  · cases hcs : cs[k]? with
    | none => simp [hk, hcs]
    | some y => simp [hk, hcs]
theorem aheadZ {W : Wo} {K : Nat → Option Y.Ob} {I : IM} {R : RM} {w : World} (h : Y.Wz W K I R w) : ∀ n, Y.Wz W K I R (Go.Sort.ahead w n)
  | 0 => h
  | n + 1 => by rw [← Go.Sort.ahead_drew]; exact (aheadZ h n).drew
theorem bel_grown (w : World) (os : Array Obj) : Bel w.heap.size w (Go.Sort.grow w os) :=
  ⟨⟨rfl, rfl, rfl, by simp, fun k hk => Go.Sort.heap_grow_old w os hk⟩, Nat.le_refl _⟩
section
variable {α : Type} {enc : α → List Value} {k : Nat}
theorem flat_getK (hk : ∀ x, (enc x).length = k) : ∀ (zs : List α) (t : Nat), t < zs.length * k → (zs.flatMap enc)[t]? = (zs[t / k]?).bind fun x => (enc x)[t % k]?
  | [], t, h => by simp at h
  | x :: zs, t, h => by
    have k0 : 0 < k := by rcases Nat.eq_zero_or_pos k with e | e; · subst e; simp at h
                          · exact e
    rw [List.flatMap_cons]
    by_cases ht : t < k
    · rw [List.getElem?_append_left (by rw [hk]; exact ht), Nat.div_eq_of_lt ht, Nat.mod_eq_of_lt ht]; rfl
    · have e1 : t / k = (t - k) / k + 1 := by rw [Nat.div_eq t k, if_pos ⟨k0, by omega⟩]
      have e2 : t % k = (t - k) % k := Nat.mod_eq_sub_mod (by omega)
      rw [List.getElem?_append_right (by rw [hk]; omega), hk, flat_getK hk zs (t - k) (by rw [List.length_cons, Nat.add_mul, Nat.one_mul] at h; omega), e1, e2, List.getElem?_cons_succ]
theorem flat_lenK (hk : ∀ x, (enc x).length = k) : ∀ (zs : List α), (zs.flatMap enc).length = zs.length * k
  | [] => by simp
  | x :: zs => by rw [List.flatMap_cons, List.length_append, hk, flat_lenK hk zs, List.length_cons, Nat.add_mul, Nat.one_mul, Nat.add_comm]
theorem flatK_eq [Inhabited α] (hk : ∀ x, (enc x).length = k) (zs : List α) : Go.Sort.flatK enc k zs.toArray = (zs.flatMap enc).toArray := by
  refine Go.Sort.ext_get! (by rw [Go.Sort.size_flatK]; simp only [List.size_toArray]; exact (flat_lenK hk zs).symm) fun t ht => ?_
  rw [Go.Sort.size_flatK, List.size_toArray] at ht
  rw [Go.Sort.get_flatK _ _ _ _ (by simpa using ht)]
  have k0 : 0 < k := by rcases Nat.eq_zero_or_pos k with e | e; · subst e; simp at ht
                        · exact e
  have hq : t / k < zs.length := Nat.div_lt_of_lt_mul (by rw [Nat.mul_comm]; exact ht)
  have h1 := flat_getK hk zs t ht
  have h2 : zs[t / k]? = some zs[t / k] := List.getElem?_eq_getElem hq
  have hm : t % k < (enc zs[t / k]).length := by rw [hk]; exact Nat.mod_lt _ k0
  rw [h2] at h1
  simp only [Option.bind_some] at h1
  rw [List.getElem?_eq_getElem hm] at h1
  simp only [getElem!_def, List.getElem?_toArray]
  rw [h1, h2]
  simp only [List.getElem?_eq_getElem hm]
theorem rel_flatK {f : α → List Ce} (hf : ∀ x, f x = (enc x).map Ce.v) {I : IM} {R : RM} : ∀ (zs : List α), All2 (Ce.rel I R) (zs.map f).flatten (zs.flatMap enc)
  | [] => trivial
  | z :: zs => by
    have h1 : ∀ l : List Value, All2 (Ce.rel I R) (l.map Ce.v) l := fun l => by
      induction l with
      | nil => trivial
      | cons v l ih => exact ⟨rfl, ih⟩
    rw [List.map_cons, List.flatten_cons, List.flatMap_cons, hf z]
    exact All2.append (h1 _) (rel_flatK hf zs)
theorem wz_rowK [Inhabited α] {f : α → List Ce} (hk : ∀ x, (enc x).length = k) (hf : ∀ x, f x = (enc x).map Ce.v) {W : Wo} {K : Kr} {I : IM} {R : RM} {w : World} (hw : Y.Wz W (ky K) I R w) {i : Nat} {b : Blk} {p : Loc} (hb : kz K i = some (.b b)) (hp : I i = some p) (hsz : b.sz = k) {zs zs' : List α} {rest : List (List Ce)} (hr : b.rows = zs.map f ++ rest) (hl : zs'.length = zs.length) (n : Nat) (os : Array Obj) :
    Y.Wz W (ky ((i, some (.b ⟨zs'.map f ++ rest, b.sz, b.ty, b.bx⟩)) :: K)) I R (Go.Proofs.sortWorldK enc k w p.b 0 n zs'.toArray os) := by
  have hw1 := aheadZ hw n
  have hbi : Y.blkOf (ky K) i = some b := by unfold Y.blkOf; rw [ky_of hb]; rfl
  obtain ⟨p', hp', hkb⟩ := hw1.wd.blk i b hbi
  rw [hp] at hp'; cases hp'
  obtain ⟨cs, hm, hcs, _⟩ := hkb.mem
  have hfit := hkb.fit
  have hps := hkb.sz
  have hlen : (zs'.flatMap enc).length ≤ cs.size := by
    rw [hcs, hps, hsz, flat_lenK hk]
    rw [hr] at hfit
    simp at hfit
    exact Nat.mul_le_mul_right _ (by omega)
  unfold Go.Proofs.sortWorldK Go.Sort.putRowK
  rw [flatK_eq hk, putRow_setCellsK hm _ hlen]
  have h0 := Wd.lay (q := 0) (src := zs'.map f) (us := zs'.flatMap enc) (Y.wd_step hw1.wd) hbi hp (by rw [hr]; simp; omega) (fun r hr => by
    obtain ⟨z, _, rfl⟩ := List.mem_map.1 hr; rw [hsz, hf, List.length_map, hk]) (by rw [flat_lenK hk, hsz, List.length_map]) (rel_flatK hf zs')
  rw [Nat.zero_mul] at h0
  have h1 := hw1.onK (.refl _) (.refl _) h0
  have e : Wx.lay b.rows 0 (zs'.map f) = zs'.map f ++ rest := by
    rw [hr]; unfold Wx.lay
    simp only [List.take_zero, List.nil_append, List.length_map, Nat.zero_add]
    congr 1
    rw [List.drop_append, List.drop_eq_nil_of_le (by simp; omega)]
    simp [hl]
  rw [e] at h1
  rw [← ky_up] at h1
  exact Y.Wz.grow h1 (bel_grown _ os)
theorem holds_rowK [Inhabited α] {f : α → List Ce} (hk : ∀ x, (enc x).length = k) (hf : ∀ x, f x = (enc x).map Ce.v) {W : Wo} {K : Kr} {I : IM} {R : RM} {w : World} (hw : Y.Wz W (ky K) I R w) {i : Nat} {b : Blk} {p : Loc} (hb : kz K i = some (.b b)) (hp : I i = some p) (hsz : b.sz = k) {zs : List α} {rest : List (List Ce)} (hr : b.rows = zs.map f ++ rest) : Go.Sort.HoldsK enc k w p.b 0 zs.toArray := by
  have hbi : Y.blkOf (ky K) i = some b := by unfold Y.blkOf; rw [ky_of hb]; rfl
  obtain ⟨p', hp', hkb⟩ := hw.wd.blk i b hbi
  rw [hp] at hp'; cases hp'
  obtain ⟨cs, hm, hcs, hc⟩ := hkb.mem
  have hps := hkb.sz
  unfold Go.Sort.HoldsK
  rw [flatK_eq hk]
  intro j hj
  rw [List.size_toArray, flat_lenK hk] at hj
  have k0 : 0 < k := by rcases Nat.eq_zero_or_pos k with e | e; · subst e; simp at hj
                        · exact e
  have hq : j / k < zs.length := Nat.div_lt_of_lt_mul (by rw [Nat.mul_comm]; exact hj)
  have hmod : j % k < (enc zs[j / k]).length := by rw [hk]; exact Nat.mod_lt _ k0
  have h1 : b.rows[j / k]? = some (f zs[j / k]) := by rw [hr, List.getElem?_append_left (by simpa using hq)]; simp [hq]
  have h2 : (f zs[j / k])[j % k]? = some (Ce.v (enc zs[j / k])[j % k]) := by rw [hf, List.getElem?_map, List.getElem?_eq_getElem hmod]; rfl
  obtain ⟨u, hu, hru⟩ := hc _ _ _ _ h1 h2
  have hu2 : u = (enc zs[j / k])[j % k] := hru
  subst hu2
  have hjj : j / k * p.sz + j % k = j := by rw [hps, hsz, Nat.mul_comm]; exact Nat.div_add_mod j k
  rw [hjj] at hu
  have h3 := flat_getK hk zs j hj
  rw [List.getElem?_eq_getElem hq] at h3
  simp only [Option.bind_some, List.getElem?_eq_getElem hmod] at h3
  refine ⟨?_, ?_⟩
  · unfold World.cell?
    simp only [hm, Nat.zero_add]
    simp only [getElem!_def, List.getElem?_toArray, h3, id]
    simpa using hu
  · exact frozen_of_row w p.b _ _ _ hm
end
theorem bel_grow {w w' : World} (h : Bel w.heap.size w w') : ∃ q os, w' = Go.Sort.grow (w.drewN q) os := by
  refine ⟨w'.drawn - w.drawn, (w'.heap.toList.drop w.heap.size).toArray, ?_⟩
  have hh : w'.heap = w.heap ++ (w'.heap.toList.drop w.heap.size).toArray := by
    apply Array.ext_getElem?
    intro i
    by_cases hi : i < w.heap.size
    · rw [h.block i hi, Array.getElem?_append_left hi]
    · rw [Array.getElem?_append_right (by omega), (List.getElem?_toArray : (w'.heap.toList.drop w.heap.size).toArray[i - w.heap.size]? = _), List.getElem?_drop, show w.heap.size + (i - w.heap.size) = i by omega, Array.getElem?_toList]
  have hd : w'.drawn = w.drawn + (w'.drawn - w.drawn) := by have := h.drawn; omega
  have h1 := h.os
  have h2 := h.tape
  have h3 := h.output
  unfold Go.Sort.grow World.drewN
  cases w'
  simp only at *
  subst h1 h2 h3
  simp only [World.mk.injEq, and_true, true_and]
  exact ⟨hh, hd⟩
theorem con_cmp {P : Program} {g : FuncId} {α : Type} [Inhabited α] {enc : α → List Value} {k : Nat} {cf : α → α → Int} {blk off size : Nat} {w : World} (h : ∀ x y : α, Con P g [.agg ((enc x).map Ce.v), .agg ((enc y).map Ce.v)] (fun rx rK rt => rx = .val (.int .i64 (cf x y)) ∧ rK = [] ∧ rt = 0)) : Go.Proofs.CmpLays P g #[] enc k cf blk off size w := by
  intro m os dk _ x y
  have hr : ∀ (I : IM) (R : RM) (l : List Value), All2 (Ce.rel I R) (l.map Ce.v) l := fun I R l => by
    induction l with
    | nil => trivial
    | cons v l ih => exact ⟨rfl, ih⟩
  rw [Array.append_empty]
  refine Calls.mono ((h x y).run _ [.agg (enc x).toArray, .agg (enc y).toArray] ⟨⟨_, rfl, hr _ _ _⟩, ⟨_, rfl, hr _ _ _⟩, trivial⟩) ?_
  rintro e w' ⟨v, rx, Kc, tc, I, Rf, rfl, hw, _, _, hx, rfl, _, _⟩
  have hv : v = .int .i64 (cf x y) := hx
  subst hv
  exact ⟨rfl, bel_grow hw.below.below⟩
theorem callZ_sortK {P : Program} {m : Nat} {g cl : FuncId} {i n : Nat} {c : Option Nat} {b : Blk} {K : Kr} {top : Nat} {k : AV → Kr → Nat → Prop} {α : Type} [Inhabited α] {enc : α → List Value} {kk : Nat} (hfn : fnB P g = true) (f : α → List Ce) (lt : α → α → Bool) (zs : List α) (rest : List (List Ce)) (hk : ∀ x, (enc x).length = kk) (hf : ∀ x, f x = (enc x).map Ce.v)
    (hb : kz K i = some (.b b)) (hsz : b.sz = kk) (hr : b.rows = zs.map f ++ rest) (hn : n = zs.length)
    (C : ∀ blk cap w, Go.Sort.HoldsK enc kk w blk 0 zs.toArray → blk < w.heap.size → Calls P g #[.slice (some ⟨blk, 0, none⟩) zs.toArray.size cap, .func (.func cl) #[] #[]] w fun e w' => e = .returned (.tuple #[]) ∧ ∃ d' n os, Go.Sort.PermIn 0 zs.toArray.size zs.toArray d' ∧ Go.Sort.SortedIn lt 0 zs.toArray.size d' ∧ w' = Go.Proofs.sortWorldK enc kk w blk 0 n d' os)
    (hkk : ∀ zs' : List α, zs'.Perm zs → zs'.Pairwise (fun x y => lt y x = false) → k (.tup []) ((i, some (.b ⟨zs'.map f ++ rest, b.sz, b.ty, b.bx⟩)) :: K) top) : CallZ P m (.fn g []) [.c (.osl i 0 n c), .c (.fn cl [])] K top k := by
  refine ⟨fun W I R w v vs hw hd hm hvs hv => ?_⟩
  obtain ⟨us, hus, rfl⟩ : ∃ us, All2 (Pt.rel I) [] us ∧ v = .func (.func g) #[] us.toArray := hv
  cases us with
  | cons _ _ => exact hus.elim
  | nil =>
    cases vs with
    | nil => exact hvs.elim
    | cons v1 vs => cases vs with
      | nil => exact hvs.2.elim
      | cons v2 vs => cases vs with
        | cons _ _ => exact hvs.2.2.elim
        | nil =>
          obtain ⟨p, cap, hp, rfl, hc1, hc2, hc3⟩ := (show ∃ p c', I i = some p ∧ v1 = .slice (some ⟨p.b, 0 * p.sz, none⟩) n c' ∧ n ≤ c' ∧ 0 + c' ≤ p.tot ∧ ∀ c0, c = some c0 → c' = c0 from hvs.1)
          obtain ⟨us2, hus2, rfl⟩ : ∃ us, All2 (Pt.rel I) [] us ∧ v2 = .func (.func cl) #[] us.toArray := hvs.2.1
          cases us2 with
          | cons _ _ => exact hus2.elim
          | nil =>
            refine .inl (.inl ⟨g, #[], #[], rfl, hfn, ?_⟩)
            rw [Nat.zero_mul]
            subst hn
            have hbi : Y.blkOf (ky K) i = some b := by unfold Y.blkOf; rw [ky_of hb]; rfl
            refine Calls.mono (C p.b cap w (holds_rowK hk hf hw hb hp hsz hr) (hw.wd.lt hbi hp)) ?_
            rintro e w' ⟨rfl, d', n', os, hperm, hsort, rfl⟩
            obtain ⟨p1, _, p3⟩ := hperm
            have hd2 : d'.toList.toArray = d' := by simp
            have hP : d'.toList.Perm zs := by
              have e1 : d'.extract 0 zs.toArray.size = d' := by rw [← p1]; simp
              have e2 : zs.toArray.extract 0 zs.toArray.size = zs.toArray := by simp
              rw [e1, e2] at p3
              simpa using p3
            have hS : d'.toList.Pairwise (fun x y => lt y x = false) := by
              rw [List.pairwise_iff_getElem]
              intro a bq ha hbq hab
              have := hsort a bq (Nat.zero_le _) hab (by rw [← p1]; simpa using hbq)
              rw [getElem!_pos d' bq (by simpa using hbq), getElem!_pos d' a (by simpa using ha)] at this
              simpa using this
            refine ⟨_, .tup [], _, top, I, R, rfl, ?_, hd, Nat.le_refl _, fun _ _ => rfl, .refl _, ⟨[], rfl, trivial⟩, hkk d'.toList hP hS⟩
            rw [← hd2]
            simpa using wz_rowK hk hf hw hb hp hsz hr (by simpa using p1) n' os
end Go.Proofs.Ytehhmkdghgabaaa.Wx.Z
namespace Go.Proofs.Ytehhmkdghgabaaa.Wx.Z
open Go Go.RowKit Wx
theorem con_fz {P : Program} {g : FuncId} {args : List A0} {xs : List A0} (ys : List A0) {K0 : Wx.Kr} {t0 : Nat} (h : Con P g args (fun x K t => x = retV xs ∧ K = K0 ∧ t = t0)) (hy : All2 (frzA (kg K0)) xs ys) : Con P g args (fun x K t => x = retV ys ∧ K = [] ∧ t = 0) := by
  refine ⟨h.fn, fun w vs hvs => (h.run w vs hvs).mono ?_⟩
  rintro e w' ⟨v, x, Kc, tc, I, Rf, rfl, hw, hI, hK, hx, rfl, rfl, rfl⟩
  obtain ⟨g1, g2⟩ := retV_frz hw hy hx
  have g3 := (fz_all hw).1
  have g4 := (g3.weak (s := ⟨[], [], tc⟩) (K0 := []) (l := []) List.nodup_nil trivial hI).own (fun j b h => by simp [kg] at h)
  refine ⟨v, _, [], 0, _, fzR (Wo.of w) (fun _ => Rf) w' true, rfl, g4, fun j _ => ?_, by simp, fzV_rel g2 g1, rfl, rfl, rfl⟩
  simp only [rn, List.getElem?_nil]
  exact hI _ (Nat.le_add_right _ _)
end Go.Proofs.Ytehhmkdghgabaaa.Wx.Z
/-
  The second layer, with an oracle: calls of functions that are told by contracts.
-/
namespace Go.Proofs.Ytehhmkdghgabaaa.Wx.Y
open Go Go.RowKit
set_option linter.unusedVariables false
def callS (C : CallFn) (FT : FTab) (T : Tab) (lf : Nat) : CallFn := fun c avs K top =>
  match c with
    | .yl j => roundE (fun n j c s => codeE (C) T n lf (some j) c s) j avs K top
    | .fn g cap => match ftGet FT g with
      | some fn => match fn.body with
        | some c => match Nat.ble (avs ++ capA cap).length fn.ntmps, Nat.ble (avs ++ capA cap).length big with
          | true, true => match codeE (C) T fn.ntmps lf none c ⟨argE 0 (avs ++ capA cap), K, top, []⟩ with
            | some (.normal, s) => match resE T s fn.results.toList with
              | some xs => some ⟨retV xs, s.K, s.top, s.log⟩
              | none => none
            | some (.ret, s) => match resE T s fn.results.toList with
              | some xs => some ⟨retV xs, s.K, s.top, s.log⟩
              | none => none
            | _ => none
          | _, _ => none
        | none => none
      | none => none
    | .mf g cap => match ftGet FT g with
      | some fn => match fn.body with
        | some c => match Nat.ble (capA cap ++ avs).length fn.ntmps, Nat.ble (capA cap ++ avs).length big with
          | true, true => match codeE (C) T fn.ntmps lf none c ⟨argE 0 (capA cap ++ avs), K, top, []⟩ with
            | some (.normal, s) => match resE T s fn.results.toList with
              | some xs => some ⟨retV xs, s.K, s.top, s.log⟩
              | none => none
            | some (.ret, s) => match resE T s fn.results.toList with
              | some xs => some ⟨retV xs, s.K, s.top, s.log⟩
              | none => none
            | _ => none
          | _, _ => none
        | none => none
      | none => none
    | _ => none
theorem callS_sound {P : Program} {C : CallFn} {FT : FTab} {T : Tab} (hF : FtOk P FT) (hT : TabOk P T) (hmix : P.follows .mixedOrders = true) {lf : Nat} (hC : CallsOk P C) : CallsOk P (callS C FT T lf) := fun c avs K top r h => by
  unfold callS at h
  split at h
  · rename_i j
    exact round_core (fun n j c s e s' h => codeE_sound hT hmix (hC) c s e s' h) h
  · rename_i g cap
    split at h
    · rename_i fn hfn
      obtain ⟨hf, hfb⟩ := hF _ _ hfn
      split at h
      · rename_i c hc
        split at h
        · rename_i hle hbig
          have hle' : (avs ++ capA cap).length ≤ fn.ntmps := Nat.le_of_ble_eq_true hle
          have hbig' : (avs ++ capA cap).length ≤ big := Nat.le_of_ble_eq_true hbig
          have key : ∀ (e : Exit) (s : ES) (xs : List A0), (e = .normal ∨ e = .ret) → codeE (C) T fn.ntmps lf none c ⟨argE 0 (avs ++ capA cap), K, top, []⟩ = some (e, s) → resE T s fn.results.toList = some xs →
              CallE P (.fn g cap) avs K.get top (retV xs) s.K.get s.top ∧ ∀ j, j ∉ s.log → s.K.get j = K.get j := by
            intro e s xs he hco hxs
            obtain ⟨a1, a2, a3⟩ := codeE_sound hT hmix (hC) c _ _ _ hco
            refine ⟨⟨a1, fun W I R w v vs hw hd hvs hv => ?_⟩, fun j hj => (a2 j hj).2⟩
            obtain ⟨us, hus, rfl⟩ : ∃ us, All2 (Pt.rel I) cap us ∧ v = .func (.func g) #[] us.toArray := hv
            have hall := hvs.append (capA_rel (R := R) hus)
            refine .inl ⟨g, #[], us.toArray, rfl, hfb, ?_⟩
            rw [Array.empty_append]
            have hargs : vs.toArray ++ us.toArray = (vs ++ us).toArray := by simp
            rw [hargs]
            refine fr_calls (r := none) (n := 0) (callsIn_of_wp_marks hf hc trivial (wpIn_mono (a3 W I R _ w none rfl (st_argE hall hw (by rw [← hall.length]; exact hle') hbig') hd) ?_))
            rintro e' a' w' ⟨rfl, I', R', k1, k2, k3, k4⟩
            have fin : LeavesInM (fr none) 0 P fn a'.tmps (fun e w' => ∃ u I' R', e = .returned u ∧ Wz W s.K.get I' R' w' ∧ (∀ j, s.top ≤ j → I' j = none) ∧ (∀ j, j < top → I' j = I j) ∧ RExt R R' ∧ (retV xs).rel I' R' u) a'.defers .returning w' := by
              refine leaves_marks _ _ k1.mks k1.wz fun w2 hw2 => ?_
              obtain ⟨v, g1, g2⟩ := resE_results hT (⟨k1.size, (trivial : Mk W (⟨a'.tmps, []⟩ : Act).defers w2), fun t x hx => k1.fr t x hx, hw2⟩ : St fn.ntmps W s.F.get s.K.get I' R' ⟨a'.tmps, []⟩ w2) hxs
              exact ⟨v, g1, v, I', R', rfl, hw2, k2, k3, k4, g2⟩
            rcases he with rfl | rfl
            · exact fin
            · exact fin
          split at h
          · rename_i s hco
            split at h
            · rename_i xs hxs
              simp only [Option.some.injEq] at h
              subst h
              exact key _ _ _ (.inl rfl) hco hxs
            · cases h
          · rename_i s hco
            split at h
            · rename_i xs hxs
              simp only [Option.some.injEq] at h
              subst h
              exact key _ _ _ (.inr rfl) hco hxs
            · cases h
          · cases h
        · cases h
      · cases h
    · cases h
  · rename_i g cap
    split at h
    · rename_i fn hfn
      obtain ⟨hf, hfb⟩ := hF _ _ hfn
      split at h
      · rename_i c hc
        split at h
        · rename_i hle hbig
          have hle' : (capA cap ++ avs).length ≤ fn.ntmps := Nat.le_of_ble_eq_true hle
          have hbig' : (capA cap ++ avs).length ≤ big := Nat.le_of_ble_eq_true hbig
          have key : ∀ (e : Exit) (s : ES) (xs : List A0), (e = .normal ∨ e = .ret) → codeE (C) T fn.ntmps lf none c ⟨argE 0 (capA cap ++ avs), K, top, []⟩ = some (e, s) → resE T s fn.results.toList = some xs →
              CallE P (.mf g cap) avs K.get top (retV xs) s.K.get s.top ∧ ∀ j, j ∉ s.log → s.K.get j = K.get j := by
            intro e s xs he hco hxs
            obtain ⟨a1, a2, a3⟩ := codeE_sound hT hmix (hC) c _ _ _ hco
            refine ⟨⟨a1, fun W I R w v vs hw hd hvs hv => ?_⟩, fun j hj => (a2 j hj).2⟩
            obtain ⟨us, hus, rfl⟩ : ∃ us, All2 (Pt.rel I) cap us ∧ v = .func (.func g) us.toArray #[] := hv
            have hall := (capA_rel (R := R) hus).append hvs
            refine .inl ⟨g, us.toArray, #[], rfl, hfb, ?_⟩
            have hargs : us.toArray ++ vs.toArray ++ #[] = (us ++ vs).toArray := by simp
            rw [hargs]
            refine fr_calls (r := none) (n := 0) (callsIn_of_wp_marks hf hc trivial (wpIn_mono (a3 W I R _ w none rfl (st_argE hall hw (by rw [← hall.length]; exact hle') hbig') hd) ?_))
            rintro e' a' w' ⟨rfl, I', R', k1, k2, k3, k4⟩
            have fin : LeavesInM (fr none) 0 P fn a'.tmps (fun e w' => ∃ u I' R', e = .returned u ∧ Wz W s.K.get I' R' w' ∧ (∀ j, s.top ≤ j → I' j = none) ∧ (∀ j, j < top → I' j = I j) ∧ RExt R R' ∧ (retV xs).rel I' R' u) a'.defers .returning w' := by
              refine leaves_marks _ _ k1.mks k1.wz fun w2 hw2 => ?_
              obtain ⟨v, g1, g2⟩ := resE_results hT (⟨k1.size, (trivial : Mk W (⟨a'.tmps, []⟩ : Act).defers w2), fun t x hx => k1.fr t x hx, hw2⟩ : St fn.ntmps W s.F.get s.K.get I' R' ⟨a'.tmps, []⟩ w2) hxs
              exact ⟨v, g1, v, I', R', rfl, hw2, k2, k3, k4, g2⟩
            rcases he with rfl | rfl
            · exact fin
            · exact fin
          split at h
          · rename_i s hco
            split at h
            · rename_i xs hxs
              simp only [Option.some.injEq] at h
              subst h
              exact key _ _ _ (.inl rfl) hco hxs
            · cases h
          · rename_i s hco
            split at h
            · rename_i xs hxs
              simp only [Option.some.injEq] at h
              subst h
              exact key _ _ _ (.inr rfl) hco hxs
            · cases h
          · cases h
        · cases h
      · cases h
    · cases h
  · cases h
def callO (O : CallFn) (FT : FTab) (T : Tab) (lf : Nat) : Nat → CallFn
  | 0 => O
  | d + 1 => fun c avs K top => match O c avs K top with
    | some r => some r
    | none => callS (callO O FT T lf d) FT T lf c avs K top
theorem callO_sound {P : Program} {O : CallFn} {FT : FTab} {T : Tab} (hF : FtOk P FT) (hT : TabOk P T) (hmix : P.follows .mixedOrders = true) (hO : CallsOk P O) {lf : Nat} : ∀ (d : Nat), CallsOk P (callO O FT T lf d)
  | 0 => hO
  | d + 1 => fun c avs K top r h => by
    unfold callO at h
    split at h
    · rename_i r' hr
      cases h
      exact hO _ _ _ _ _ hr
    · exact callS_sound hF hT hmix (callO_sound hF hT hmix hO d) _ _ _ _ _ h
theorem con_runO {P : Program} {O : CallFn} {FT : FTab} {T : Tab} (hF : FtOk P FT) (hT : TabOk P T) (hmix : P.follows .mixedOrders = true) (hO : CallsOk P O) (lf d : Nat) {g : FuncId} (hfn : fnB P g = true) (h : isT (callO O FT T lf d (.fn g []) [] .e 0) = true) : Con P g [] (fun x K t => x = .val (.bool true) ∧ K = [] ∧ t = 0) := by
  obtain ⟨K, top, log, hr⟩ := isT_spec h
  obtain ⟨⟨h1, h2⟩, _⟩ := callO_sound hF hT hmix hO d _ _ _ _ _ hr
  refine ⟨hfn, fun w vs hvs => ?_⟩
  have hvs0 : vs = [] := by cases vs with
    | nil => rfl
    | cons => exact hvs.elim
  subst hvs0
  have hw : Wz (Wo.of w) (Bt.e : Bt Ob).get (fun _ => none) (fun _ _ _ => none) w := by
    have he : blkOf (Bt.e : Bt Ob).get = fun _ => none := rfl
    refine ⟨?_, fun i o h => (by cases h), fun i j oi oj p q h => (by cases h)⟩
    rw [he]
    exact ⟨fun i b h => (by cases h), fun i j bi bj p q h => (by cases h), fun i b p h => (by cases h), fun f b o u h => (by cases h), fun i b p f o h => (by cases h), fun b o u h => (by cases h), fun b o u h => (by cases h), .refl _, fun _ _ _ _ _ h => h, fun _ h => h.elim⟩
  have := h2 (Wo.of w) (fun _ => none) (fun _ _ _ => none) w (.func (.func g) #[] #[]) [] hw (fun _ _ => rfl) trivial ⟨[], trivial, rfl⟩
  obtain ⟨g', fs', us', hv, hb, hcalls⟩ := this.resolve_right (fun ⟨_, _, _, _, _, hv, _⟩ => by cases hv)
  simp only [Value.func.injEq, Fn.func.injEq] at hv
  obtain ⟨rfl, rfl, rfl⟩ := hv
  rw [Array.empty_append] at hcalls
  rw [show ([] : List Value).toArray ++ #[] = ([] : List Value).toArray by simp] at hcalls
  refine hcalls.mono ?_
  rintro e w' ⟨v, I', R', rfl, k1, k2, k3, k4, k5⟩
  refine ⟨v, .val (.bool true), [], 0, fun _ => none, fun _ _ => none, rfl, ?_, fun _ _ => rfl, (fun p hp => by cases hp), k5, rfl, rfl, rfl⟩
  exact ⟨fun i b h => (by simp [kg] at h), fun i j bi bj p q h => (by simp [kg] at h), fun i b p h => (by simp [kg] at h), fun f b o u h => (by cases h), fun i b p f o h => (by simp [kg] at h), fun b o u h => (by cases h), fun b o u h => (by cases h), k1.wd.below, fun _ _ _ _ _ h => h, fun _ h => h.elim⟩
theorem con_callE {P : Program} {g : FuncId} {avs : List AV} {args : List A0} {res : AV} {K : Nat → Option Ob} {top : Nat} (hl : All2 (lowV (blkOf K)) avs args) (h : Con P g args (fun x K t => x = res ∧ K = [] ∧ t = 0)) (hres : res.ren (top + ·) = res) : CallE P (.fn g []) avs K top res K top := by
  refine ⟨Nat.le_refl _, fun W I R w v vs hw hd hvs hv => ?_⟩
  obtain ⟨hfn, hrun⟩ := con_eff (K0 := blkOf K) (top := top) h hl
  obtain ⟨us, hus, rfl⟩ : ∃ us, All2 (Pt.rel I) [] us ∧ v = .func (.func g) #[] us.toArray := hv
  refine .inl ⟨g, #[], us.toArray, rfl, hfn, ?_⟩
  rw [Array.empty_append]
  refine (hrun (stpB W (blkOf K) I R w) (blkOf K) I R w vs us (wd_step hw.wd) hvs hus (fun i hi => rfl) (fun j h1 h2 => absurd h2 (by first | (simp; done) | omega | (simp; omega)))).mono ?_
  rintro e' w' ⟨u, I', R', rfl, h1, h2, h3, h4, h5⟩
  have hI : ∀ j, I' j = I j := fun j => h3 j (by first | (simp; done) | omega | (simp; omega))
  refine ⟨u, I', R', rfl, ?_, fun j hj => by rw [hI]; exact hd j hj, fun j _ => hI j, h4, hres ▸ h5⟩
  have := hw.onK (kw := []) h2 h4 h1
  exact this
end Go.Proofs.Ytehhmkdghgabaaa.Wx.Y
/-
  The evaluator's oracles: rows of own slices, or read-only ones, decoded.
-/
namespace Go.Proofs.Ytehhmkdghgabaaa.Wx
open Go Go.RowKit
set_option linter.unusedVariables false
namespace Y
def decAll {α : Type} (d : List Ce → Option α) : List (List Ce) → Option (List α)
  | [] => some []
  | r :: rs => match d r, decAll d rs with
    | some x, some xs => some (x :: xs)
    | _, _ => none
theorem decAll_map {α : Type} {d : List Ce → Option α} {en : α → List RT} (hd : ∀ r x, d r = some x → r.map RT.of = (en x).map some) : ∀ {rs : List (List Ce)} {xs : List α}, decAll d rs = some xs → rs.map (List.map RT.of) = (xs.map en).map (List.map some)
  | [], xs, h => by simp only [decAll, Option.some.injEq] at h; subst h; rfl
  | r :: rs, xs, h => by
    simp only [decAll] at h
    split at h
    · rename_i x ys h1 h2
      simp only [Option.some.injEq] at h
      subst h
      simp only [List.map_cons, hd r x h1, decAll_map hd h2]
    · cases h
def rowsD {α : Type} (sz mx : Nat) (d : List Ce → Option α) (K : Nat → Option Ob) : Ce → Option (List α)
  | .v (.slice none 0 0) => some []
  | .osl i q n _ => match K i with
    | some (.b b) => match Nat.beq b.sz sz, decAll d ((b.rows.drop q).take n) with
      | true, some xs => match Nat.beq xs.length n, Nat.ble xs.length mx with
        | true, true => some xs
        | _, _ => none
      | _, _ => none
    | _ => none
  | _ => none
theorem rowsD_low {α : Type} {sz mx : Nat} {d : List Ce → Option α} {en : α → List RT} (hd : ∀ r x, d r = some x → r.map RT.of = (en x).map some) {K : Nat → Option Ob} {c : Ce} {xs : List α} (h : rowsD sz mx d K c = some xs) : lowC (blkOf K) c (.ro false sz (xs.map en)) ∧ xs.length ≤ mx := by
  unfold rowsD at h
  split at h
  · simp only [Option.some.injEq] at h
    subst h
    exact ⟨.inr ⟨sz, rfl⟩, by simp⟩
  · rename_i i q n _
    split at h
    · rename_i b hb
      split at h
      · rename_i ys hsz hys
        split at h
        · rename_i hn hle
          simp only [Option.some.injEq] at h
          subst h
          refine ⟨?_, Nat.le_of_ble_eq_true hle⟩
          have hk : blkOf K i = some b := by unfold blkOf; rw [hb]
          show match blkOf K i with
            | some b => ∃ rows, Ce.ro false sz (ys.map en) = .ro false b.sz rows ∧ rows.length = n ∧ ((b.rows.drop q).take n).map (List.map RT.of) = rows.map (List.map some)
            | none => False
          rw [hk]
          exact ⟨ys.map en, by rw [Nat.eq_of_beq_eq_true hsz], by rw [List.length_map]; exact Nat.eq_of_beq_eq_true hn, decAll_map hd hys⟩
        · cases h
      · cases h
    · cases h
  · cases h
def decI64 : List Ce → Option Int
  | [.v (.int .i64 a)] => some a
  | _ => none
theorem decI64_ok (r : List Ce) (x : Int) (h : decI64 r = some x) : r.map RT.of = [some (RT.v (.int .i64 x))] := by
  unfold decI64 at h
  split at h
  · simp only [Option.some.injEq] at h; subst h; rfl
  · cases h
end Y
end Go.Proofs.Ytehhmkdghgabaaa.Wx
