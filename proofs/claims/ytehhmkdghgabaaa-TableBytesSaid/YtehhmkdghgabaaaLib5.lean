import Derived.Test.YtehhmkdghgabaaaLib4
/-
  slices.Insert and slices.Delete of own rows: what the rows are behind them; blocks and lengths of a call's arguments by another account.
-/
namespace Go.Proofs.Ytehhmkdghgabaaa.Wx.Z
open Go Go.RowKit
set_option linter.unusedVariables false
theorem slN_hc {y : Int} {len : Nat} {cap : Option Nat} {A : Nat → Nat → Prop} (h : Nat) (e2 : y = (h : Int)) (h2 : ∃ c, cap = some c ∧ h ≤ c) (k : A 0 h) : slN none (some y) len cap A := ⟨0, h, rfl, e2, Nat.zero_le _, .inr h2, k⟩
theorem g_le {α : Type} {f : α → List Ce} {l : List α} {R : List (List Ce)} {m : Nat} (h : R = l.map f) (hm : m ≤ l.length) : m ≤ R.length := by subst h; rw [List.length_map]; exact hm
theorem gS_eq {a : Nat} {X : List (List Ce)} {v : List Ce} (ha : 1 ≤ a) (hX : List.take 1 (List.drop 0 X) = [v]) : List.take (Nat.min 1 a) (List.take 1 (List.drop 0 X)) = [v] := by rw [hX, show Nat.min 1 a = 1 from Nat.min_eq_left ha]; rfl
theorem gS_len {a : Nat} {X : List (List Ce)} : (List.take a (List.take 1 X)).length ≤ 1 := by simp; omega
theorem gT_eq {α : Type} {f : α → List Ce} {l : List α} {i a b : Nat} {R : List (List Ce)} (h : R = l.map f) (ha : l.length - i ≤ a) (hb : l.length - i ≤ b) : List.take a (List.take b (List.drop (0 + i) R)) = (l.map f).drop i := by
  subst h
  rw [Nat.zero_add, List.take_of_length_le (i := b) (by simp; omega), List.take_of_length_le (by simp; omega)]
theorem g_ins {α : Type} {f : α → List Ce} {l : List α} {i k : Nat} {R S T : List (List Ce)} {z : List Ce} {v : α} (h : R = l.map f) (hi : i < l.length) (hk : k = l.length + 1 - i) (hS : S = [f v]) (hT : T = (l.map f).drop i) : lay (lay (List.take (i - 0) R ++ List.replicate k z) (0 + i) S) (0 + (i + 1)) T = (l.take i ++ v :: l.drop i).map f := by
  subst h hk hS hT
  rw [List.map_append, List.map_cons, List.map_take, List.map_drop]
  generalize hM : l.map f = M
  have hl : M.length = l.length := by rw [← hM, List.length_map]
  rw [Nat.zero_add, Nat.zero_add, Nat.sub_zero]
  have h1 : (M.take i).length = i := by simp; omega
  have h2 : (M.drop i).length = l.length - i := by simp; omega
  generalize M.take i = A at *
  generalize M.drop i = B at *
  have e1 : lay (A ++ List.replicate (l.length + 1 - i) z) i [f v] = (A ++ [f v]) ++ List.replicate (l.length - i) z := by
    unfold lay
    rw [List.take_left' h1, show l.length + 1 - i = (l.length - i) + 1 by omega, List.replicate_succ, show A ++ z :: List.replicate (l.length - i) z = (A ++ [z]) ++ List.replicate (l.length - i) z by simp, List.drop_left' (by simp [h1])]
    exact (List.append_assoc _ _ _).symm
  rw [e1]
  unfold lay
  rw [List.take_left' (by simp [h1]), List.drop_eq_nil_of_le (by simp [h1, h2]; omega)]
  simp
theorem g_insp {α : Type} {f : α → List Ce} {l : List α} {i : Nat} {S T : List (List Ce)} {g : List Ce} {v : α} (hi : i < l.length) (hS : S = [f v]) (hT : T = (l.map f).drop i) : lay (lay (l.map f ++ [g]) (0 + (i + 1)) T) (0 + i) S = (l.take i ++ v :: l.drop i).map f := by
  subst hS hT
  rw [List.map_append, List.map_cons, List.map_take, List.map_drop]
  generalize hM : l.map f = M
  have hl : M.length = l.length := by rw [← hM, List.length_map]
  rw [Nat.zero_add, Nat.zero_add]
  have h2 : (M.drop i).length = l.length - i := by simp; omega
  have e1 : lay (M ++ [g]) (i + 1) (M.drop i) = M.take (i + 1) ++ M.drop i := by
    unfold lay
    have e0 : (M ++ [g]).drop (i + 1 + (M.drop i).length) = [] := List.drop_eq_nil_of_le (by rw [h2, List.length_append, hl]; simp; omega)
    rw [List.take_append_of_le_length (by omega), e0, List.append_nil]
  rw [e1]
  show List.take i (M.take (i + 1) ++ M.drop i) ++ ([f v] ++ List.drop (i + 1) (M.take (i + 1) ++ M.drop i)) = _
  have h4 : (M.take (i + 1)).length = i + 1 := by simp; omega
  rw [List.take_append_of_le_length (by omega), List.take_take, Nat.min_eq_left (by omega), List.drop_left' h4]
  rfl
theorem gT_eqp {α : Type} {f : α → List Ce} {l : List α} {i a b : Nat} {g : List Ce} (hi : i ≤ l.length) (h : (a = l.length - i ∧ l.length - i ≤ b) ∨ (l.length - i ≤ a ∧ b = l.length - i)) : List.take a (List.take b (List.drop (0 + i) (l.map f ++ [g]))) = (l.map f).drop i := by
  have h2 : ((l.map f).drop i).length = l.length - i := by simp
  rw [Nat.zero_add, List.drop_append_of_le_length (by simp; omega), List.take_take, show min a b = ((l.map f).drop i).length by omega, List.take_left]
theorem g_fit {α : Type} {f : α → List Ce} {l : List α} {i q : Nat} {R : List (List Ce)} {z : List Ce} (h : R = l.map f) (hi : i < l.length) (hq : q ≤ l.length + 1) : q ≤ (List.take (i - 0) R ++ List.replicate (l.length + 1 - i) z).length := by subst h; simp; omega
theorem g_fit2 {α : Type} {f : α → List Ce} {l : List α} {i q : Nat} {R S : List (List Ce)} {z : List Ce} (h : R = l.map f) (hi : i < l.length) (hq : q ≤ l.length + 1) (hS : S.length ≤ 1) : q ≤ (lay (List.take (i - 0) R ++ List.replicate (l.length + 1 - i) z) (0 + i) S).length := by
  rw [lay_length (by subst h; simp; omega)]; exact g_fit h hi hq
theorem g_one {α : Type} {f : α → List Ce} {l : List α} {m k : Nat} {R : List (List Ce)} (hf : ∀ x, ∀ c ∈ f x, c.single = true) (h : R = l.map f) : ∀ r ∈ List.take m (List.drop k R), ∀ c ∈ r, c.single = true := fun r hr => by
  subst h
  obtain ⟨x, _, rfl⟩ := List.mem_map.1 (List.mem_of_mem_drop (List.mem_of_mem_take hr))
  exact hf x
theorem g_len {α : Type} {f : α → List Ce} {l : List α} {m i : Nat} {R : List (List Ce)} (h : R = l.map f) (hm : m + i ≤ l.length) : (List.take m (List.drop (0 + i) R)).length = m := by subst h; simp; omega
theorem g_onep {α : Type} {f : α → List Ce} {l : List α} {a m k : Nat} {g : List Ce} (hf : ∀ x, ∀ c ∈ f x, c.single = true) (ha : a + k ≤ l.length) : ∀ r ∈ List.take a (List.take m (List.drop k (l.map f ++ [g]))), ∀ c ∈ r, c.single = true := fun r hr => by
  rw [List.drop_append_of_le_length (by rw [List.length_map]; omega), List.take_take, List.take_append_of_le_length (by simp; omega)] at hr
  obtain ⟨x, _, rfl⟩ := List.mem_map.1 (List.mem_of_mem_drop (List.mem_of_mem_take hr))
  exact hf x
theorem g_lenp {α : Type} {f : α → List Ce} {l : List α} {m k : Nat} {g : List Ce} (hm : m + k ≤ l.length + 1) : (List.take m (List.drop k (l.map f ++ [g]))).length = m := by simp; omega
theorem g_fitp {α : Type} {f : α → List Ce} {l : List α} {q : Nat} {g : List Ce} (hq : q ≤ l.length + 1) : q ≤ (l.map f ++ [g]).length := by simp; omega
theorem g_fitp2 {α : Type} {f : α → List Ce} {l : List α} {q k : Nat} {g : List Ce} {S : List (List Ce)} (hq : q ≤ l.length + 1) (hk : k + S.length ≤ l.length + 1) : q ≤ (lay (l.map f ++ [g]) k S).length := by rw [lay_length (by simp; omega)]; exact g_fitp hq
theorem g_fitk {α : Type} {k a b N : Nat} {X : List α} (h : k + b ≤ N) : k + (List.take (Nat.min a b) X).length ≤ N := by
  have h2 : (List.take (Nat.min a b) X).length ≤ b := Nat.le_trans (by rw [List.length_take]; exact Nat.min_le_left _ _) (Nat.min_le_right a b)
  omega
theorem g_min {a b k N : Nat} (h : b + k ≤ N) : Nat.min a b + k ≤ N := Nat.le_trans (Nat.add_le_add_right (Nat.min_le_right a b) k) h
theorem g_clr {α : Type} {f : α → List Ce} {l : List α} {q m : Nat} {R S : List (List Ce)} (h : R = l.map f) (hq : q + S.length ≤ l.length) (hm : m ≤ l.length) : m ≤ (lay R q S).length := by
  subst h; rw [lay_length (by rw [List.length_map]; exact hq), List.length_map]; exact hm
theorem del_full {α : Type} {f : α → List Ce} {A : List α} {i m : Nat} {R : List (List Ce)} {z : α} {Zr : List (List Ce)} (h : R = A.map f) (hi : i < A.length) (hm : m = A.length) (hz : Zr = [f z]) : lay (lay R (i - 0) (List.take (m - (i + 1)) (List.drop (0 + (i + 1)) R))) (0 + (m - 1)) Zr = (A.eraseIdx i ++ [z]).map f := by
  subst h hm hz
  rw [List.map_append, List.eraseIdx_eq_take_drop_succ, List.map_append, List.map_take, List.map_drop]
  generalize hM : A.map f = M
  have hl : M.length = A.length := by rw [← hM, List.length_map]
  rw [Nat.zero_add, Nat.zero_add, Nat.sub_zero]
  have h1 : (M.take i).length = i := by rw [List.length_take]; omega
  have h2 : (M.drop (i + 1)).length = A.length - (i + 1) := by rw [List.length_drop]; omega
  rw [List.take_of_length_le (i := A.length - (i + 1)) (by omega)]
  have e1 : lay M i (M.drop (i + 1)) = (M.take i ++ M.drop (i + 1)) ++ M.drop (A.length - 1) := by
    unfold lay
    rw [h2, show i + (A.length - (i + 1)) = A.length - 1 by omega, List.append_assoc]
  have h3 : (M.take i ++ M.drop (i + 1)).length = A.length - 1 := by rw [List.length_append]; omega
  rw [e1]
  have e2 : List.drop (A.length - 1 + [f z].length) ((M.take i ++ M.drop (i + 1)) ++ M.drop (A.length - 1)) = [] := List.drop_eq_nil_of_le (by rw [List.length_append, h3, List.length_drop, List.length_singleton]; omega)
  unfold lay
  rw [List.take_left' h3, e2]
  simp
theorem del_full0 {α : Type} {f : α → List Ce} {A : List α} {i m : Nat} {R : List (List Ce)} {z : α} {Zr : List (List Ce)} (h : R = A.map f) (hi : i + 1 = A.length) (hm : m = A.length) (hz : Zr = [f z]) : lay (lay R (i - 0) []) (0 + (m - 1)) Zr = (A.eraseIdx i ++ [z]).map f := by
  have h9 := del_full (i := i) (m := m) h (by omega) hm hz
  rw [show m - (i + 1) = 0 by omega, List.take_zero] at h9
  exact h9
theorem g_app {α : Type} {f : α → List Ce} {l : List α} {n : Nat} {S : List (List Ce)} {v : α} (hn : n = l.length) (hS : S = [f v]) : List.take n (l.map f) ++ S = (l ++ [v]).map f := by
  subst hn hS; rw [List.take_of_length_le (by simp)]; simp
theorem g_appr {α : Type} {f : α → List Ce} {l : List α} {n : Nat} {S : List (List Ce)} {g : List Ce} {v : α} (hn : n = l.length) (hS : S = [f v]) : lay (l.map f ++ [g]) n S = (l ++ [v]).map f := by
  subst hn hS
  unfold lay
  rw [List.take_left' (by simp), List.drop_eq_nil_of_le (by simp)]; simp
theorem callZ_rw {P : Program} {m top : Nat} {c : Ce} {avs : List AV} {K : Kr} {k : AV → Kr → Nat → Prop} (B : Nat) {rows : List (List Ce)} (rows' : List (List Ce)) {sz : Nat} {ty : TypeId} {bx : Bool} (hB : kz K B = some (.b ⟨rows, sz, ty, bx⟩)) (h : rows = rows')
    (kk : CallZ P m c avs ((B, some (.b ⟨rows', sz, ty, bx⟩)) :: K) top k) : CallZ P m c avs K top k := by
  subst h
  have e : ky ((B, some (.b ⟨rows, sz, ty, bx⟩)) :: K) = ky K := funext fun j => by
    rw [ky_cons]
    unfold Y.upd
    by_cases hj : j = B
    · subst hj; rw [if_pos rfl]; exact (ky_of hB).symm
    · rw [if_neg hj]
  exact ⟨fun W I R w v vs hw => kk.run W I R w v vs (by rw [e]; exact hw)⟩
theorem kz_hit {B : Nat} {o : Option Ob} {K : Kr} : kz ((B, o) :: K) B = o := by
  have e : Nat.beq B B = true := Nat.beq_refl B
  simp only [kz]
  rw [e]
theorem callZ_rwcap {P : Program} {m i n top : Nat} {f : Ce} {asx : List AV} {K : Kr} {k : AV → Kr → Nat → Prop} {rows : List (List Ce)} (rows' : List (List Ce)) {sz : Nat} {ty : TypeId} {bx : Bool} (hB : kz K i = some (.b ⟨rows, sz, ty, bx⟩)) (hr : rows = rows') (hn : rows'.length = n)
    (h : ∀ c, n ≤ c → (¬ n + 1 ≤ c → CallZ P m f (.c (.osl i 0 n (some c)) :: asx) ((i, some (.b ⟨rows', sz, ty, bx⟩)) :: K) top k) ∧ (n + 1 ≤ c → ∀ g : List Value, g.length = sz → CallZ P m f (.c (.osl i 0 n (some c)) :: asx) ((i, some (.b ⟨rows' ++ [g.map Ce.v], sz, ty, bx⟩)) :: (i, some (.b ⟨rows', sz, ty, bx⟩)) :: K) top k)) :
    CallZ P m f (.c (.osl i 0 n none) :: asx) K top k := by
  refine callZ_rw i rows' hB hr ?_
  exact callZ_capS (b := ⟨rows', sz, ty, bx⟩) kz_hit hn h
theorem callZ_rwcapn {P : Program} {m i n top : Nat} {f : Ce} {asx : List AV} {K : Kr} {k : AV → Kr → Nat → Prop} {rows : List (List Ce)} (rows' : List (List Ce)) {sz : Nat} {ty : TypeId} {bx : Bool} (hB : kz K i = some (.b ⟨rows, sz, ty, bx⟩)) (hr : rows = rows')
    (h : ∀ c, n ≤ c → CallZ P m f (.c (.osl i 0 n (some c)) :: asx) ((i, some (.b ⟨rows', sz, ty, bx⟩)) :: K) top k) : CallZ P m f (.c (.osl i 0 n none) :: asx) K top k :=
  callZ_rw i rows' hB hr (callZ_capn h)
theorem callZ_tell {P : Program} {m top B q n : Nat} {cap : Option Nat} {c : Ce} {asx : List AV} {K : Kr} {k : AV → Kr → Nat → Prop} {rows : List (List Ce)} (rows' : List (List Ce)) (n' : Nat) {sz : Nat} {ty : TypeId} {bx : Bool} (hB : kz K B = some (.b ⟨rows, sz, ty, bx⟩)) (h : rows = rows') (hn : n = n')
    (kk : CallZ P m c (.c (.osl B q n' cap) :: asx) ((B, some (.b ⟨rows', sz, ty, bx⟩)) :: K) top k) : CallZ P m c (.c (.osl B q n cap) :: asx) K top k := by
  subst hn
  exact callZ_rw B rows' hB h kk
end Go.Proofs.Ytehhmkdghgabaaa.Wx.Z
/-
  The second layer, with an oracle: calls of functions that are told by contracts.
-/
namespace Go.Proofs.Ytehhmkdghgabaaa.Wx.Y
open Go Go.RowKit
set_option linter.unusedVariables false
def callS (C : CallFn) (FT : FTab) (T : Tab) (lf : Nat) : CallFn := fun c avs K top =>
  match c with
    | .yl j => roundE (fun n j c s => codeE (C) T n lf (some j) c s) j avs K top
    | .fn g cap => match ftGet FT g with
      | some fn => match fn.body with
        | some c => match Nat.ble (avs ++ capA cap).length fn.ntmps, Nat.ble (avs ++ capA cap).length big with
          | true, true => match codeE (C) T fn.ntmps lf none c ⟨argE 0 (avs ++ capA cap), K, top, []⟩ with
            | some (.normal, s) => match resE T s fn.results.toList with
              | some xs => some ⟨retV xs, s.K, s.top, s.log⟩
              | none => none
            | some (.ret, s) => match resE T s fn.results.toList with
              | some xs => some ⟨retV xs, s.K, s.top, s.log⟩
              | none => none
            | _ => none
          | _, _ => none
        | none => none
      | none => none
    | .mf g cap => match ftGet FT g with
      | some fn => match fn.body with
        | some c => match Nat.ble (capA cap ++ avs).length fn.ntmps, Nat.ble (capA cap ++ avs).length big with
          | true, true => match codeE (C) T fn.ntmps lf none c ⟨argE 0 (capA cap ++ avs), K, top, []⟩ with
            | some (.normal, s) => match resE T s fn.results.toList with
              | some xs => some ⟨retV xs, s.K, s.top, s.log⟩
              | none => none
            | some (.ret, s) => match resE T s fn.results.toList with
              | some xs => some ⟨retV xs, s.K, s.top, s.log⟩
              | none => none
            | _ => none
          | _, _ => none
        | none => none
      | none => none
    | _ => none
theorem callS_sound {P : Program} {C : CallFn} {FT : FTab} {T : Tab} (hF : FtOk P FT) (hT : TabOk P T) (hmix : P.follows .mixedOrders = true) {lf : Nat} (hC : CallsOk P C) : CallsOk P (callS C FT T lf) := fun c avs K top r h => by
  unfold callS at h
  split at h
  · rename_i j
    exact round_core (fun n j c s e s' h => codeE_sound hT hmix (hC) c s e s' h) h
  · rename_i g cap
    split at h
    · rename_i fn hfn
      obtain ⟨hf, hfb⟩ := hF _ _ hfn
      split at h
      · rename_i c hc
        split at h
        · rename_i hle hbig
          have hle' : (avs ++ capA cap).length ≤ fn.ntmps := Nat.le_of_ble_eq_true hle
          have hbig' : (avs ++ capA cap).length ≤ big := Nat.le_of_ble_eq_true hbig
          have key : ∀ (e : Exit) (s : ES) (xs : List A0), (e = .normal ∨ e = .ret) → codeE (C) T fn.ntmps lf none c ⟨argE 0 (avs ++ capA cap), K, top, []⟩ = some (e, s) → resE T s fn.results.toList = some xs →
              CallE P (.fn g cap) avs K.get top (retV xs) s.K.get s.top ∧ ∀ j, j ∉ s.log → s.K.get j = K.get j := by
            intro e s xs he hco hxs
            obtain ⟨a1, a2, a3⟩ := codeE_sound hT hmix (hC) c _ _ _ hco
            refine ⟨⟨a1, fun W I R w v vs hw hd hvs hv => ?_⟩, fun j hj => (a2 j hj).2⟩
            obtain ⟨us, hus, rfl⟩ : ∃ us, All2 (Pt.rel I) cap us ∧ v = .func (.func g) #[] us.toArray := hv
            have hall := hvs.append (capA_rel (R := R) hus)
            refine .inl ⟨g, #[], us.toArray, rfl, hfb, ?_⟩
            rw [Array.empty_append]
            have hargs : vs.toArray ++ us.toArray = (vs ++ us).toArray := by simp
            rw [hargs]
            refine fr_calls (r := none) (n := 0) (callsIn_of_wp_marks hf hc trivial (wpIn_mono (a3 W I R _ w none rfl (st_argE hall hw (by rw [← hall.length]; exact hle') hbig') hd) ?_))
            rintro e' a' w' ⟨rfl, I', R', k1, k2, k3, k4⟩
            have fin : LeavesInM (fr none) 0 P fn a'.tmps (fun e w' => ∃ u I' R', e = .returned u ∧ Wz W s.K.get I' R' w' ∧ (∀ j, s.top ≤ j → I' j = none) ∧ (∀ j, j < top → I' j = I j) ∧ RExt R R' ∧ (retV xs).rel I' R' u) a'.defers .returning w' := by
              refine leaves_marks _ _ k1.mks k1.wz fun w2 hw2 => ?_
              obtain ⟨v, g1, g2⟩ := resE_results hT (⟨k1.size, (trivial : Mk W (⟨a'.tmps, []⟩ : Act).defers w2), fun t x hx => k1.fr t x hx, hw2⟩ : St fn.ntmps W s.F.get s.K.get I' R' ⟨a'.tmps, []⟩ w2) hxs
              exact ⟨v, g1, v, I', R', rfl, hw2, k2, k3, k4, g2⟩
            rcases he with rfl | rfl
            · exact fin
            · exact fin
          split at h
          · rename_i s hco
            split at h
            · rename_i xs hxs
              simp only [Option.some.injEq] at h
              subst h
              exact key _ _ _ (.inl rfl) hco hxs
            · cases h
          · rename_i s hco
            split at h
            · rename_i xs hxs
              simp only [Option.some.injEq] at h
              subst h
              exact key _ _ _ (.inr rfl) hco hxs
            · cases h
          · cases h
        · cases h
      · cases h
    · cases h
  · rename_i g cap
    split at h
    · rename_i fn hfn
      obtain ⟨hf, hfb⟩ := hF _ _ hfn
      split at h
      · rename_i c hc
        split at h
        · rename_i hle hbig
          have hle' : (capA cap ++ avs).length ≤ fn.ntmps := Nat.le_of_ble_eq_true hle
          have hbig' : (capA cap ++ avs).length ≤ big := Nat.le_of_ble_eq_true hbig
          have key : ∀ (e : Exit) (s : ES) (xs : List A0), (e = .normal ∨ e = .ret) → codeE (C) T fn.ntmps lf none c ⟨argE 0 (capA cap ++ avs), K, top, []⟩ = some (e, s) → resE T s fn.results.toList = some xs →
              CallE P (.mf g cap) avs K.get top (retV xs) s.K.get s.top ∧ ∀ j, j ∉ s.log → s.K.get j = K.get j := by
            intro e s xs he hco hxs
            obtain ⟨a1, a2, a3⟩ := codeE_sound hT hmix (hC) c _ _ _ hco
            refine ⟨⟨a1, fun W I R w v vs hw hd hvs hv => ?_⟩, fun j hj => (a2 j hj).2⟩
            obtain ⟨us, hus, rfl⟩ : ∃ us, All2 (Pt.rel I) cap us ∧ v = .func (.func g) us.toArray #[] := hv
            have hall := (capA_rel (R := R) hus).append hvs
            refine .inl ⟨g, us.toArray, #[], rfl, hfb, ?_⟩
            have hargs : us.toArray ++ vs.toArray ++ #[] = (us ++ vs).toArray := by simp
            rw [hargs]
            refine fr_calls (r := none) (n := 0) (callsIn_of_wp_marks hf hc trivial (wpIn_mono (a3 W I R _ w none rfl (st_argE hall hw (by rw [← hall.length]; exact hle') hbig') hd) ?_))
            rintro e' a' w' ⟨rfl, I', R', k1, k2, k3, k4⟩
            have fin : LeavesInM (fr none) 0 P fn a'.tmps (fun e w' => ∃ u I' R', e = .returned u ∧ Wz W s.K.get I' R' w' ∧ (∀ j, s.top ≤ j → I' j = none) ∧ (∀ j, j < top → I' j = I j) ∧ RExt R R' ∧ (retV xs).rel I' R' u) a'.defers .returning w' := by
              refine leaves_marks _ _ k1.mks k1.wz fun w2 hw2 => ?_
              obtain ⟨v, g1, g2⟩ := resE_results hT (⟨k1.size, (trivial : Mk W (⟨a'.tmps, []⟩ : Act).defers w2), fun t x hx => k1.fr t x hx, hw2⟩ : St fn.ntmps W s.F.get s.K.get I' R' ⟨a'.tmps, []⟩ w2) hxs
              exact ⟨v, g1, v, I', R', rfl, hw2, k2, k3, k4, g2⟩
            rcases he with rfl | rfl
            · exact fin
            · exact fin
          split at h
          · rename_i s hco
            split at h
            · rename_i xs hxs
              simp only [Option.some.injEq] at h
              subst h
              exact key _ _ _ (.inl rfl) hco hxs
            · cases h
          · rename_i s hco
            split at h
            · rename_i xs hxs
              simp only [Option.some.injEq] at h
              subst h
              exact key _ _ _ (.inr rfl) hco hxs
            · cases h
          · cases h
        · cases h
      · cases h
    · cases h
  · cases h
def callO (O : CallFn) (FT : FTab) (T : Tab) (lf : Nat) : Nat → CallFn
  | 0 => O
  | d + 1 => fun c avs K top => match O c avs K top with
    | some r => some r
    | none => callS (callO O FT T lf d) FT T lf c avs K top
theorem callO_sound {P : Program} {O : CallFn} {FT : FTab} {T : Tab} (hF : FtOk P FT) (hT : TabOk P T) (hmix : P.follows .mixedOrders = true) (hO : CallsOk P O) {lf : Nat} : ∀ (d : Nat), CallsOk P (callO O FT T lf d)
  | 0 => hO
  | d + 1 => fun c avs K top r h => by
    unfold callO at h
    split at h
    · rename_i r' hr
      cases h
      exact hO _ _ _ _ _ hr
    · exact callS_sound hF hT hmix (callO_sound hF hT hmix hO d) _ _ _ _ _ h
theorem con_runO {P : Program} {O : CallFn} {FT : FTab} {T : Tab} (hF : FtOk P FT) (hT : TabOk P T) (hmix : P.follows .mixedOrders = true) (hO : CallsOk P O) (lf d : Nat) {g : FuncId} (hfn : fnB P g = true) (h : isT (callO O FT T lf d (.fn g []) [] .e 0) = true) : Con P g [] (fun x K t => x = .val (.bool true) ∧ K = [] ∧ t = 0) := by
  obtain ⟨K, top, log, hr⟩ := isT_spec h
  obtain ⟨⟨h1, h2⟩, _⟩ := callO_sound hF hT hmix hO d _ _ _ _ _ hr
  refine ⟨hfn, fun w vs hvs => ?_⟩
  have hvs0 : vs = [] := by cases vs with
    | nil => rfl
    | cons => exact hvs.elim
  subst hvs0
  have hw : Wz (Wo.of w) (Bt.e : Bt Ob).get (fun _ => none) (fun _ _ _ => none) w := by
    have he : blkOf (Bt.e : Bt Ob).get = fun _ => none := rfl
    refine ⟨?_, fun i o h => (by cases h), fun i j oi oj p q h => (by cases h)⟩
    rw [he]
    exact ⟨fun i b h => (by cases h), fun i j bi bj p q h => (by cases h), fun i b p h => (by cases h), fun f b o u h => (by cases h), fun i b p f o h => (by cases h), fun b o u h => (by cases h), fun b o u h => (by cases h), .refl _, fun _ _ _ _ _ h => h, fun _ h => h.elim⟩
  have := h2 (Wo.of w) (fun _ => none) (fun _ _ _ => none) w (.func (.func g) #[] #[]) [] hw (fun _ _ => rfl) trivial ⟨[], trivial, rfl⟩
  obtain ⟨g', fs', us', hv, hb, hcalls⟩ := this.resolve_right (fun ⟨_, _, _, _, _, hv, _⟩ => by cases hv)
  simp only [Value.func.injEq, Fn.func.injEq] at hv
  obtain ⟨rfl, rfl, rfl⟩ := hv
  rw [Array.empty_append] at hcalls
  rw [show ([] : List Value).toArray ++ #[] = ([] : List Value).toArray by simp] at hcalls
  refine hcalls.mono ?_
  rintro e w' ⟨v, I', R', rfl, k1, k2, k3, k4, k5⟩
  refine ⟨v, .val (.bool true), [], 0, fun _ => none, fun _ _ => none, rfl, ?_, fun _ _ => rfl, (fun p hp => by cases hp), k5, rfl, rfl, rfl⟩
  exact ⟨fun i b h => (by simp [kg] at h), fun i j bi bj p q h => (by simp [kg] at h), fun i b p h => (by simp [kg] at h), fun f b o u h => (by cases h), fun i b p f o h => (by simp [kg] at h), fun b o u h => (by cases h), fun b o u h => (by cases h), k1.wd.below, fun _ _ _ _ _ h => h, fun _ h => h.elim⟩
theorem con_callE {P : Program} {g : FuncId} {avs : List AV} {args : List A0} {res : AV} {K : Nat → Option Ob} {top : Nat} (hl : All2 (lowV (blkOf K)) avs args) (h : Con P g args (fun x K t => x = res ∧ K = [] ∧ t = 0)) (hres : res.ren (top + ·) = res) : CallE P (.fn g []) avs K top res K top := by
  refine ⟨Nat.le_refl _, fun W I R w v vs hw hd hvs hv => ?_⟩
  obtain ⟨hfn, hrun⟩ := con_eff (K0 := blkOf K) (top := top) h hl
  obtain ⟨us, hus, rfl⟩ : ∃ us, All2 (Pt.rel I) [] us ∧ v = .func (.func g) #[] us.toArray := hv
  refine .inl ⟨g, #[], us.toArray, rfl, hfn, ?_⟩
  rw [Array.empty_append]
  refine (hrun (stpB W (blkOf K) I R w) (blkOf K) I R w vs us (wd_step hw.wd) hvs hus (fun i hi => rfl) (fun j h1 h2 => absurd h2 (by first | (simp; done) | omega | (simp; omega)))).mono ?_
  rintro e' w' ⟨u, I', R', rfl, h1, h2, h3, h4, h5⟩
  have hI : ∀ j, I' j = I j := fun j => h3 j (by first | (simp; done) | omega | (simp; omega))
  refine ⟨u, I', R', rfl, ?_, fun j hj => by rw [hI]; exact hd j hj, fun j _ => hI j, h4, hres ▸ h5⟩
  have := hw.onK (kw := []) h2 h4 h1
  exact this
end Go.Proofs.Ytehhmkdghgabaaa.Wx.Y
/-
  The evaluator's oracles: rows of own slices, or read-only ones, decoded.
-/
namespace Go.Proofs.Ytehhmkdghgabaaa.Wx
open Go Go.RowKit
set_option linter.unusedVariables false
namespace Y
def decAll {α : Type} (d : List Ce → Option α) : List (List Ce) → Option (List α)
  | [] => some []
  | r :: rs => match d r, decAll d rs with
    | some x, some xs => some (x :: xs)
    | _, _ => none
theorem decAll_map {α : Type} {d : List Ce → Option α} {en : α → List RT} (hd : ∀ r x, d r = some x → r.map RT.of = (en x).map some) : ∀ {rs : List (List Ce)} {xs : List α}, decAll d rs = some xs → rs.map (List.map RT.of) = (xs.map en).map (List.map some)
  | [], xs, h => by simp only [decAll, Option.some.injEq] at h; subst h; rfl
  | r :: rs, xs, h => by
    simp only [decAll] at h
    split at h
    · rename_i x ys h1 h2
      simp only [Option.some.injEq] at h
      subst h
      simp only [List.map_cons, hd r x h1, decAll_map hd h2]
    · cases h
def rowsD {α : Type} (sz mx : Nat) (d : List Ce → Option α) (K : Nat → Option Ob) : Ce → Option (List α)
  | .v (.slice none 0 0) => some []
  | .osl i q n _ => match K i with
    | some (.b b) => match Nat.beq b.sz sz, decAll d ((b.rows.drop q).take n) with
      | true, some xs => match Nat.beq xs.length n, Nat.ble xs.length mx with
        | true, true => some xs
        | _, _ => none
      | _, _ => none
    | _ => none
  | _ => none
theorem rowsD_low {α : Type} {sz mx : Nat} {d : List Ce → Option α} {en : α → List RT} (hd : ∀ r x, d r = some x → r.map RT.of = (en x).map some) {K : Nat → Option Ob} {c : Ce} {xs : List α} (h : rowsD sz mx d K c = some xs) : lowC (blkOf K) c (.ro false sz (xs.map en)) ∧ xs.length ≤ mx := by
  unfold rowsD at h
  split at h
  · simp only [Option.some.injEq] at h
    subst h
    exact ⟨.inr ⟨sz, rfl⟩, by simp⟩
  · rename_i i q n _
    split at h
    · rename_i b hb
      split at h
      · rename_i ys hsz hys
        split at h
        · rename_i hn hle
          simp only [Option.some.injEq] at h
          subst h
          refine ⟨?_, Nat.le_of_ble_eq_true hle⟩
          have hk : blkOf K i = some b := by unfold blkOf; rw [hb]
          show match blkOf K i with
            | some b => ∃ rows, Ce.ro false sz (ys.map en) = .ro false b.sz rows ∧ rows.length = n ∧ ((b.rows.drop q).take n).map (List.map RT.of) = rows.map (List.map some)
            | none => False
          rw [hk]
          exact ⟨ys.map en, by rw [Nat.eq_of_beq_eq_true hsz], by rw [List.length_map]; exact Nat.eq_of_beq_eq_true hn, decAll_map hd hys⟩
        · cases h
      · cases h
    · cases h
  · cases h
def decI64 : List Ce → Option Int
  | [.v (.int .i64 a)] => some a
  | _ => none
theorem decI64_ok (r : List Ce) (x : Int) (h : decI64 r = some x) : r.map RT.of = [some (RT.v (.int .i64 x))] := by
  unfold decI64 at h
  split at h
  · simp only [Option.some.injEq] at h; subst h; rfl
  · cases h
end Y
end Go.Proofs.Ytehhmkdghgabaaa.Wx
