import Derived.Test.YtehhmkdghgabaaaLib4
/-
  The second layer, with an oracle: calls of functions that are told by contracts.
-/
namespace Go.Proofs.Ytehhmkdghgabaaa.Wx.Y
open Go Go.RowKit
set_option linter.unusedVariables false
def callS (C : CallFn) (FT : FTab) (T : Tab) (lf : Nat) : CallFn := fun c avs K top =>
  match c with
    | .yl j => roundE (fun n j c s => codeE (C) T n lf (some j) c s) j avs K top
    | .fn g cap => match ftGet FT g with
      | some fn => match fn.body with
        | some c => match Nat.ble (avs ++ capA cap).length fn.ntmps, Nat.ble (avs ++ capA cap).length big with
          | true, true => match codeE (C) T fn.ntmps lf none c ⟨argE 0 (avs ++ capA cap), K, top, []⟩ with
            | some (.normal, s) => match resE T s fn.results.toList with
              | some xs => some ⟨retV xs, s.K, s.top, s.log⟩
              | none => none
            | some (.ret, s) => match resE T s fn.results.toList with
              | some xs => some ⟨retV xs, s.K, s.top, s.log⟩
              | none => none
            | _ => none
          | _, _ => none
        | none => none
      | none => none
    | .mf g cap => match ftGet FT g with
      | some fn => match fn.body with
        | some c => match Nat.ble (capA cap ++ avs).length fn.ntmps, Nat.ble (capA cap ++ avs).length big with
          | true, true => match codeE (C) T fn.ntmps lf none c ⟨argE 0 (capA cap ++ avs), K, top, []⟩ with
            | some (.normal, s) => match resE T s fn.results.toList with
              | some xs => some ⟨retV xs, s.K, s.top, s.log⟩
              | none => none
            | some (.ret, s) => match resE T s fn.results.toList with
              | some xs => some ⟨retV xs, s.K, s.top, s.log⟩
              | none => none
            | _ => none
          | _, _ => none
        | none => none
      | none => none
    | _ => none
theorem callS_sound {P : Program} {C : CallFn} {FT : FTab} {T : Tab} (hF : FtOk P FT) (hT : TabOk P T) (hmix : P.follows .mixedOrders = true) {lf : Nat} (hC : CallsOk P C) : CallsOk P (callS C FT T lf) := fun c avs K top r h => by
  unfold callS at h
  split at h
  · rename_i j
    exact round_core (fun n j c s e s' h => codeE_sound hT hmix (hC) c s e s' h) h
  · rename_i g cap
    split at h
    · rename_i fn hfn
      obtain ⟨hf, hfb⟩ := hF _ _ hfn
      split at h
      · rename_i c hc
        split at h
        · rename_i hle hbig
          have hle' : (avs ++ capA cap).length ≤ fn.ntmps := Nat.le_of_ble_eq_true hle
          have hbig' : (avs ++ capA cap).length ≤ big := Nat.le_of_ble_eq_true hbig
          have key : ∀ (e : Exit) (s : ES) (xs : List A0), (e = .normal ∨ e = .ret) → codeE (C) T fn.ntmps lf none c ⟨argE 0 (avs ++ capA cap), K, top, []⟩ = some (e, s) → resE T s fn.results.toList = some xs →
              CallE P (.fn g cap) avs K.get top (retV xs) s.K.get s.top ∧ ∀ j, j ∉ s.log → s.K.get j = K.get j := by
            intro e s xs he hco hxs
            obtain ⟨a1, a2, a3⟩ := codeE_sound hT hmix (hC) c _ _ _ hco
            refine ⟨⟨a1, fun W I R w v vs hw hd hvs hv => ?_⟩, fun j hj => (a2 j hj).2⟩
            obtain ⟨us, hus, rfl⟩ : ∃ us, All2 (Pt.rel I) cap us ∧ v = .func (.func g) #[] us.toArray := hv
            have hall := hvs.append (capA_rel (R := R) hus)
            refine .inl ⟨g, #[], us.toArray, rfl, hfb, ?_⟩
            rw [Array.empty_append]
            have hargs : vs.toArray ++ us.toArray = (vs ++ us).toArray := by simp
            rw [hargs]
            refine fr_calls (r := none) (n := 0) (callsIn_of_wp_marks hf hc trivial (wpIn_mono (a3 W I R _ w none rfl (st_argE hall hw (by rw [← hall.length]; exact hle') hbig') hd) ?_))
            rintro e' a' w' ⟨rfl, I', R', k1, k2, k3, k4⟩
            have fin : LeavesInM (fr none) 0 P fn a'.tmps (fun e w' => ∃ u I' R', e = .returned u ∧ Wz W s.K.get I' R' w' ∧ (∀ j, s.top ≤ j → I' j = none) ∧ (∀ j, j < top → I' j = I j) ∧ RExt R R' ∧ (retV xs).rel I' R' u) a'.defers .returning w' := by
              refine leaves_marks _ _ k1.mks k1.wz fun w2 hw2 => ?_
              obtain ⟨v, g1, g2⟩ := resE_results hT (⟨k1.size, (trivial : Mk W (⟨a'.tmps, []⟩ : Act).defers w2), fun t x hx => k1.fr t x hx, hw2⟩ : St fn.ntmps W s.F.get s.K.get I' R' ⟨a'.tmps, []⟩ w2) hxs
              exact ⟨v, g1, v, I', R', rfl, hw2, k2, k3, k4, g2⟩
            rcases he with rfl | rfl
            · exact fin
            · exact fin
          split at h
          · rename_i s hco
            split at h
            · rename_i xs hxs
              simp only [Option.some.injEq] at h
              subst h
              exact key _ _ _ (.inl rfl) hco hxs
            · cases h
          · rename_i s hco
            split at h
            · rename_i xs hxs
              simp only [Option.some.injEq] at h
              subst h
              exact key _ _ _ (.inr rfl) hco hxs
            · cases h
          · cases h
        · cases h
      · cases h
    · cases h
  · rename_i g cap
    split at h
    · rename_i fn hfn
      obtain ⟨hf, hfb⟩ := hF _ _ hfn
      split at h
      · rename_i c hc
        split at h
        · rename_i hle hbig
          have hle' : (capA cap ++ avs).length ≤ fn.ntmps := Nat.le_of_ble_eq_true hle
          have hbig' : (capA cap ++ avs).length ≤ big := Nat.le_of_ble_eq_true hbig
          have key : ∀ (e : Exit) (s : ES) (xs : List A0), (e = .normal ∨ e = .ret) → codeE (C) T fn.ntmps lf none c ⟨argE 0 (capA cap ++ avs), K, top, []⟩ = some (e, s) → resE T s fn.results.toList = some xs →
              CallE P (.mf g cap) avs K.get top (retV xs) s.K.get s.top ∧ ∀ j, j ∉ s.log → s.K.get j = K.get j := by
            intro e s xs he hco hxs
            obtain ⟨a1, a2, a3⟩ := codeE_sound hT hmix (hC) c _ _ _ hco
            refine ⟨⟨a1, fun W I R w v vs hw hd hvs hv => ?_⟩, fun j hj => (a2 j hj).2⟩
            obtain ⟨us, hus, rfl⟩ : ∃ us, All2 (Pt.rel I) cap us ∧ v = .func (.func g) us.toArray #[] := hv
            have hall := (capA_rel (R := R) hus).append hvs
            refine .inl ⟨g, us.toArray, #[], rfl, hfb, ?_⟩
            have hargs : us.toArray ++ vs.toArray ++ #[] = (us ++ vs).toArray := by simp
            rw [hargs]
            refine fr_calls (r := none) (n := 0) (callsIn_of_wp_marks hf hc trivial (wpIn_mono (a3 W I R _ w none rfl (st_argE hall hw (by rw [← hall.length]; exact hle') hbig') hd) ?_))
            rintro e' a' w' ⟨rfl, I', R', k1, k2, k3, k4⟩
            have fin : LeavesInM (fr none) 0 P fn a'.tmps (fun e w' => ∃ u I' R', e = .returned u ∧ Wz W s.K.get I' R' w' ∧ (∀ j, s.top ≤ j → I' j = none) ∧ (∀ j, j < top → I' j = I j) ∧ RExt R R' ∧ (retV xs).rel I' R' u) a'.defers .returning w' := by
              refine leaves_marks _ _ k1.mks k1.wz fun w2 hw2 => ?_
              obtain ⟨v, g1, g2⟩ := resE_results hT (⟨k1.size, (trivial : Mk W (⟨a'.tmps, []⟩ : Act).defers w2), fun t x hx => k1.fr t x hx, hw2⟩ : St fn.ntmps W s.F.get s.K.get I' R' ⟨a'.tmps, []⟩ w2) hxs
              exact ⟨v, g1, v, I', R', rfl, hw2, k2, k3, k4, g2⟩
            rcases he with rfl | rfl
            · exact fin
            · exact fin
          split at h
          · rename_i s hco
            split at h
            · rename_i xs hxs
              simp only [Option.some.injEq] at h
              subst h
              exact key _ _ _ (.inl rfl) hco hxs
            · cases h
          · rename_i s hco
            split at h
            · rename_i xs hxs
              simp only [Option.some.injEq] at h
              subst h
              exact key _ _ _ (.inr rfl) hco hxs
            · cases h
          · cases h
        · cases h
      · cases h
    · cases h
  · cases h
def callO (O : CallFn) (FT : FTab) (T : Tab) (lf : Nat) : Nat → CallFn
  | 0 => O
  | d + 1 => fun c avs K top => match O c avs K top with
    | some r => some r
    | none => callS (callO O FT T lf d) FT T lf c avs K top
theorem callO_sound {P : Program} {O : CallFn} {FT : FTab} {T : Tab} (hF : FtOk P FT) (hT : TabOk P T) (hmix : P.follows .mixedOrders = true) (hO : CallsOk P O) {lf : Nat} : ∀ (d : Nat), CallsOk P (callO O FT T lf d)
  | 0 => hO
  | d + 1 => fun c avs K top r h => by
    unfold callO at h
    split at h
    · rename_i r' hr
      cases h
      exact hO _ _ _ _ _ hr
    · exact callS_sound hF hT hmix (callO_sound hF hT hmix hO d) _ _ _ _ _ h
theorem con_runO {P : Program} {O : CallFn} {FT : FTab} {T : Tab} (hF : FtOk P FT) (hT : TabOk P T) (hmix : P.follows .mixedOrders = true) (hO : CallsOk P O) (lf d : Nat) {g : FuncId} (hfn : fnB P g = true) (h : isT (callO O FT T lf d (.fn g []) [] .e 0) = true) : Con P g [] (fun x K t => x = .val (.bool true) ∧ K = [] ∧ t = 0) := by
  obtain ⟨K, top, log, hr⟩ := isT_spec h
  obtain ⟨⟨h1, h2⟩, _⟩ := callO_sound hF hT hmix hO d _ _ _ _ _ hr
  refine ⟨hfn, fun w vs hvs => ?_⟩
  have hvs0 : vs = [] := by cases vs with
    | nil => rfl
    | cons => exact hvs.elim
  subst hvs0
  have hw : Wz (Wo.of w) (Bt.e : Bt Ob).get (fun _ => none) (fun _ _ _ => none) w := by
    have he : blkOf (Bt.e : Bt Ob).get = fun _ => none := rfl
    refine ⟨?_, fun i o h => (by cases h), fun i j oi oj p q h => (by cases h)⟩
    rw [he]
    exact ⟨fun i b h => (by cases h), fun i j bi bj p q h => (by cases h), fun i b p h => (by cases h), fun f b o u h => (by cases h), fun i b p f o h => (by cases h), fun b o u h => (by cases h), fun b o u h => (by cases h), .refl _, fun _ _ _ _ _ h => h, fun _ h => h.elim⟩
  have := h2 (Wo.of w) (fun _ => none) (fun _ _ _ => none) w (.func (.func g) #[] #[]) [] hw (fun _ _ => rfl) trivial ⟨[], trivial, rfl⟩
  obtain ⟨g', fs', us', hv, hb, hcalls⟩ := this.resolve_right (fun ⟨_, _, _, _, _, hv, _⟩ => by cases hv)
  simp only [Value.func.injEq, Fn.func.injEq] at hv
  obtain ⟨rfl, rfl, rfl⟩ := hv
  rw [Array.empty_append] at hcalls
  rw [show ([] : List Value).toArray ++ #[] = ([] : List Value).toArray by simp] at hcalls
  refine hcalls.mono ?_
  rintro e w' ⟨v, I', R', rfl, k1, k2, k3, k4, k5⟩
  refine ⟨v, .val (.bool true), [], 0, fun _ => none, fun _ _ => none, rfl, ?_, fun _ _ => rfl, (fun p hp => by cases hp), k5, rfl, rfl, rfl⟩
  exact ⟨fun i b h => (by simp [kg] at h), fun i j bi bj p q h => (by simp [kg] at h), fun i b p h => (by simp [kg] at h), fun f b o u h => (by cases h), fun i b p f o h => (by simp [kg] at h), fun b o u h => (by cases h), fun b o u h => (by cases h), k1.wd.below, fun _ _ _ _ _ h => h, fun _ h => h.elim⟩
theorem con_callE {P : Program} {g : FuncId} {avs : List AV} {args : List A0} {res : AV} {K : Nat → Option Ob} {top : Nat} (hl : All2 (lowV (blkOf K)) avs args) (h : Con P g args (fun x K t => x = res ∧ K = [] ∧ t = 0)) (hres : res.ren (top + ·) = res) : CallE P (.fn g []) avs K top res K top := by
  refine ⟨Nat.le_refl _, fun W I R w v vs hw hd hvs hv => ?_⟩
  obtain ⟨hfn, hrun⟩ := con_eff (K0 := blkOf K) (top := top) h hl
  obtain ⟨us, hus, rfl⟩ : ∃ us, All2 (Pt.rel I) [] us ∧ v = .func (.func g) #[] us.toArray := hv
  refine .inl ⟨g, #[], us.toArray, rfl, hfn, ?_⟩
  rw [Array.empty_append]
  refine (hrun (stpB W (blkOf K) I R w) (blkOf K) I R w vs us (wd_step hw.wd) hvs hus (fun i hi => rfl) (fun j h1 h2 => absurd h2 (by first | (simp; done) | omega | (simp; omega)))).mono ?_
  rintro e' w' ⟨u, I', R', rfl, h1, h2, h3, h4, h5⟩
  have hI : ∀ j, I' j = I j := fun j => h3 j (by first | (simp; done) | omega | (simp; omega))
  refine ⟨u, I', R', rfl, ?_, fun j hj => by rw [hI]; exact hd j hj, fun j _ => hI j, h4, hres ▸ h5⟩
  have := hw.onK (kw := []) h2 h4 h1
  exact this
end Go.Proofs.Ytehhmkdghgabaaa.Wx.Y
/-
  The evaluator's oracles: rows of own slices, or read-only ones, decoded.
-/
namespace Go.Proofs.Ytehhmkdghgabaaa.Wx
open Go Go.RowKit
set_option linter.unusedVariables false
namespace Y
def decAll {α : Type} (d : List Ce → Option α) : List (List Ce) → Option (List α)
  | [] => some []
  | r :: rs => match d r, decAll d rs with
    | some x, some xs => some (x :: xs)
    | _, _ => none
theorem decAll_map {α : Type} {d : List Ce → Option α} {en : α → List RT} (hd : ∀ r x, d r = some x → r.map RT.of = (en x).map some) : ∀ {rs : List (List Ce)} {xs : List α}, decAll d rs = some xs → rs.map (List.map RT.of) = (xs.map en).map (List.map some)
  | [], xs, h => by simp only [decAll, Option.some.injEq] at h; subst h; rfl
  | r :: rs, xs, h => by
    simp only [decAll] at h
    split at h
    · rename_i x ys h1 h2
      simp only [Option.some.injEq] at h
      subst h
      simp only [List.map_cons, hd r x h1, decAll_map hd h2]
    · cases h
def rowsD {α : Type} (sz mx : Nat) (d : List Ce → Option α) (K : Nat → Option Ob) : Ce → Option (List α)
  | .v (.slice none 0 0) => some []
  | .osl i q n _ => match K i with
    | some (.b b) => match Nat.beq b.sz sz, decAll d ((b.rows.drop q).take n) with
      | true, some xs => match Nat.beq xs.length n, Nat.ble xs.length mx with
        | true, true => some xs
        | _, _ => none
      | _, _ => none
    | _ => none
  | _ => none
theorem rowsD_low {α : Type} {sz mx : Nat} {d : List Ce → Option α} {en : α → List RT} (hd : ∀ r x, d r = some x → r.map RT.of = (en x).map some) {K : Nat → Option Ob} {c : Ce} {xs : List α} (h : rowsD sz mx d K c = some xs) : lowC (blkOf K) c (.ro false sz (xs.map en)) ∧ xs.length ≤ mx := by
  unfold rowsD at h
  split at h
  · simp only [Option.some.injEq] at h
    subst h
    exact ⟨.inr ⟨sz, rfl⟩, by simp⟩
  · rename_i i q n _
    split at h
    · rename_i b hb
      split at h
      · rename_i ys hsz hys
        split at h
        · rename_i hn hle
          simp only [Option.some.injEq] at h
          subst h
          refine ⟨?_, Nat.le_of_ble_eq_true hle⟩
          have hk : blkOf K i = some b := by unfold blkOf; rw [hb]
          show match blkOf K i with
            | some b => ∃ rows, Ce.ro false sz (ys.map en) = .ro false b.sz rows ∧ rows.length = n ∧ ((b.rows.drop q).take n).map (List.map RT.of) = rows.map (List.map some)
            | none => False
          rw [hk]
          exact ⟨ys.map en, by rw [Nat.eq_of_beq_eq_true hsz], by rw [List.length_map]; exact Nat.eq_of_beq_eq_true hn, decAll_map hd hys⟩
        · cases h
      · cases h
    · cases h
  · cases h
def decI64 : List Ce → Option Int
  | [.v (.int .i64 a)] => some a
  | _ => none
theorem decI64_ok (r : List Ce) (x : Int) (h : decI64 r = some x) : r.map RT.of = [some (RT.v (.int .i64 x))] := by
  unfold decI64 at h
  split at h
  · simp only [Option.some.injEq] at h; subst h; rfl
  · cases h
end Y
end Go.Proofs.Ytehhmkdghgabaaa.Wx
