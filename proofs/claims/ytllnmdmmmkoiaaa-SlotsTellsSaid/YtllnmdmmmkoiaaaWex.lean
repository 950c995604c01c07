/-
  More operations: arrays built, an element of an array.
-/
import Derived.Test.YtllnmdmmmkoiaaaWs
namespace Go.Proofs.Ytllnmdmmmkoiaaa.Wx
open Go Go.RowKit
set_option linter.unusedVariables false
def loB (F : Nat → Option AV) : Option Operand → Option Nat
  | none => some 0
  | some y => match evf F y with
    | some (.pl (.one (.v (.int _ j)))) => natOf j
    | _ => none
theorem loB_spec {F : Nat → Option AV} {lo : Option Operand} {l : Nat} (h : loB F lo = some l) : bndo F lo l 0 := by
  cases lo with
  | none => simp only [loB, Option.some.injEq] at h; exact h.symm
  | some y =>
    simp only [loB] at h
    split at h
    · rename_i k j hy; exact ⟨k, by rw [hy, natOf_spec h]⟩
    · cases h
def strB : List (List Ce) → Option (List Int)
  | [] => some []
  | [.v (.int .u8 z)] :: r => match strB r with
    | some l => some (z :: l)
    | none => none
  | _ => none
theorem strB_spec : ∀ {src : List (List Ce)} {xs : List Int}, strB src = some xs → src = xs.map (fun z => [Ce.v (.int .u8 z)])
  | [], xs, h => by simp only [strB, Option.some.injEq] at h; subst h; rfl
  | r :: src, xs, h => by
    unfold strB at h
    split at h
    · rename_i h1; cases h1
    · rename_i z r' heq
      cases heq
      split at h
      · rename_i l hl; simp only [Option.some.injEq] at h; subst h; rw [strB_spec hl]; rfl
      · cases h
    · cases h
/-- More operations. -/
def opX (T : Tab) (o : Oper) (F : Nat → Option AV) (K : Nat → Option Blk) (top : Nat) : Option Eff :=
  match o.op with
  | .build t ps => match tyGet T t with
    | some ti => match ti.arr, evb F ps.toList with
      | some (m, s, r), some avs => match fillC ((List.range m).map fun i => (i * s, s, r)) (ti.zero.map .v) avs with
        | some out => some ⟨.pl (.agg out), [], [], top⟩
        | none => none
      | _, _ => none
    | none => none
  | .index t x y => match tyGet T t, evf F x, evf F y with
    | some ti, some (.pl (.agg cs)), some (.pl (.one (.v (.int k j)))) => match ti.arr, natOf j with
      | some (m, s, r), some j' => match Nat.blt j' m, cut r (j' * s) s cs with
        | true, some v => some ⟨.pl v, [], [], top⟩
        | _, _ => none
      | _, _ => none
    | _, _, _ => none
  | .slice t x lo (some hi) (some mx) => match tyGet T t, evf F x, loB F lo, evf F hi, evf F mx with
    | some ti, some (.pl (.one (.osl i q m c))), some l, some (.pl (.one (.v (.int _ h)))), some (.pl (.one (.v (.int _ mm)))) => match ti.elem, K i, natOf h, natOf mm with
      | some (_, s, _), some b, some h', some mm' => match Nat.beq b.sz s, Nat.ble l h', Nat.ble h' mm', (Nat.ble mm' m || (match c with | some c0 => Nat.ble mm' c0 | none => false)) with
        | true, true, true, true => some ⟨.c (.osl i (if mm' = l then q else q + l) (h' - l) (some (mm' - l))), [i], [], top⟩
        | _, _, _, _ => none
      | _, _, _, _ => none
    | _, _, _, _, _ => none
  | .makeFunc (.func f) fst caps => match caps.toList, ptsOf F fst.toList with
    | [], some ps => some ⟨.c (.mf f ps), [], [], top⟩
    | _, _ => none
  | .unOp .neg _ x => match evf F x with
    | some (.pl (.one (.v (.int k p)))) => some ⟨.val (.int k (k.wrap (0 - p))), [], [], top⟩
    | _ => none
  | .binOp op t x y _ => match evf F x, evf F y with
    | some (.pl (.one (.v (.int kx p)))), some (.pl (.one (.v (.int ky q)))) => match decide (kx = ky), bitOp op kx p q with
      | true, some r => some ⟨.val (.int kx r), [], [], top⟩
      | _, _ => none
    | some (.pl (.one c)), some (.pl (.one (.v (.pointer none)))) => match tyGet T t, ptrNil c, op with
      | some ti, some r, .eql => match Nat.beq ti.kd 4 with
        | true => some ⟨.val (.bool r), [], [], top⟩
        | false => none
      | some ti, some r, .neq => match Nat.beq ti.kd 4 with
        | true => some ⟨.val (.bool (!r)), [], [], top⟩
        | false => none
      | _, _, _ => none
    | some (.pl (.one (.v (.string p)))), some (.pl (.one (.v (.string q)))) => match op with
      | .eql => some ⟨.val (.bool (p.toList == q.toList)), [], [], top⟩
      | .neq => some ⟨.val (.bool (!(p.toList == q.toList))), [], [], top⟩
      | _ => none
    | _, _ => none
  | .convert s d x => match tyGet T s, tyGet T d, evf F x with
    | some ti, some tj, some (.pl (.one cx)) => match ti.elem, Nat.beq tj.kd 3 with
      | some (e, 1, _), true => match tyGet T e, srcOf0 K 1 cx with
        | some te, some (src, m, rd) => match te.ikind, strB src with
          | some .u8, some xs => match Nat.beq m xs.length with
            | true => some ⟨.val (.string (strOfNums xs)), rd, [], top⟩
            | false => none
          | _, _ => none
        | _, _ => none
      | _, _ => none
    | _, _, _ => none
  | .call ⟨.builtin .clear, args, tys⟩ => match args.toList, tys.toList with
    | [x], [t] => match tyGet T t, evf F x with
      | some ti, some (.pl (.one (.osl i q m0 _))) => match ti.elem, K i with
        | some (e, s, _), some b => match tyGet T e, Nat.beq b.sz s, Nat.ble (q + m0) b.rows.length with
          | some te, true, true => match te.zero.all fun v => v.oneCell' with
            | true => some ⟨.tup [], [i], [(i, some ⟨lay b.rows q (List.replicate m0 (te.zero.map .v)), b.sz, b.ty, b.bx⟩)], top⟩
            | false => none
          | _, _, _ => none
        | _, _ => none
      | _, _ => none
    | _, _ => none
  | _ => none
theorem opX_sound {P : Program} {T : Tab} {o : Oper} {F : Nat → Option AV} {K : Nat → Option Blk} {top : Nat} {e : Eff} (hT : TabOk P T) (h : opX T o F K top = some e) : OpEff P o F K top e ∧ ∀ c, o.op ≠ .defer c := by
  obtain ⟨dst, op, ty, pos, after, guard⟩ := o
  unfold opX at h
  dsimp only at h
  split at h
  · refine ⟨?_, fun c hc => by cases hc⟩
    split at h
    · rename_i ti ht
      split at h
      · rename_i m s r avs hel hx
        split at h
        · rename_i out hout; cases h; exact (y_builda _ _ rfl ti (hT _ _ ht) m s r hel avs hx out hout).eff
        · cases h
      · cases h
    · cases h
  · refine ⟨?_, fun c hc => by cases hc⟩
    split at h
    · rename_i ti cs k j ht hx hy
      split at h
      · rename_i m s r j' hel hj
        split at h
        · rename_i v hlt hv; cases h; exact (y_indexv _ _ _ rfl ti (hT _ _ ht) m s r hel cs hx k j hy j' (natOf_spec hj) (by simpa [Nat.blt_eq] using hlt) v hv).eff
        · cases h
      · cases h
    · cases h
  · refine ⟨?_, fun c hc => by cases hc⟩
    rename_i t x lo hi mx
    split at h
    · rename_i ti i q m c l kh hh km mm ht hx hlo hhi hmx
      split at h
      · rename_i e s bt b h' mm' hel hb hh' hmm'
        split at h
        · rename_i g1 g2 g3 g4
          cases h
          have e1 := natOf_spec hh'
          have e2 := natOf_spec hmm'
          subst e1 e2
          refine (y_sl3 _ _ _ _ _ rfl ti (hT _ _ ht) e s bt hel i q m c hx b hb g1 l h' mm' (loB_spec hlo) kh km hhi hmx (Nat.le_of_ble_eq_true g2) (Nat.le_of_ble_eq_true g3) ?_).eff
          rcases (Bool.or_eq_true _ _).mp g4 with g4 | g4
          · exact .inl (Nat.le_of_ble_eq_true g4)
          · split at g4
            · exact .inr ⟨_, rfl, Nat.le_of_ble_eq_true g4⟩
            · cases g4
        · cases h
      · cases h
    · cases h
  · refine ⟨?_, fun c hc => by cases hc⟩
    rename_i f fst caps
    obtain ⟨caps⟩ := caps
    dsimp only at h
    split at h
    · rename_i ps hps; cases h; exact (y_meth _ _ rfl ps (ptsOf_all hps)).eff
    · cases h
  · refine ⟨?_, fun c hc => by cases hc⟩
    split at h
    · rename_i k p hx; cases h; exact (y_neg _ _ rfl k p hx).eff
    · cases h
  · refine ⟨?_, fun c hc => by cases hc⟩
    rename_i op t x y yt
    split at h
    · rename_i kx p ky q hx hy
      split at h
      · rename_i r hd hr
        have := of_decide_eq_true hd
        subst this
        cases h; exact (y_bits _ _ _ _ _ rfl _ _ _ hx hy r hr).eff
      · cases h
    · rename_i c hx hy
      split at h
      · rename_i ti r ht hr
        split at h
        · rename_i hk; cases h; exact (y_eqP _ _ _ _ _ rfl ti (hT _ _ ht) (Nat.eq_of_beq_eq_true hk) c hx hy r hr _ (.inl ⟨rfl, rfl⟩)).eff
        · cases h
      · rename_i ti r ht hr
        split at h
        · rename_i hk; cases h; exact (y_eqP _ _ _ _ _ rfl ti (hT _ _ ht) (Nat.eq_of_beq_eq_true hk) c hx hy r hr _ (.inr ⟨rfl, rfl⟩)).eff
        · cases h
      · cases h
    · rename_i p q hx hy
      split at h
      · cases h; exact (y_eqStr _ _ _ _ _ rfl p q hx hy _ (.inl ⟨rfl, rfl⟩)).eff
      · cases h; exact (y_eqStr _ _ _ _ _ rfl p q hx hy _ (.inr ⟨rfl, rfl⟩)).eff
      · cases h
    · cases h
  · refine ⟨?_, fun c hc => by cases hc⟩
    split at h
    · rename_i ti tj cx hti htj hx
      split at h
      · rename_i e bt hel hkd
        split at h
        · rename_i te src m rd hte hsrc
          split at h
          · rename_i xs hk hxs
            split at h
            · rename_i hm
              cases h
              exact (y_str _ _ _ rfl ti (hT _ _ hti) e bt hel te (hT _ _ hte) hk tj (hT _ _ htj) (Nat.eq_of_beq_eq_true hkd) cx hx xs src m rd (srcOf_of0 hsrc) (strB_spec hxs) (Nat.eq_of_beq_eq_true hm)).eff
            · cases h
          · cases h
        · cases h
      · cases h
    · cases h
  · refine ⟨?_, fun c hc => by cases hc⟩
    split at h
    · rename_i x t ha hty
      split at h
      · rename_i ti i q m0 cp ht hx
        split at h
        · rename_i e s bt b hel hb
          split at h
          · rename_i te hte hs hfit
            split at h
            · rename_i hone
              cases h
              exact e_clear x t (by rw [toList_one ha, toList_one hty]) ti (hT _ _ ht) e s bt hel te (hT _ _ hte) i q m0 cp hx b hb hs (Nat.le_of_ble_eq_true hfit) hone
            · cases h
          · cases h
        · cases h
      · cases h
    · cases h
  · cases h
end Go.Proofs.Ytllnmdmmmkoiaaa.Wx
