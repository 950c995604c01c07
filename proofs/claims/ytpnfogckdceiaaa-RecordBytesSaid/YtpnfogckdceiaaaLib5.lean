import Derived.Test.YtpnfogckdceiaaaLib4
import Derived.Lib.Overlaps
/-
  Within a call: a block that is written no more is told asx a slice that is only read, wherever a slot or a cell names it.
-/
namespace Go.Proofs.Ytpnfogckdceiaaa.Wx.Z
open Go Go.RowKit
set_option linter.unusedVariables false

/-- One cell, when the block j is written no more. -/
def fzC (j : Nat) (o : Option Blk) (c c' : Ce) : Prop := Imp c c' ∨
  (∃ q l cp b rows, c = .osl j q l cp ∧ o = some b ∧ c' = .ro true b.sz rows ∧ rows.length = l ∧ ((b.rows.drop q).take l).map (List.map RT.ofT) = rows.map (List.map some)) ∨
  (∃ sz ty r rows, c = .gsl j r ∧ o = gB sz ty r ∧ c' = .ro true sz rows ∧ r.map (List.map RT.ofT) = rows.map (List.map some))
theorem ImpV.refl (x : AV) : ImpV x x := by
  unfold ImpV
  split
  · exact Imp.refl _
  · rfl
def fzV (j : Nat) (o : Option Blk) : AV → AV → Prop
  | .pl (.one c), .pl (.one c') => fzC j o c c'
  | .pl (.agg c), .pl (.agg c') => All2 (fzC j o) c c'
  | x, y => x = y
def fzO (j : Nat) (o : Option Blk) : Ob → Ob → Prop
  | .b x, .b y => (x.sz = y.sz ∧ x.ty = y.ty ∧ x.bx = y.bx) ∧ All2 (All2 (fzC j o)) x.rows y.rows
  | x, y => x = y
section
variable {W : Wo} {n m : Nat} {s s0 : S}
def subFf (j : Nat) (o : Option Blk) (F : Fr) : Fr → Prop
  | [] => True
  | (t, x) :: G => (∃ y, get F t = some y ∧ fzV j o y x) ∧ subFf j o F G
theorem subFf.get {j : Nat} {o : Option Blk} {F : Fr} : ∀ {G : Fr} {t : Nat} {x : AV}, subFf j o F G → Wx.get G t = some x → ∃ y, Wx.get F t = some y ∧ fzV j o y x
  | [], t, x, _, h => by simp [Wx.get] at h
  | (k, y) :: G, t, x, hs, h => by
    simp only [Wx.get] at h
    cases hb : Nat.beq k t with
    | true =>
      simp only [hb, Option.some.injEq] at h
      subst h
      rw [← Nat.eq_of_beq_eq_true hb]
      exact hs.1
    | false =>
      simp only [hb] at h
      exact subFf.get hs.2 h
theorem fzC.refl {j : Nat} {o : Option Blk} (c : Ce) : fzC j o c c := .inl (Imp.refl c)
theorem All2.self {α : Type} {r : α → α → Prop} (h : ∀ a, r a a) : ∀ l : List α, All2 r l l
  | [] => trivial
  | a :: l => ⟨h a, All2.self h l⟩
theorem fzV.refl {j : Nat} {o : Option Blk} (x : AV) : fzV j o x x := by
  unfold fzV
  split
  · exact fzC.refl _
  · exact All2.self fzC.refl _
  · rfl
theorem fzO.refl {j : Nat} {o : Option Blk} (x : Ob) : fzO j o x x := by
  unfold fzO
  split
  · exact ⟨⟨rfl, rfl, rfl⟩, All2.self (All2.self fzC.refl) _⟩
  · rfl
theorem rndZ_stp {α : Type} {G : α → S} {Inv : α → Prop} {μ : α → Nat} {p : α} {s s1 : S} (h : Stp m s s1) (k : rndZ m G Inv μ p s1) : rndZ m G Inv μ p s := by
  obtain ⟨p', h1, h2, h3⟩ := k.h
  exact ⟨p', h1, h2, h.trans h3⟩
theorem Imp.gsl {i : Nat} {rows rows' : List (List Ce)} (h : rows.length = rows'.length) : Imp (.gsl i rows) (.gsl i rows') := fun I R u hr => by
  rcases hr with ⟨h1, h2⟩ | ⟨h1, p, c', h2⟩
  · exact .inl ⟨by subst h1; exact List.length_eq_zero_iff.1 h.symm, h2⟩
  · refine .inr ⟨fun e => h1 ?_, p, c', by rw [← h]; exact h2⟩
    subst e; exact List.length_eq_zero_iff.1 h
theorem Imp.of_eq {c c' : Ce} (h : c = c') : Imp c c' := by subst h; exact Imp.refl c
theorem imp_eq {rows rows' : List (List Ce)} (h : rows = rows') : All2 (All2 Imp) rows rows' := by subst h; exact All2.self (All2.self Imp.refl) _
theorem set_mid {α : Type} {a : List α} {b c : α} {l : List α} {i : Nat} (h : i = a.length) : (a ++ b :: l).set i c = (a ++ [c]) ++ l := by
  subst h; simp
theorem get_mid {α : Type} {a : List α} {b : α} {l : List α} {i : Nat} (h : i = a.length) : (a ++ b :: l)[i]? = some b := by
  subst h; simp
/-- At a round's end: the rows of a block, told anew. -/
theorem rnd_rw {α : Type} {G : α → S} {Inv : α → Prop} {μ : α → Nat} {p : α} {s : S} (i : Nat) {rows : List (List Ce)} (rows' : List (List Ce)) {sz : Nat} {ty : TypeId} {bx : Bool} (hm : Nat.ble m s.top = true) (hi : kz s.K i = some (.b ⟨rows, sz, ty, bx⟩)) (e : rows = rows')
    (k : rndZ m G Inv μ p ⟨s.F, (i, some (.b ⟨rows', sz, ty, bx⟩)) :: s.K, s.top⟩) : rndZ m G Inv μ p s :=
  rndZ_stp (imp_stp s ⟨s.F, (i, some (.b ⟨rows', sz, ty, bx⟩)) :: s.K, s.top⟩ (fun t x hx => ⟨x, hx, ImpV.refl x⟩) (fun j b hb => by
    have hb' : kz ((i, some (.b ⟨rows', sz, ty, bx⟩)) :: s.K) j = some b := hb
    simp only [kz] at hb'
    cases hc : Nat.beq i j with
    | true =>
      rw [hc] at hb'
      cases hb'
      rw [← Nat.eq_of_beq_eq_true hc]
      exact ⟨_, hi, ⟨rfl, rfl, rfl⟩, imp_eq e⟩
    | false => rw [hc] at hb'; exact ⟨b, hb', ImpO.refl b⟩) (Nat.le_refl _) (Nat.le_of_ble_eq_true hm)) k
end
theorem callZ_mk {P : Program} {m : Nat} {g : FuncId} {avs : List AV} {K : Kr} {top : Nat} {k : AV → Kr → Nat → Prop} {args : List A0} {res : AV} {Kc : Wx.Kr} {tc : Nat} (zlow : All2 (lowV (kb K)) avs args) (h : Con P g args (fun x K t => x = res ∧ K = Kc ∧ t = tc)) (zk : k (res.ren (top + ·)) (upk (shK top Kc) ++ K) (top + tc)) : CallZ P m (.fn g []) avs K top k :=
  callZ_con zlow h (by rintro _ _ _ ⟨rfl, rfl, rfl⟩; exact zk)
theorem conZ_mz {P : Program} {g : FuncId} {avs : List AV} {K : Kr} {top : Nat} {k : Eff → Prop} {args : List A0} {res : AV} {Kc : Wx.Kr} {tc : Nat} (zlow : All2 (lowV (kb K)) avs args) (h : Con P g args (fun x K t => x = res ∧ K = Kc ∧ t = tc)) (zk : k ⟨res.ren (top + ·), avs.flatMap AV.refs, upk (shK top Kc), top + tc⟩) : ConZ P (.fn g []) avs K top k :=
  conZ_mk zlow h zk
/-! ### Cells, asx they freeze -/
section
variable {j : Nat} {o : Option Blk}
theorem fzC.src {α : Type} {l : List α} {g : α → List RT} {fl : Bool} {sz n : Nat} {ty : TypeId} {bx : Bool} {c : Option Nat} (h : o = some ⟨(l.map g).map (List.map (RT.ce fl)), sz, ty, bx⟩) (hn : n = (l.map g).length) (hf : ∀ x, ((g x).map (RT.ce fl)).map RT.ofT = (g x).map some) : fzC j o (.osl j 0 n c) (.ro true sz (l.map g)) := by
  subst hn
  exact .inr (.inl ⟨0, _, c, _, _, rfl, h, rfl, by simp, by rw [List.drop_zero, List.take_of_length_le (by simp), List.map_map, List.map_map, List.map_map]; exact List.map_congr_left fun x _ => hf x⟩)
end

/-! ### Slices changed in place: what is left when rows go, come, or are taken out (slices.Delete, DeleteFunc, append) -/
theorem frz_oslw {α : Type} {K : Nat → Option Blk} {l : List α} {f : α → List Ce} {g : α → List RT} {rows : List (List Ce)} {j n sz : Nat} {ty : TypeId} {bx : Bool} {c : Option Nat} (h : K j = some ⟨rows, sz, ty, bx⟩) (hn : n = l.length) (hr : rows.take n = l.map f) (hf : ∀ x, (f x).map RT.ofT = (g x).map some) : frzC K (.osl j 0 n c) (.ro true sz (l.map g)) := by
  simp only [frzC, h]
  exact ⟨_, rfl, by simp [hn], by rw [List.drop_zero, hr, List.map_map, List.map_map]; exact List.map_congr_left fun x _ => hf x⟩
end Go.Proofs.Ytpnfogckdceiaaa.Wx.Z
/-
  The third layer: slices.overlaps at two slices of own memory that lie in two blocks; own slices whose capacity is unknown, with the row behind their end; calls in drawn regions that hand back one own block, however they come to it.
-/
namespace Go.Proofs.Ytpnfogckdceiaaa.Wx.Z
open Go Go.RowKit
set_option linter.unusedVariables false

end Go.Proofs.Ytpnfogckdceiaaa.Wx.Z
/-
  A call in a drawn region whose argument is an own row of slices: each cell is told by what its own block holds.
-/
namespace Go.Proofs.Ytpnfogckdceiaaa.Wx.Z
open Go Go.RowKit
set_option linter.unusedVariables false

/-- A cell of an own row, asx a tree. -/
def OfK (K : Nat → Option Blk) (c : Ce) (t : RT) : Prop := RT.of c = some t ∨ ∃ sz rows, t = .ro sz rows ∧ lowC K c (.ro false sz rows)
theorem OfK.congr {K K' : Nat → Option Blk} {c : Ce} {t : RT} (h : ∀ i ∈ c.refs, K' i = K i) (hl : OfK K c t) : OfK K' c t := by
  rcases hl with h1 | ⟨sz, rows, h1, h2⟩
  · exact .inl h1
  · exact .inr ⟨sz, rows, h1, lowC_congr h h2⟩
theorem OfK.rd {K : Nat → Option Blk} {W : Wo} {I : IM} {R : RM} {w : World} (hw : Wd W K I R w) {c : Ce} {t : RT} {u : Value} (h : OfK K c t) (hr : c.rel I R u) : Rd (fun b o => w.cell? ⟨b, o, none⟩) t u := by
  rcases h with h | ⟨sz, rows, rfl, h⟩
  · exact RT.of_rel (fun f b o u h => hw.ro f b o u h) h hr
  · exact lowC_rel hw h hr
end Go.Proofs.Ytpnfogckdceiaaa.Wx.Z
