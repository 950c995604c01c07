/-
  Within a call: a block that is written no more is told as a slice that is only read, wherever a slot or a cell names it.
-/
import Derived.Test.YtllnmdmmmkoiaaaWzd
namespace Go.Proofs.Ytllnmdmmmkoiaaa.Wx.Z
open Go Go.RowKit
set_option linter.unusedVariables false

/-- One cell, when the block j is written no more. -/
def fzC (j : Nat) (o : Option Blk) (c c' : Ce) : Prop := Imp c c' ∨
  (∃ q l cp b rows, c = .osl j q l cp ∧ o = some b ∧ c' = .ro true b.sz rows ∧ rows.length = l ∧ ((b.rows.drop q).take l).map (List.map RT.ofT) = rows.map (List.map some)) ∨
  (∃ sz ty r rows, c = .gsl j r ∧ o = gB sz ty r ∧ c' = .ro true sz rows ∧ r.map (List.map RT.ofT) = rows.map (List.map some))
theorem ImpV.refl (x : AV) : ImpV x x := by
  unfold ImpV
  split
  · exact Imp.refl _
  · rfl
theorem fz1 {W : Wo} {K : Nat → Option Blk} {I : IM} {R : RM} {w : World} (h : Wd W K I R w) (j : Nat) : ∃ R', Wd W (kup K [(j, none)]) I R' w ∧ RExt R R' ∧ ∀ c c' u, fzC j (K j) c c' → c.rel I R u → c'.rel I R' u := by
  cases hj : K j with
  | none =>
    refine ⟨R, h.kill j, .refl _, fun c c' u hc hr => ?_⟩
    rcases hc with hc | ⟨q, l, cp, b, rows, rfl, ho, _⟩ | ⟨sz, ty, r, rows, rfl, ho, rfl, hm⟩
    · exact hc _ _ _ hr
    · cases ho
    · rcases hr with ⟨h1, h2⟩ | ⟨hne, _⟩
      · have : rows = [] := by subst h1; cases rows <;> first | rfl | simp at hm
        subst this
        rw [h2]; exact .nil sz
      · rw [gB_ne hne] at ho; cases ho
  | some b =>
    obtain ⟨p, hp, hk⟩ := h.blk j b hj
    obtain ⟨g1, g2⟩ := h.fz hj hp
    have hk' := hk.mono (.refl _) g2 (w' := w) rfl
    refine ⟨_, g1, g2, fun c c' u hc hr => ?_⟩
    rcases hc with hc | ⟨q, l, cp, b', rows, rfl, ho, rfl, hlen, hm⟩ | ⟨sz, ty, r, rows, rfl, ho, rfl, hm⟩
    · exact hc _ _ _ (Ce.mono (.refl _) g2 hr)
    · cases ho
      obtain ⟨p', c', hp', rfl, h3, h4, _⟩ := hr
      rw [hp] at hp'; cases hp'
      subst hlen
      exact hk'.rd RT.ofT (R0 := (fun (f : Bool) bb o => if bb = p.b then w.cell? ⟨bb, o, none⟩ else R f bb o) true) (fun c t u h1 h2 => RT.ofT_rel h1 h2) (fun o u h => by simp only [if_true]; exact h) q c' rows h3 hm
    · rcases hr with ⟨h1, h2⟩ | ⟨hne, p', c', hp', rfl, h3, h4⟩
      · have : rows = [] := by subst h1; cases rows <;> first | rfl | simp at hm
        subst this
        rw [h2]; exact .nil sz
      · rw [hp] at hp'; cases hp'
        rw [gB_ne hne] at ho
        cases ho
        have hlen : r.length = rows.length := by have := congrArg List.length hm; simpa using this
        have := hk'.rd RT.ofT (R0 := (fun (f : Bool) bb o => if bb = p.b then w.cell? ⟨bb, o, none⟩ else R f bb o) true) (fun c t u h1 h2 => RT.ofT_rel h1 h2) (fun o u h => by simp only [if_true]; exact h) 0 c' rows (by omega) (by simpa [← hlen] using hm)
        rw [Nat.zero_mul, ← hlen] at this
        exact this
def fzV (j : Nat) (o : Option Blk) : AV → AV → Prop
  | .pl (.one c), .pl (.one c') => fzC j o c c'
  | .pl (.agg c), .pl (.agg c') => All2 (fzC j o) c c'
  | x, y => x = y
def fzO (j : Nat) (o : Option Blk) : Ob → Ob → Prop
  | .b x, .b y => (x.sz = y.sz ∧ x.ty = y.ty ∧ x.bx = y.bx) ∧ All2 (All2 (fzC j o)) x.rows y.rows
  | x, y => x = y
theorem fzL {j : Nat} {o : Option Blk} {I : IM} {R R' : RM} (h : ∀ c c' u, fzC j o c c' → c.rel I R u → c'.rel I R' u) : ∀ {cs ds : List Ce} {vs : List Value}, All2 (fzC j o) cs ds → All2 (Ce.rel I R) cs vs → All2 (Ce.rel I R') ds vs
  | [], [], [], _, _ => trivial
  | a :: l, b :: m, c :: k, h1, h2 => ⟨h _ _ _ h1.1 h2.1, fzL h h1.2 h2.2⟩
  | [], _ :: _, _, h1, _ => h1.elim
  | _ :: _, [], _, h1, _ => h1.elim
  | [], [], _ :: _, _, h2 => h2.elim
  | _ :: _, _ :: _, [], _, h2 => h2.elim
theorem fzW_rel {j : Nat} {o : Option Blk} {I : IM} {R R' : RM} (hR : RExt R R') (h : ∀ c c' u, fzC j o c c' → c.rel I R u → c'.rel I R' u) {x y : AV} {u : Value} (hv : fzV j o x y) (hr : x.rel I R u) : y.rel I R' u := by
  unfold fzV at hv
  split at hv
  · exact h _ _ _ hv hr
  · obtain ⟨vs, h1, h2⟩ := hr
    exact ⟨vs, h1, fzL h hv h2⟩
  · subst hv; exact AV.mono (.refl _) hR hr
section
variable {W : Wo} {n m : Nat} {s s0 : S}
theorem fz_stp (j : Nat) (s s0 : S) (hF : ∀ t x, get s0.F t = some x → ∃ y, get s.F t = some y ∧ fzV j (kb s.K j) y x) (hK : ∀ i b, kz s0.K i = some b → i ≠ j ∧ ∃ b0, kz s.K i = some b0 ∧ fzO j (kb s.K j) b0 b) (ht : s.top ≤ s0.top) (hm : m ≤ s0.top) : Stp m s s0 := fun n W I R a w hs hd => by
  have hz := hs.wz
  have hwd := hz.wd
  rw [kb_eq] at hwd
  obtain ⟨R', h1, h2, h3⟩ := fz1 hwd j
  refine ⟨I, R', ⟨hs.size, hs.mks, fun t x hx => ?_, ?_⟩, fun j hj => hd j (Nat.le_trans ht hj), hm, fun _ _ => rfl, h2⟩
  · obtain ⟨y, hy, hi⟩ := hF t x hx
    exact fzW_rel h2 h3 hi (hs.fr t y hy)
  · have key : ∀ {i : Nat} {b : Blk}, Y.blkOf (ky s0.K) i = some b → i ≠ j ∧ ∃ b0, kb s.K i = some b0 ∧ (b0.sz = b.sz ∧ b0.ty = b.ty ∧ b0.bx = b.bx) ∧ All2 (All2 (fzC j (kb s.K j))) b0.rows b.rows := by
      intro i b hb
      rw [kb_eq, kb_kz] at hb
      cases hk : kz s0.K i with
      | none => rw [hk] at hb; cases hb
      | some o =>
        rw [hk] at hb
        obtain ⟨hne, o0, ho0, hio⟩ := hK i o hk
        refine ⟨hne, ?_⟩
        cases o with
        | b x =>
          simp only [isB, Option.some.injEq] at hb
          subst hb
          cases o0 with
          | b y => exact ⟨y, by rw [kb_kz, ho0]; rfl, hio.1, hio.2⟩
          | m es => cases hio
          | l z => cases hio
          | i z => cases hio
        | m es => cases hb
        | l z => cases hb
        | i z => cases hb
    have keyO : ∀ {i : Nat} {o : Y.Ob}, ky s0.K i = some o → o.nb = true → ky s.K i = some o := by
      intro i o ho hn
      obtain ⟨b, hb, rfl⟩ := ky_some ho
      obtain ⟨_, o0, ho0, hio⟩ := hK i b hb
      cases b with
      | b x => cases hn
      | m es => cases o0 with
        | b y => cases hio
        | m es' => cases hio; exact ky_of ho0
        | l z => cases hio
        | i z => cases hio
      | l x => cases o0 with
        | b y => cases hio
        | m es' => cases hio
        | l z => cases hio; exact ky_of ho0
        | i z => cases hio
      | i x => cases o0 with
        | b y => cases hio
        | m es' => cases hio
        | l z => cases hio
        | i z => cases hio; exact ky_of ho0
    have up : ∀ {i : Nat} {b0 : Blk}, i ≠ j → kb s.K i = some b0 → kup (kb s.K) [(j, none)] i = some b0 := fun hne hb => by simp only [kup, if_neg hne]; exact hb
    refine ⟨⟨?_, ?_, ?_, h1.ro, ?_, h1.fresh, h1.less, h1.below, h1.out, h1.qz⟩, fun i o hi hn => ?_, fun i j oi oj p q hi hj hni hnj => hz.inj i j oi oj p q (keyO hi hni) (keyO hj hnj) hni hnj⟩
    · intro i b hi
      obtain ⟨hne, b0, hb0, hsz, hrows⟩ := key hi
      obtain ⟨p, hp, hk⟩ := hwd.blk i b0 hb0
      refine ⟨p, hp, ?_⟩
      have hlen := hrows.length
      obtain ⟨g1, g2, g3, g4, cs, g5, g6, g7⟩ := hk
      refine ⟨g1.trans hsz.1, by rw [← hlen]; exact g2, g3, fun r hr => ?_, cs, by rw [← hsz.2.1]; exact g5, g6, fun q r k c hq hk => ?_⟩
      · obtain ⟨q, hq⟩ := List.getElem?_of_mem hr
        obtain ⟨r0, hr0, hrr⟩ := All2.get' hrows hq
        rw [← hrr.length, g4 r0 (List.mem_of_getElem? hr0), hsz.1]
      · obtain ⟨r0, hr0, hrr⟩ := All2.get' hrows hq
        obtain ⟨c0, hc0, hcc⟩ := All2.get' hrr hk
        obtain ⟨u, hu, hur⟩ := g7 _ _ _ _ hr0 hc0
        exact ⟨u, hu, h3 _ _ _ hcc hur⟩
    · intro i i' bi bj p q hi hj
      obtain ⟨e1, b0, hb0, _⟩ := key hi
      obtain ⟨e2, b1, hb1, _⟩ := key hj
      exact h1.inj i i' b0 b1 p q (up e1 hb0) (up e2 hb1)
    · intro i b p hi
      obtain ⟨e1, b0, hb0, _⟩ := key hi
      exact h1.base i b0 p (up e1 hb0)
    · intro i b p f o hi
      obtain ⟨e1, b0, hb0, _⟩ := key hi
      exact h1.apart i b0 p f o (up e1 hb0)
    · obtain ⟨p, hp, ho, hzz⟩ := hz.ob i o (keyO hi hn) hn
      exact ⟨p, hp, Y.ObOk.mono ho (.refl _) h2 rfl, hzz⟩
def subFf (j : Nat) (o : Option Blk) (F : Fr) : Fr → Prop
  | [] => True
  | (t, x) :: G => (∃ y, get F t = some y ∧ fzV j o y x) ∧ subFf j o F G
def subKf (j : Nat) (o : Option Blk) (K : Kr) : Kr → Prop
  | [] => True
  | (i, x) :: G => (i ≠ j ∧ ∀ b, x = some b → ∃ b0, kz K i = some b0 ∧ fzO j o b0 b) ∧ subKf j o K G
theorem subFf.get {j : Nat} {o : Option Blk} {F : Fr} : ∀ {G : Fr} {t : Nat} {x : AV}, subFf j o F G → Wx.get G t = some x → ∃ y, Wx.get F t = some y ∧ fzV j o y x
  | [], t, x, _, h => by simp [Wx.get] at h
  | (k, y) :: G, t, x, hs, h => by
    simp only [Wx.get] at h
    cases hb : Nat.beq k t with
    | true =>
      simp only [hb, Option.some.injEq] at h
      subst h
      rw [← Nat.eq_of_beq_eq_true hb]
      exact hs.1
    | false =>
      simp only [hb] at h
      exact subFf.get hs.2 h
theorem fzC.refl {j : Nat} {o : Option Blk} (c : Ce) : fzC j o c c := .inl (Imp.refl c)
theorem All2.self {α : Type} {r : α → α → Prop} (h : ∀ a, r a a) : ∀ l : List α, All2 r l l
  | [] => trivial
  | a :: l => ⟨h a, All2.self h l⟩
theorem fzV.refl {j : Nat} {o : Option Blk} (x : AV) : fzV j o x x := by
  unfold fzV
  split
  · exact fzC.refl _
  · exact All2.self fzC.refl _
  · rfl
theorem fzO.refl {j : Nat} {o : Option Blk} (x : Ob) : fzO j o x x := by
  unfold fzO
  split
  · exact ⟨⟨rfl, rfl, rfl⟩, All2.self (All2.self fzC.refl) _⟩
  · rfl
/-- The block j is written no more; slots and blocks as told, all else as it was. -/
theorem Stp.fz (j : Nat) (ch : Fr) (ck : Kr) (hF : subFf j (kb s.K j) s.F ch) (hK : subKf j (kb s.K j) s.K ck) (hm : m ≤ s.top) : Stp m s ⟨ch ++ s.F, ck ++ (j, none) :: s.K, s.top⟩ :=
  fz_stp j s _ (fun t x hx => by
    rcases get_append hx with h | ⟨_, h⟩
    · exact hF.get h
    · exact ⟨x, h, fzV.refl _⟩) (fun i b hb => by
    clear hF hm
    generalize kb s.K j = o at hK
    revert hb
    show kz (ck ++ (j, none) :: s.K) i = some b → _
    intro hb
    induction ck with
    | nil =>
      simp only [List.nil_append, kz] at hb
      cases hbe : Nat.beq j i with
      | true => rw [hbe] at hb; cases hb
      | false =>
        rw [hbe] at hb
        exact ⟨fun e => by subst e; simp at hbe, b, hb, fzO.refl _⟩
    | cons p ck ih =>
      obtain ⟨k, x⟩ := p
      simp only [List.cons_append, kz] at hb
      cases hbe : Nat.beq k i with
      | true =>
        rw [hbe] at hb
        have := Nat.eq_of_beq_eq_true hbe
        subst this
        exact ⟨hK.1.1, hK.1.2 b hb⟩
      | false =>
        rw [hbe] at hb
        exact ih hK.2 hb) (Nat.le_refl _) hm
theorem rndZ_stp {α : Type} {G : α → S} {Inv : α → Prop} {μ : α → Nat} {p : α} {s s1 : S} (h : Stp m s s1) (k : rndZ m G Inv μ p s1) : rndZ m G Inv μ p s := by
  obtain ⟨p', h1, h2, h3⟩ := k.h
  exact ⟨p', h1, h2, h.trans h3⟩
theorem Imp.gsl {i : Nat} {rows rows' : List (List Ce)} (h : rows.length = rows'.length) : Imp (.gsl i rows) (.gsl i rows') := fun I R u hr => by
  rcases hr with ⟨h1, h2⟩ | ⟨h1, p, c', h2⟩
  · exact .inl ⟨by subst h1; exact List.length_eq_zero_iff.1 h.symm, h2⟩
  · refine .inr ⟨fun e => h1 ?_, p, c', by rw [← h]; exact h2⟩
    subst e; exact List.length_eq_zero_iff.1 h
/-- At a round's end: the block that slot tj names is frozen in the rows of the block that slot ti names. -/
theorem rnd_fz1 {α : Type} {G : α → S} {Inv : α → Prop} {μ : α → Nat} {p : α} {s : S} (tj ti : Nat) {rows : List (List Ce)} (rows' : List (List Ce)) {sz : Nat} {ty : TypeId} {bx : Bool} (hm : Nat.ble m s.top = true) (hne : Nat.beq (s.idAt ti) (s.idAt tj) = false) (hi : kz s.K (s.idAt ti) = some (.b ⟨rows, sz, ty, bx⟩)) (hg : get s.F ti = some (.c (.gsl (s.idAt ti) rows))) (h : All2 (All2 (fzC (s.idAt tj) (kb s.K (s.idAt tj)))) rows rows')
    (k : rndZ m G Inv μ p ⟨(ti, .c (.gsl (s.idAt ti) rows')) :: s.F, (s.idAt ti, some (.b ⟨rows', sz, ty, bx⟩)) :: (s.idAt tj, none) :: s.K, s.top⟩) : rndZ m G Inv μ p s :=
  rndZ_stp (Stp.fz (s.idAt tj) [(ti, .c (.gsl (s.idAt ti) rows'))] [(s.idAt ti, some (.b ⟨rows', sz, ty, bx⟩))] ⟨⟨_, hg, .inl (Imp.gsl h.length)⟩, trivial⟩ ⟨⟨fun e => by rw [e] at hne; simp at hne, fun b hb => by cases hb; exact ⟨_, hi, ⟨rfl, rfl, rfl⟩, h⟩⟩, trivial⟩ (Nat.le_of_ble_eq_true hm)) k
/-- At a round's end: the rows of the block that slot ti names, by another account. -/
theorem rnd_im {α : Type} {G : α → S} {Inv : α → Prop} {μ : α → Nat} {p : α} {s : S} (ti : Nat) {rows : List (List Ce)} (rows' : List (List Ce)) {sz : Nat} {ty : TypeId} {bx : Bool} (hm : Nat.ble m s.top = true) (hi : kz s.K (s.idAt ti) = some (.b ⟨rows, sz, ty, bx⟩)) (hg : get s.F ti = some (.c (.gsl (s.idAt ti) rows))) (h : All2 (All2 Imp) rows rows')
    (k : rndZ m G Inv μ p ⟨(ti, .c (.gsl (s.idAt ti) rows')) :: s.F, (s.idAt ti, some (.b ⟨rows', sz, ty, bx⟩)) :: s.K, s.top⟩) : rndZ m G Inv μ p s :=
  rndZ_stp (imp_stp s ⟨(ti, .c (.gsl (s.idAt ti) rows')) :: s.F, (s.idAt ti, some (.b ⟨rows', sz, ty, bx⟩)) :: s.K, s.top⟩ (fun t x hx => by
    have hx' : get ((ti, .c (.gsl (s.idAt ti) rows')) :: s.F) t = some x := hx
    simp only [Wx.get] at hx'
    cases hb : Nat.beq ti t with
    | true =>
      rw [hb] at hx'
      simp only [Option.some.injEq] at hx'
      subst hx'
      rw [← Nat.eq_of_beq_eq_true hb]
      exact ⟨_, hg, Imp.gsl h.length⟩
    | false => rw [hb] at hx'; exact ⟨x, hx', ImpV.refl x⟩) (fun j b hb => by
    have hb' : kz ((s.idAt ti, some (.b ⟨rows', sz, ty, bx⟩)) :: s.K) j = some b := hb
    simp only [kz] at hb'
    cases hc : Nat.beq (s.idAt ti) j with
    | true =>
      rw [hc] at hb'
      cases hb'
      rw [← Nat.eq_of_beq_eq_true hc]
      exact ⟨_, hi, ⟨rfl, rfl, rfl⟩, h⟩
    | false => rw [hc] at hb'; exact ⟨b, hb', ImpO.refl b⟩) (Nat.le_refl _) (Nat.le_of_ble_eq_true hm)) k
theorem Imp.of_eq {c c' : Ce} (h : c = c') : Imp c c' := by subst h; exact Imp.refl c
theorem imp_snoc {α : Type} {l : List α} {f : α → List Ce} {x : α} {r : List Ce} (h : All2 Imp r (f x)) : All2 (All2 Imp) (l.map f ++ [r]) ((l ++ [x]).map f) := by
  rw [List.map_append]
  exact All2.append (All2.self (All2.self Imp.refl) _) ⟨h, trivial⟩
theorem imp_eq {rows rows' : List (List Ce)} (h : rows = rows') : All2 (All2 Imp) rows rows' := by subst h; exact All2.self (All2.self Imp.refl) _
theorem lay_copy {α : Type} {z : List Ce} {n k : Nat} {g : α → List RT} {fl : Bool} {l : List α} {f : α → List Ce} (hn : n = l.length) (hk : l.length ≤ k) (hf : ∀ x, (g x).map (RT.ce fl) = f x) : lay (List.replicate n z) 0 (List.take k ((l.map g).map (List.map (RT.ce fl)))) = l.map f := by
  rw [List.take_of_length_le (by simpa using hk), lay_all (by simpa using hn.symm), map_ce hf]
theorem ren_app {α : Type} {l m : List α} {f : α → α} (h1 : l.map f = l) (h2 : m.map f = m) : (l ++ m).map f = l ++ m := by rw [List.map_append, h1, h2]
theorem set_mid {α : Type} {a : List α} {b c : α} {l : List α} {i : Nat} (h : i = a.length) : (a ++ b :: l).set i c = (a ++ [c]) ++ l := by
  subst h; simp
theorem get_mid {α : Type} {a : List α} {b : α} {l : List α} {i : Nat} (h : i = a.length) : (a ++ b :: l)[i]? = some b := by
  subst h; simp
/-- At a round's end: the rows of a block, told anew. -/
theorem rnd_rw {α : Type} {G : α → S} {Inv : α → Prop} {μ : α → Nat} {p : α} {s : S} (i : Nat) {rows : List (List Ce)} (rows' : List (List Ce)) {sz : Nat} {ty : TypeId} {bx : Bool} (hm : Nat.ble m s.top = true) (hi : kz s.K i = some (.b ⟨rows, sz, ty, bx⟩)) (e : rows = rows')
    (k : rndZ m G Inv μ p ⟨s.F, (i, some (.b ⟨rows', sz, ty, bx⟩)) :: s.K, s.top⟩) : rndZ m G Inv μ p s :=
  rndZ_stp (imp_stp s ⟨s.F, (i, some (.b ⟨rows', sz, ty, bx⟩)) :: s.K, s.top⟩ (fun t x hx => ⟨x, hx, ImpV.refl x⟩) (fun j b hb => by
    have hb' : kz ((i, some (.b ⟨rows', sz, ty, bx⟩)) :: s.K) j = some b := hb
    simp only [kz] at hb'
    cases hc : Nat.beq i j with
    | true =>
      rw [hc] at hb'
      cases hb'
      rw [← Nat.eq_of_beq_eq_true hc]
      exact ⟨_, hi, ⟨rfl, rfl, rfl⟩, imp_eq e⟩
    | false => rw [hc] at hb'; exact ⟨b, hb', ImpO.refl b⟩) (Nat.le_refl _) (Nat.le_of_ble_eq_true hm)) k
theorem take_min {α : Type} (l : List α) (k : Nat) : l.take (min l.length k) = l.take k := by
  rcases Nat.le_total l.length k with h | h
  · rw [Nat.min_eq_left h, List.take_of_length_le (Nat.le_refl _), List.take_of_length_le h]
  · rw [Nat.min_eq_right h]
end
/-- A slice that is only read: nil, of nothing, or of something. -/
theorem con_nilcases {P : Program} {g : FuncId} {sz : Nat} {rows : List (List RT)} {as : List A0} {post : AV → Wx.Kr → Nat → Prop} (h0 : rows = [] → Con P g (.one (.v (.slice none 0 0)) :: as) post) (h1 : rows = [] → ∀ ad cap, Con P g (.one (.v (.slice (some ad) 0 cap)) :: as) post) (h2 : ∀ r rs, rows = r :: rs → Con P g (.one (.ro false sz (r :: rs)) :: as) post) : Con P g (.one (.ro false sz rows) :: as) post := by
  cases rows with
  | cons r rs => exact h2 r rs rfl
  | nil =>
    refine ⟨(h0 rfl).fn, fun w vs hvs => ?_⟩
    cases vs with
    | nil => exact hvs.elim
    | cons v vs =>
      obtain ⟨hv, hvs⟩ := hvs
      have hv : Rd _ (.ro sz []) v := hv
      cases hv with
      | nil => exact (h0 rfl).run w _ ⟨rfl, hvs⟩
      | emp _ ad cap => exact (h1 rfl ad cap).run w _ ⟨rfl, hvs⟩
      | ro => exact (h1 rfl _ _).run w _ ⟨rfl, hvs⟩
theorem low_nil2 {α : Type} {f : α → List RT} {sz : Nat} : Ce.ro false sz (([] : List α).map f) = .v (.slice none 0 0) ∨ ∃ s, Ce.ro false sz (([] : List α).map f) = .ro false s [] := .inr ⟨_, rfl⟩
theorem callZ_mk {P : Program} {m : Nat} {g : FuncId} {avs : List AV} {K : Kr} {top : Nat} {k : AV → Kr → Nat → Prop} {args : List A0} {res : AV} {Kc : Wx.Kr} {tc : Nat} (zlow : All2 (lowV (kb K)) avs args) (h : Con P g args (fun x K t => x = res ∧ K = Kc ∧ t = tc)) (zk : k (res.ren (top + ·)) (upk (shK top Kc) ++ K) (top + tc)) : CallZ P m (.fn g []) avs K top k :=
  callZ_con zlow h (by rintro _ _ _ ⟨rfl, rfl, rfl⟩; exact zk)
theorem conZ_mz {P : Program} {g : FuncId} {avs : List AV} {K : Kr} {top : Nat} {k : Eff → Prop} {args : List A0} {res : AV} {Kc : Wx.Kr} {tc : Nat} (zlow : All2 (lowV (kb K)) avs args) (h : Con P g args (fun x K t => x = res ∧ K = Kc ∧ t = tc)) (zk : k ⟨res.ren (top + ·), avs.flatMap AV.refs, upk (shK top Kc), top + tc⟩) : ConZ P (.fn g []) avs K top k :=
  conZ_mk zlow h zk
/-! ### Cells, as they freeze -/
section
variable {j : Nat} {o : Option Blk}
theorem fzC.ogsl {α : Type} {l : List α} {f : α → List Ce} {g : α → List RT} {sz n : Nat} {ty : TypeId} {bx : Bool} {c : Option Nat} (h : o = some ⟨l.map f, sz, ty, bx⟩) (hn : n = l.length) (hf : ∀ x, (f x).map RT.ofT = (g x).map some) : fzC j o (.osl j 0 n c) (.ro true sz (l.map g)) := by
  subst hn
  exact .inr (.inl ⟨0, _, c, _, _, rfl, h, rfl, by simp, by rw [List.drop_zero, List.take_of_length_le (by simp), List.map_map, List.map_map]; exact List.map_congr_left fun x _ => hf x⟩)
theorem fzC.gslm {α : Type} {l : List α} {f : α → List Ce} {g : α → List RT} {sz : Nat} {ty : TypeId} (h : o = gB sz ty (l.map f)) (hf : ∀ x, (f x).map RT.ofT = (g x).map some) : fzC j o (.gsl j (l.map f)) (.ro true sz (l.map g)) :=
  .inr (.inr ⟨sz, ty, _, _, rfl, h, rfl, by rw [List.map_map, List.map_map]; exact List.map_congr_left fun x _ => hf x⟩)
theorem fzC.src {α : Type} {l : List α} {g : α → List RT} {fl : Bool} {sz n : Nat} {ty : TypeId} {bx : Bool} {c : Option Nat} (h : o = some ⟨(l.map g).map (List.map (RT.ce fl)), sz, ty, bx⟩) (hn : n = (l.map g).length) (hf : ∀ x, ((g x).map (RT.ce fl)).map RT.ofT = (g x).map some) : fzC j o (.osl j 0 n c) (.ro true sz (l.map g)) := by
  subst hn
  exact .inr (.inl ⟨0, _, c, _, _, rfl, h, rfl, by simp, by rw [List.drop_zero, List.take_of_length_le (by simp), List.map_map, List.map_map, List.map_map]; exact List.map_congr_left fun x _ => hf x⟩)
theorem rows_snoc {α : Type} {l : List α} {f : α → List Ce} {x : α} {r : List Ce} (h : All2 (fzC j o) r (f x)) : All2 (All2 (fzC j o)) (l.map f ++ [r]) ((l ++ [x]).map f) := by
  rw [List.map_append]
  exact All2.append (All2.self (All2.self fzC.refl) _) ⟨h, trivial⟩
end

/-! ### Slices changed in place: what is left when rows go, come, or are taken out (slices.Delete, DeleteFunc, append) -/
theorem frz_oslw {α : Type} {K : Nat → Option Blk} {l : List α} {f : α → List Ce} {g : α → List RT} {rows : List (List Ce)} {j n sz : Nat} {ty : TypeId} {bx : Bool} {c : Option Nat} (h : K j = some ⟨rows, sz, ty, bx⟩) (hn : n = l.length) (hr : rows.take n = l.map f) (hf : ∀ x, (f x).map RT.ofT = (g x).map some) : frzC K (.osl j 0 n c) (.ro true sz (l.map g)) := by
  simp only [frzC, h]
  exact ⟨_, rfl, by simp [hn], by rw [List.drop_zero, hr, List.map_map, List.map_map]; exact List.map_congr_left fun x _ => hf x⟩
theorem del_rows {α : Type} {f : α → List Ce} {A : List α} {i m : Nat} {Z : List (List Ce)} (hi : i < A.length) (hm : m = A.length) : List.take (i - 0 + (m - (i + 1))) (lay (lay (A.map f) (i - 0) (List.take (m - (i + 1)) (List.drop (0 + (i + 1)) (A.map f)))) (0 + (A.length - 1)) Z) = (A.eraseIdx i).map f := by
  subst hm
  rw [List.eraseIdx_eq_take_drop_succ, List.map_append, List.map_take, List.map_drop]
  have hS : List.take (A.length - (i + 1)) (List.drop (0 + (i + 1)) (A.map f)) = (A.map f).drop (i + 1) := by rw [Nat.zero_add]; exact List.take_of_length_le (by simp)
  rw [hS]
  generalize hM : A.map f = M
  have hl : M.length = A.length := by rw [← hM, List.length_map]
  rw [show i - 0 + (A.length - (i + 1)) = A.length - 1 by omega, show 0 + (A.length - 1) = A.length - 1 by omega, Nat.sub_zero]
  unfold lay
  rw [List.take_left' (by simp; omega), ← List.append_assoc, List.take_left' (by simp; omega)]
theorem del_end {α : Type} {f : α → List Ce} {A : List α} {i : Nat} {Z : List (List Ce)} (hi : i + 1 = A.length) : List.take (i - 0 + 0) (lay (lay (A.map f) (i - 0) []) (0 + (A.length - 1)) Z) = (A.eraseIdx i).map f := by
  rw [List.eraseIdx_eq_take_drop_succ, List.map_append, List.map_take, List.map_drop]
  generalize hM : A.map f = M
  have hl : M.length = A.length := by rw [← hM, List.length_map]
  rw [show i - 0 + 0 = i by omega, show 0 + (A.length - 1) = i by omega, Nat.sub_zero, List.drop_eq_nil_of_le (by omega), List.append_nil]
  unfold lay
  rw [List.take_left' (by simp; omega), List.take_left' (by simp; omega)]
theorem mid_get {α : Type} {f : α → List Ce} {A acc : List α} {j : Nat} {y : α} (h : acc.length ≤ j) (hy : A[j]? = some y) : ((acc ++ A.drop acc.length).map f)[0 + j]? = some (f y) := by
  rw [Nat.zero_add, List.getElem?_map, List.getElem?_append_right h, List.getElem?_drop, show acc.length + (j - acc.length) = j by omega, hy]; rfl
theorem cut_rows {α : Type} {f : α → List Ce} {A acc : List α} {Z : List (List Ce)} : List.take (acc.length - 0) (lay ((acc ++ A.drop acc.length).map f) (0 + acc.length) Z) = acc.map f := by
  rw [Nat.zero_add, Nat.sub_zero]
  unfold lay
  rw [List.map_append, List.take_left' (by simp), List.take_left' (by simp)]
theorem slN_lo {x : Int} {len : Nat} {cap : Option Nat} {A : Nat → Nat → Prop} (l : Nat) (e : x = (l : Int)) (h1 : l ≤ len) (k : A l len) : slN (some x) none len cap A := ⟨l, len, e, rfl, h1, .inl (Nat.le_refl _), k⟩
theorem slN_lhc {x y : Int} {len : Nat} {cap : Option Nat} {A : Nat → Nat → Prop} (l h : Nat) (e : x = (l : Int)) (e2 : y = (h : Int)) (h1 : l ≤ h) (h2 : ∃ c, cap = some c ∧ h ≤ c) (k : A l h) : slN (some x) (some y) len cap A := ⟨l, h, e, e2, h1, .inr h2, k⟩
theorem vN_K {z v K : Int} {A : Int → Prop} (hK : v = K) (h : z = v) (k : A K) : vN z A := ⟨K, h.trans hK, k⟩
theorem set_fz {j : Nat} {o : Option Blk} {c' : Ce} : ∀ {r : List Ce} {k : Nat} {c : Ce}, r[k]? = some c → fzC j o c c' → All2 (fzC j o) r (r.set k c')
  | [], k, c, h, _ => by simp at h
  | a :: r, 0, c, h, hc => by
    simp only [List.getElem?_cons_zero, Option.some.injEq] at h
    subst h
    exact ⟨hc, All2.self fzC.refl r⟩
  | a :: r, k + 1, c, h, hc => ⟨fzC.refl a, set_fz (by simpa using h) hc⟩
/-- At a round's end: the block that slot tj names is frozen in the last row of the growing block that cell kx of block B names. -/
theorem rnd_fzb {m : Nat} {α : Type} {G : α → S} {Inv : α → Prop} {μ : α → Nat} {p : α} {s : S} (tj B kx : Nat) {rows : List (List Ce)} (rows' : List (List Ce)) {sz : Nat} {ty : TypeId} {bx : Bool} {rB : List Ce} {szB : Nat} {tyB : TypeId} {bxB : Bool} (hm : Nat.ble m s.top = true) (hne : Nat.beq (s.idIn B kx) (s.idAt tj) = false) (hneB : Nat.beq B (s.idAt tj) = false) (hi : kz s.K (s.idIn B kx) = some (.b ⟨rows, sz, ty, bx⟩)) (hB : kz s.K B = some (.b ⟨[rB], szB, tyB, bxB⟩)) (hg : rB[kx]? = some (.gsl (s.idIn B kx) rows)) (h : All2 (All2 (fzC (s.idAt tj) (kb s.K (s.idAt tj)))) rows rows')
    (k : rndZ m G Inv μ p ⟨s.F, (s.idIn B kx, some (.b ⟨rows', sz, ty, bx⟩)) :: (B, some (.b ⟨[rB.set kx (.gsl (s.idIn B kx) rows')], szB, tyB, bxB⟩)) :: (s.idAt tj, none) :: s.K, s.top⟩) : rndZ m G Inv μ p s :=
  rndZ_stp (Stp.fz (s.idAt tj) [] [(s.idIn B kx, some (.b ⟨rows', sz, ty, bx⟩)), (B, some (.b ⟨[rB.set kx (.gsl (s.idIn B kx) rows')], szB, tyB, bxB⟩))] trivial ⟨⟨fun e => by rw [e] at hne; simp at hne, fun b hb => by cases hb; exact ⟨_, hi, ⟨rfl, rfl, rfl⟩, h⟩⟩, ⟨fun e => by rw [e] at hneB; simp at hneB, fun b hb => by cases hb; exact ⟨_, hB, ⟨rfl, rfl, rfl⟩, ⟨set_fz hg (.inl (Imp.gsl h.length)), trivial⟩⟩⟩, trivial⟩ (Nat.le_of_ble_eq_true hm)) k
/-- At a round's end: the rows of a block, by another account, cell by cell. -/
theorem rnd_bi {m : Nat} {α : Type} {G : α → S} {Inv : α → Prop} {μ : α → Nat} {p : α} {s : S} (i : Nat) {rows : List (List Ce)} (rows' : List (List Ce)) {sz : Nat} {ty : TypeId} {bx : Bool} (hm : Nat.ble m s.top = true) (hi : kz s.K i = some (.b ⟨rows, sz, ty, bx⟩)) (e : All2 (All2 Imp) rows rows')
    (k : rndZ m G Inv μ p ⟨s.F, (i, some (.b ⟨rows', sz, ty, bx⟩)) :: s.K, s.top⟩) : rndZ m G Inv μ p s :=
  rndZ_stp (imp_stp s ⟨s.F, (i, some (.b ⟨rows', sz, ty, bx⟩)) :: s.K, s.top⟩ (fun t x hx => ⟨x, hx, ImpV.refl x⟩) (fun j b hb => by
    have hb' : kz ((i, some (.b ⟨rows', sz, ty, bx⟩)) :: s.K) j = some b := hb
    simp only [kz] at hb'
    cases hc : Nat.beq i j with
    | true =>
      rw [hc] at hb'
      cases hb'
      rw [← Nat.eq_of_beq_eq_true hc]
      exact ⟨_, hi, ⟨rfl, rfl, rfl⟩, e⟩
    | false => rw [hc] at hb'; exact ⟨b, hb', ImpO.refl b⟩) (Nat.le_refl _) (Nat.le_of_ble_eq_true hm)) k
theorem Imp.oslc {i q n : Nat} {c : Option Nat} : Imp (.osl i q n c) (.osl i q n none) := fun _ _ _ h => by
  obtain ⟨p, c', h1, h2, h3, h4, _⟩ := h
  exact ⟨p, c', h1, h2, h3, h4, fun c0 e => by cases e⟩
theorem Imp.oslcn {i q n n' : Nat} {c : Option Nat} (e : n = n') : Imp (.osl i q n c) (.osl i q n' none) := by subst e; exact Imp.oslc
/-- A call that is handed an own slice of a capacity unknown: whatever it is. -/
theorem callZ_cap {P : Program} {m i q n top : Nat} {f : Ce} {as : List AV} {K : Kr} {k : AV → Kr → Nat → Prop} (h : ∀ c, n ≤ c → CallZ P m f (.c (.osl i q n (some c)) :: as) K top k) : CallZ P m f (.c (.osl i q n none) :: as) K top k := by
  refine ⟨fun W I R w v vs hw hd hm hvs hv => ?_⟩
  cases vs with
  | nil => exact hvs.elim
  | cons u us =>
    obtain ⟨hu, hus⟩ := hvs
    obtain ⟨p, c', hp, hux, h1, h2, _⟩ : (Ce.osl i q n none).rel I R u := hu
    exact (h c' h1).run W I R w v (u :: us) hw hd hm ⟨(⟨p, c', hp, hux, h1, h2, fun c hc => Option.some.inj hc⟩ : (Ce.osl i q n (some c')).rel I R u), hus⟩ hv
theorem inL_mapr {α : Type} {l : List Nat} {xs : List α} {f : α → List Ce} {r : Nat → Nat} {sz : Nat} {ty : TypeId} {bx : Bool} (h : ∀ x, ((f x).map (Ce.ren r)).all (Ce.inB l) = true) : (Ob.b ⟨(xs.map f).map (List.map (Ce.ren r)), sz, ty, bx⟩).inL l = true := by
  rw [List.map_map]
  exact inL_map (f := List.map (Ce.ren r) ∘ f) h
end Go.Proofs.Ytllnmdmmmkoiaaa.Wx.Z
