import Derived.Test.YtjjdfiapcpbapaaLib4
import Derived.Lib.Overlaps
import Derived.Sort.Grow
import Derived.Sort.EncStr
/-
  The second layer, walked: loops with what is kept told by slots alone; results that are written no more.
-/
namespace Go.Proofs.Ytjjdfiapcpbapaa.Wx.Z
open Go Go.RowKit
set_option linter.unusedVariables false

/-! ### A loop, with what is kept -/
def ImpV : AV → AV → Prop
  | .pl (.one c), .pl (.one c') => Imp c c'
  | x, y => x = y
theorem ImpV.rel {x y : AV} (h : ImpV x y) {I : IM} {R : RM} {u : Value} (hx : x.rel I R u) : y.rel I R u := by
  unfold ImpV at h
  split at h
  · exact h I R u hx
  · subst h; exact hx
def subFi (F : Fr) : Fr → Prop
  | [] => True
  | (t, x) :: G => (∃ y, get F t = some y ∧ ImpV y x) ∧ subFi F G
def subKz (K : Kr) : Kr → Prop
  | [] => True
  | (j, o) :: G => kz K j = o ∧ subKz K G
/-- One block by another account. -/
def ImpO : Ob → Ob → Prop
  | .b x, .b y => (x.sz = y.sz ∧ x.ty = y.ty ∧ x.bx = y.bx) ∧ All2 (All2 Imp) x.rows y.rows
  | x, y => x = y
def subKi (K : Kr) : Kr → Prop
  | [] => True
  | (j, o) :: G => (∀ b, o = some b → ∃ b0, kz K j = some b0 ∧ ImpO b0 b) ∧ subKi K G
theorem subFi.get {F : Fr} : ∀ {G : Fr} {t : Nat} {x : AV}, subFi F G → Wx.get G t = some x → ∃ y, Wx.get F t = some y ∧ ImpV y x
  | [], t, x, _, h => by simp [Wx.get] at h
  | (k, y) :: G, t, x, hs, h => by
    simp only [Wx.get] at h
    cases hb : Nat.beq k t with
    | true =>
      simp only [hb, Option.some.injEq] at h
      subst h
      rw [← Nat.eq_of_beq_eq_true hb]
      exact hs.1
    | false =>
      simp only [hb] at h
      exact subFi.get hs.2 h
theorem get_append {F G : Fr} {t : Nat} {x : AV} (h : Wx.get (F ++ G) t = some x) : Wx.get F t = some x ∨ (Wx.get F t = none ∧ Wx.get G t = some x) := by
  induction F with
  | nil => exact .inr ⟨rfl, h⟩
  | cons p F ih =>
    obtain ⟨k, y⟩ := p
    simp only [List.cons_append, Wx.get] at h ⊢
    cases hb : Nat.beq k t with
    | true => simp only [hb] at h; exact .inl h
    | false => simp only [hb] at h; exact ih h
theorem kz_append {F G : Kr} {t : Nat} {x : Ob} (h : kz (F ++ G) t = some x) : kz F t = some x ∨ kz G t = some x := by
  induction F with
  | nil => exact .inr h
  | cons p F ih =>
    obtain ⟨k, y⟩ := p
    simp only [List.cons_append, kz] at h ⊢
    cases hb : Nat.beq k t with
    | true => simp only [hb] at h; exact .inl h
    | false => simp only [hb] at h; exact ih h
theorem subKz.get {K : Kr} : ∀ {G : Kr} {j : Nat} {b : Ob}, subKz K G → kz G j = some b → kz K j = some b
  | [], j, b, _, h => by simp [kz] at h
  | (k, y) :: G, j, b, hs, h => by
    simp only [kz] at h
    cases hb : Nat.beq k j with
    | true =>
      simp only [hb] at h
      subst h
      rw [← Nat.eq_of_beq_eq_true hb]
      exact hs.1
    | false =>
      simp only [hb] at h
      exact subKz.get (G := G) hs.2 h
theorem subKi.get {K : Kr} : ∀ {G : Kr} {j : Nat} {b : Ob}, subKi K G → kz G j = some b → ∃ b0, kz K j = some b0 ∧ ImpO b0 b
  | [], j, b, _, h => by simp [kz] at h
  | (k, y) :: G, j, b, hs, h => by
    simp only [kz] at h
    cases hb : Nat.beq k j with
    | true =>
      simp only [hb] at h
      rw [← Nat.eq_of_beq_eq_true hb]
      exact hs.1 b h
    | false =>
      simp only [hb] at h
      exact subKi.get (G := G) hs.2 h
theorem ImpO.refl (o : Ob) : ImpO o o := by
  cases o with
  | b x => exact ⟨⟨rfl, rfl, rfl⟩, All2.of_get rfl fun i a b h1 h2 => by rw [h1] at h2; cases h2; exact All2.of_get rfl fun i a b h1 h2 => by rw [h1] at h2; cases h2; exact Imp.refl _⟩
  | m es => exact rfl
  | l x => exact rfl
  | i x => exact rfl
section
variable {P : Program} {T : Tab} {W : Wo} {n m : Nat} {rd : Option Nat} {I : IM} {R : RM} {a : Act} {w : World} {s s0 : S}
theorem All2.get' {α β : Type} {r : α → β → Prop} : ∀ {l : List α} {m : List β} {i : Nat} {b : β}, All2 r l m → m[i]? = some b → ∃ a, l[i]? = some a ∧ r a b
  | [], [], i, a, _, h => by simp at h
  | x :: l, y :: m, 0, b, hh, h => by simp at h; subst h; exact ⟨x, rfl, hh.1⟩
  | x :: l, y :: m, i + 1, b, hh, h => by simpa using All2.get' (i := i) hh.2 (by simpa using h)
  | [], _ :: _, _, _, hh, _ => hh.elim
  | _ :: _, [], _, _, hh, _ => hh.elim
theorem Bk.imp {x y : Blk} {p : Loc} (h1 : x.sz = y.sz ∧ x.ty = y.ty ∧ x.bx = y.bx) (h2 : All2 (All2 Imp) x.rows y.rows) (hk : Bk I R x p w) : Bk I R y p w := by
  have hlen := h2.length
  obtain ⟨g1, g2, g3, g4, cs, g5, g6, g7⟩ := hk
  refine ⟨g1.trans h1.1, by rw [← hlen]; exact g2, g3, fun r hr => ?_, cs, by rw [← h1.2.1]; exact g5, g6, fun q r k c hq hk => ?_⟩
  · obtain ⟨q, hq⟩ := List.getElem?_of_mem hr
    obtain ⟨r0, hr0, hrr⟩ := All2.get' h2 hq
    rw [← hrr.length, g4 r0 (List.mem_of_getElem? hr0), h1.1]
  · obtain ⟨r0, hr0, hrr⟩ := All2.get' h2 hq
    obtain ⟨c0, hc0, hcc⟩ := All2.get' hrr hk
    obtain ⟨u, hu, hur⟩ := g7 _ _ _ _ hr0 hc0
    exact ⟨u, hu, hcc _ _ _ hur⟩
theorem imp_stp (s s0 : S) (hF : ∀ t x, get s0.F t = some x → ∃ y, get s.F t = some y ∧ ImpV y x) (hK : ∀ j b, kz s0.K j = some b → ∃ b0, kz s.K j = some b0 ∧ ImpO b0 b) (ht : s.top ≤ s0.top) (hm : m ≤ s0.top) : Stp m s s0 := fun n W I R a w hs hd => by
  refine ⟨I, R, ⟨hs.size, hs.mks, fun t x hx => ?_, ?_⟩, fun j hj => hd j (Nat.le_trans ht hj), hm, fun _ _ => rfl, .refl _⟩
  · obtain ⟨y, hy, hi⟩ := hF t x hx
    exact hi.rel (hs.fr t y hy)
  · have hz := hs.wz
    have key : ∀ {j : Nat} {b : Blk}, Y.blkOf (ky s0.K) j = some b → ∃ b0, Y.blkOf (ky s.K) j = some b0 ∧ (b0.sz = b.sz ∧ b0.ty = b.ty ∧ b0.bx = b.bx) ∧ All2 (All2 Imp) b0.rows b.rows := by
      intro j b hb
      rw [kb_eq, kb_kz] at hb
      cases hk : kz s0.K j with
      | none => rw [hk] at hb; cases hb
      | some o =>
        rw [hk] at hb
        obtain ⟨o0, ho0, hio⟩ := hK j o hk
        cases o with
        | b x =>
          simp only [isB, Option.some.injEq] at hb
          subst hb
          cases o0 with
          | b y => exact ⟨y, by rw [kb_eq, kb_kz, ho0]; rfl, hio.1, hio.2⟩
          | m es => cases hio
          | l z => cases hio
          | i z => cases hio
        | m es => cases hb
        | l z => cases hb
        | i z => cases hb
    have keyO : ∀ {j : Nat} {o : Y.Ob}, ky s0.K j = some o → o.nb = true → ky s.K j = some o := by
      intro j o ho hn
      obtain ⟨b, hb, rfl⟩ := ky_some ho
      obtain ⟨o0, ho0, hio⟩ := hK j b hb
      cases b with
      | b x => cases hn
      | m es => cases o0 with
        | b y => cases hio
        | m es' => cases hio; exact ky_of ho0
        | l z => cases hio
        | i z => cases hio
      | l x => cases o0 with
        | b y => cases hio
        | m es' => cases hio
        | l z => cases hio; exact ky_of ho0
        | i z => cases hio
      | i x => cases o0 with
        | b y => cases hio
        | m es' => cases hio
        | l z => cases hio
        | i z => cases hio; exact ky_of ho0
    refine ⟨⟨?_, ?_, ?_, hz.wd.ro, ?_, hz.wd.fresh, hz.wd.less, hz.wd.below, hz.wd.out, hz.wd.qz⟩, fun i o hi hn => hz.ob i o (keyO hi hn) hn, fun i j oi oj p q hi hj hni hnj => hz.inj i j oi oj p q (keyO hi hni) (keyO hj hnj) hni hnj⟩
    · intro i b hi
      obtain ⟨b0, hb0, h1, h2⟩ := key hi
      obtain ⟨p, hp, hk⟩ := hz.wd.blk i b0 hb0
      exact ⟨p, hp, Bk.imp h1 h2 hk⟩
    · intro i j bi bj p q hi hj
      obtain ⟨b0, hb0, _⟩ := key hi
      obtain ⟨b1, hb1, _⟩ := key hj
      exact hz.wd.inj i j b0 b1 p q hb0 hb1
    · intro i b p hi
      obtain ⟨b0, hb0, _⟩ := key hi
      exact hz.wd.base i b0 p hb0
    · intro i b p f o hi
      obtain ⟨b0, hb0, _⟩ := key hi
      exact hz.wd.apart i b0 p f o hb0
theorem loopK {c : Code} {Q : Exit → S → Prop} {α : Type} (hT : TabOk P T) (ch : α → Fr) (chK : α → Kr) (Inv : α → Prop) (μ : α → Nat) (p0 : α) (top : Nat) (Fk : Fr) (hF : subFz s.F Fk) (Kk : Kr) (hK : subKz s.K Kk)
    (hch : subFi s.F (ch p0)) (hchK : subKi s.K (chK p0)) (ht : Nat.ble s.top top = true) (hm : Nat.ble m top = true) (h0 : Inv p0)
    (hb : ∀ p, Inv p → codeZ P T n m rd c ⟨ch p ++ Fk, chK p ++ Kk, top⟩ fun e s' => match e with | .normal => rndZ m (fun p => (⟨ch p ++ Fk, chK p ++ Kk, top⟩ : S)) Inv μ p s' | e => Q e s') : LoopZ P n m rd c s Q :=
  loopZ_rule hT (fun p => ⟨ch p ++ Fk, chK p ++ Kk, top⟩) Inv μ p0 h0 (imp_stp _ _ (fun t x hx => by
    rcases get_append hx with h | ⟨_, h⟩
    · exact hch.get h
    · exact ⟨x, hF.get h, by unfold ImpV; split; · exact Imp.refl _
                             · rfl⟩) (fun j b hb => by
    rcases kz_append hb with h | h
    · exact hchK.get h
    · exact ⟨b, hK.get h, ImpO.refl _⟩) (Nat.le_of_ble_eq_true ht) (Nat.le_of_ble_eq_true hm)) hb
def memB (a : Nat) : List Nat → Bool
  | [] => false
  | b :: l => Nat.beq a b || memB a l
def nodB : List Nat → Bool
  | [] => true
  | a :: l => !memB a l && nodB l
theorem memB_of {a : Nat} : ∀ {l : List Nat}, a ∈ l → memB a l = true
  | [], h => by simp at h
  | b :: l, h => by
    rcases List.mem_cons.1 h with rfl | h
    · simp [memB]
    · simp [memB, memB_of h]
theorem nodB_spec : ∀ {l : List Nat}, nodB l = true → l.Nodup
  | [], _ => List.nodup_nil
  | a :: l, h => by
    simp only [nodB, Bool.and_eq_true, Bool.not_eq_true'] at h
    refine List.nodup_cons.2 ⟨fun hm => ?_, nodB_spec h.2⟩
    rw [memB_of hm] at h; cases h.1
theorem rndK {α : Type} {G : α → S} {Inv : α → Prop} {μ : α → Nat} {p : α} {s : S} (p' : α) (l : S → List Nat) (hl : (l s).length = (G p').top) (nd : nodB (l s) = true) (pre : (l s).take m = List.range m) (mle : Nat.ble m (G p').top = true)
    (hF : subF (rn (l s) s.top) s.F (G p').F) (hK : subK (rn (l s) s.top) s.K (G p').K) (hI : Inv p') (hμ : μ p' < μ p) : rndZ m G Inv μ p s := ⟨p', hI, hμ, Wk.stp ⟨hl, nodB_spec nd, pre, Nat.le_of_ble_eq_true mle, hF, hK⟩⟩
end

/-! ### Results that are written no more -/
open Classical in
/-- All that the call has made is written no more. -/
noncomputable def fzR (W : Wo) (R : RM) (w : World) : RM := fun f b o => if W.z b then R f b o else w.cell? ⟨b, o, none⟩
theorem fz_all {W : Wo} {K : Nat → Option Blk} {I : IM} {R : RM} {w : World} (h : Wd W K I R w) : Wd W (kg []) I (fzR W R w) w ∧ RExt R (fzR W R w) := by
  refine ⟨⟨fun i b h => by simp [kg] at h, fun i j bi bj p q h => by simp [kg] at h, fun i b p h => by simp [kg] at h, ?_, fun i b p f o h => by simp [kg] at h, ?_, ?_, h.below, ?_, h.qz⟩, ?_⟩
  · intro f b o u hu
    unfold fzR at hu
    split at hu
    · exact h.ro f b o u hu
    · exact hu
  · intro b o u hu hz
    unfold fzR at hu
    rw [if_pos hz] at hu
    exact h.fresh b o u hu hz
  · intro b o u hu
    unfold fzR at hu ⊢
    split
    · rename_i hz; rw [if_pos hz] at hu; exact h.less b o u hu
    · rename_i hz; rw [if_neg hz] at hu; exact hu
  · intro f b o u hu hq
    unfold fzR at hu
    rw [if_pos (h.qz b hq)] at hu
    exact h.out f b o u hu hq
  · intro f b o u hu
    unfold fzR
    split
    · exact hu
    · exact h.ro f b o u hu
def frzN : Value → Ce → Prop
  | .slice none 0 0, d => d = .v (.slice none 0 0) ∨ ∃ sz, d = .ro true sz []
  | x, d => d = .v x
/-- As a result that is written no more. -/
def frzC (K : Nat → Option Blk) : Ce → Ce → Prop
  | .v x, d => frzN x d
  | .ro true sz rows, d => d = .ro true sz rows
  | .osl i q l _, d => match K i with
    | some b => ∃ rows, d = .ro true b.sz rows ∧ rows.length = l ∧ ((b.rows.drop q).take l).map (List.map RT.ofT) = rows.map (List.map some)
    | none => False
  | .gsl i rows, d => ∃ sz ty rows', d = .ro true sz rows' ∧ K i = gB sz ty rows ∧ rows.map (List.map RT.ofT) = rows'.map (List.map some)
  | _, _ => False
def frzA (K : Nat → Option Blk) : A0 → A0 → Prop
  | .one c, .one d => frzC K c d
  | .agg cs, .agg ds => All2 (frzC K) cs ds
  | _, _ => False
def Ce.fz' : Ce → Bool
  | .v _ => true
  | .ro true _ _ => true
  | _ => false
def A0.fz' : A0 → Bool
  | .one c => Ce.fz' c
  | .agg cs => cs.all Ce.fz'
def AV.fz' : AV → Bool
  | .pl a => A0.fz' a
  | .tup l => l.all A0.fz'
theorem fz_rel {I I' : IM} {R : RM} {c : Ce} {u : Value} (h : Ce.fz' c = true) (hr : c.rel I R u) : c.rel I' (fun _ => R true) u := by
  cases c with
  | v x => exact hr
  | ro fl sz rows => cases fl with
    | true => exact hr
    | false => cases h
  | _ => cases h
theorem fzA_rel {I I' : IM} {R : RM} {c : A0} {u : Value} (h : A0.fz' c = true) (hr : c.rel I R u) : c.rel I' (fun _ => R true) u := by
  cases c with
  | one c => exact fz_rel h hr
  | agg cs =>
    obtain ⟨vs, h1, h2⟩ := hr
    exact ⟨vs, h1, h2.mono_mem fun c hc b => fz_rel (List.all_eq_true.1 h c hc)⟩
theorem fzV_rel {I I' : IM} {R : RM} {c : AV} {u : Value} (h : AV.fz' c = true) (hr : c.rel I R u) : c.rel I' (fun _ => R true) u := by
  cases c with
  | pl c => exact fzA_rel h hr
  | tup cs =>
    obtain ⟨vs, h1, h2⟩ := hr
    exact ⟨vs, h1, h2.mono_mem fun c hc b => fzA_rel (List.all_eq_true.1 h c hc)⟩
theorem frzC_own {K : Nat → Option Blk} {c d : Ce} (h : frzC K c d) : Ce.fz' d = true := by
  cases c with
  | v x =>
    replace h : frzN x d := h
    unfold frzN at h
    split at h
    · rcases h with rfl | ⟨sz, rfl⟩ <;> rfl
    · cases h; rfl
  | ro fl sz rows => cases fl with
    | true => cases h; rfl
    | false => exact h.elim
  | osl i q l cp =>
    simp only [frzC] at h
    split at h
    · obtain ⟨rows, rfl, _⟩ := h; rfl
    · exact h.elim
  | gsl i rows => obtain ⟨sz, ty, rows', rfl, _⟩ := h; rfl
  | _ => exact h.elim
theorem frzC_rel {K : Nat → Option Blk} {W : Wo} {I : IM} {R : RM} {w : World} (hw : Wd W K I R w) {c d : Ce} {u : Value} (h : frzC K c d) (hr : c.rel I R u) : d.rel I (fzR W R w) u := by
  have hx := (fz_all hw).2
  have hcell : ∀ {i : Nat} {b : Blk} {p : Loc}, K i = some b → I i = some p → ∀ o u, w.cell? ⟨p.b, o, none⟩ = some u → fzR W R w true p.b o = some u := fun hb hp o u hu => by
    unfold fzR; rw [if_neg (hw.base _ _ _ hb hp)]; exact hu
  cases c with
  | v x =>
    replace h : frzN x d := h
    unfold frzN at h
    split at h
    · rcases h with rfl | ⟨sz, rfl⟩
      · exact hr
      · cases hr; exact .nil sz
    · cases h; exact hr
  | ro fl sz rows => cases fl with
    | true => cases h; exact Ce.mono (.refl _) hx hr
    | false => exact h.elim
  | osl i q l cp =>
    simp only [frzC] at h
    split at h
    · rename_i b hb
      obtain ⟨rows, rfl, hlen, hmap⟩ := h
      obtain ⟨p, c', hp, rfl, hnc, hqc, _⟩ := hr
      obtain ⟨p', hp', hk⟩ := hw.blk i b hb
      rw [hp] at hp'; cases hp'
      subst hlen
      exact hk.rd RT.ofT (R0 := fzR W R w true) (fun c t u h1 h2 => (RT.ofT_rel h1 h2).mono (fun b o u h => hx _ _ _ _ h)) (hcell hb hp) q c' rows hnc hmap
    · exact h.elim
  | gsl i rows =>
    obtain ⟨sz, ty, rows', rfl, hK, hmap⟩ := h
    rcases hr with ⟨rfl, rfl⟩ | ⟨hne, p, c', hp, rfl, h1, h2⟩
    · have : rows' = [] := by cases rows' <;> first | rfl | simp at hmap
      subst this
      exact .nil sz
    · rw [gB_ne hne] at hK
      obtain ⟨p', hp', hk⟩ := hw.blk i _ hK
      rw [hp] at hp'; cases hp'
      have hlen : rows.length = rows'.length := by have := congrArg List.length hmap; simpa using this
      have := hk.rd RT.ofT (R0 := fzR W R w true) (fun c t u h1 h2 => (RT.ofT_rel h1 h2).mono (fun b o u h => hx _ _ _ _ h)) (hcell hK hp) 0 c' rows' (by omega) (by simpa [← hlen] using hmap)
      rw [Nat.zero_mul, ← hlen] at this
      exact this
  | _ => exact h.elim
theorem frz_list {K : Nat → Option Blk} {W : Wo} {I : IM} {R : RM} {w : World} (hw : Wd W K I R w) : ∀ {cs ds : List Ce} {vs : List Value}, All2 (frzC K) cs ds → All2 (Ce.rel I R) cs vs → All2 (Ce.rel I (fzR W R w)) ds vs
  | [], [], [], _, _ => trivial
  | c :: cs, d :: ds, v :: vs, h, hr => ⟨frzC_rel hw h.1 hr.1, frz_list hw h.2 hr.2⟩
  | [], [], _ :: _, _, hr => hr.elim
  | [], _ :: _, _, h, _ => h.elim
  | _ :: _, [], _, h, _ => h.elim
  | _ :: _, _ :: _, [], _, hr => hr.elim
theorem frzA_rel {K : Nat → Option Blk} {W : Wo} {I : IM} {R : RM} {w : World} (hw : Wd W K I R w) {c d : A0} {u : Value} (h : frzA K c d) (hr : c.rel I R u) : d.rel I (fzR W R w) u := by
  cases c with
  | one c => cases d with
    | one d => exact frzC_rel hw h hr
    | agg ds => exact h.elim
  | agg cs => cases d with
    | one d => exact h.elim
    | agg ds => obtain ⟨vs, h1, h2⟩ := hr; exact ⟨vs, h1, frz_list hw h h2⟩
theorem frzA_own {K : Nat → Option Blk} {c d : A0} (h : frzA K c d) : A0.fz' d = true := by
  cases c with
  | one c => cases d with
    | one d => exact frzC_own h
    | agg ds => exact h.elim
  | agg cs => cases d with
    | one d => exact h.elim
    | agg ds =>
      have h' : All2 (frzC K) cs ds := h
      clear h
      show ds.all Ce.fz' = true
      induction cs generalizing ds with
      | nil => cases ds with
        | nil => rfl
        | cons => exact h'.elim
      | cons c cs ih => cases ds with
        | nil => exact h'.elim
        | cons d ds => rw [List.all_cons, frzC_own h'.1, ih ds h'.2]; rfl
theorem frzL_rel {K : Nat → Option Blk} {W : Wo} {I : IM} {R : RM} {w : World} (hw : Wd W K I R w) : ∀ {cs ds : List A0} {vs : List Value}, All2 (frzA K) cs ds → All2 (A0.rel I R) cs vs → All2 (A0.rel I (fzR W R w)) ds vs
  | [], [], [], _, _ => trivial
  | c :: cs, d :: ds, v :: vs, h, hr => ⟨frzA_rel hw h.1 hr.1, frzL_rel hw h.2 hr.2⟩
  | [], [], _ :: _, _, hr => hr.elim
  | [], _ :: _, _, h, _ => h.elim
  | _ :: _, [], _, h, _ => h.elim
  | _ :: _, _ :: _, [], _, hr => hr.elim
theorem frzL_own {K : Nat → Option Blk} : ∀ {cs ds : List A0}, All2 (frzA K) cs ds → ds.all A0.fz' = true
  | [], [], _ => rfl
  | c :: cs, d :: ds, h => by rw [List.all_cons, frzA_own h.1, frzL_own h.2]; rfl
  | [], _ :: _, h => h.elim
  | _ :: _, [], h => h.elim
theorem retV_frz {K : Nat → Option Blk} {W : Wo} {I : IM} {R : RM} {w : World} (hw : Wd W K I R w) {xs ys : List A0} {u : Value} (h : All2 (frzA K) xs ys) (hr : (retV xs).rel I R u) : (retV ys).rel I (fzR W R w) u ∧ AV.fz' (retV ys) = true := by
  match xs, ys, h with
  | [], [], _ => exact ⟨by obtain ⟨vs, h1, h2⟩ := hr; exact ⟨vs, h1, by cases vs with | nil => trivial | cons => exact h2.elim⟩, rfl⟩
  | [x], [y], h => exact ⟨frzA_rel hw h.1 hr, frzA_own h.1⟩
  | x :: x2 :: xs, y :: y2 :: ys, h =>
    obtain ⟨vs, h1, h2⟩ := hr
    exact ⟨⟨vs, h1, frzL_rel hw h h2⟩, frzL_own h⟩
  | [], _ :: _, h => exact h.elim
  | _ :: _, [], h => exact h.elim
  | [_], _ :: _ :: _, h => exact h.2.elim
  | _ :: _ :: _, [_], h => exact h.2.elim
/-- A function's end: what it hands back, written no more. -/
structure retF (T : Tab) (rs : List ResultVar) (s : Wx.S) (post : AV → Prop) : Prop where
  h : ∃ xs, resL T s rs = some xs ∧ ∃ ys, All2 (frzA (kg s.K)) xs ys ∧ post (retV ys)
theorem con_ofF {P : Program} {T : Tab} {g : FuncId} {args : List A0} {post : AV → Prop} (hT : TabOk P T) (n : Nat) (fn : Func) (c : Code) (hf : P.funcs[g]? = some fn) (hfn : fnB P g = true) (hb : fn.body = some c) (hn : fn.ntmps = n) (hle : Nat.ble args.length n = true) (hlow : args.all A0.low' = true)
    (h : codeZ P T n 0 none c ⟨argF 0 (args.map .pl), [], 0⟩ fun e s => match s with
      | ⟨F', K', t'⟩ => match e with
        | .normal => retF T fn.results.toList ⟨F', kbl K', t'⟩ post
        | .ret => retF T fn.results.toList ⟨F', kbl K', t'⟩ post
        | _ => False) : Con P g args (fun x K t => post x ∧ K = [] ∧ t = 0) := by
  refine ⟨hfn, fun w vs hvs => ?_⟩
  have hle' : args.length ≤ n := by simpa [Nat.ble_eq] using hle
  let R0 : RM := fun fl b o => match fl with | true => none | false => w.cell? ⟨b, o, none⟩
  have hw : Wd (Wo.of w) (kg []) (fun _ => none) R0 w := by
    refine ⟨fun i b h => by simp [kg] at h, fun i j bi bj p q h => by simp [kg] at h, fun i b p h => by simp [kg] at h, ?_, fun i b p f o h => by simp [kg] at h, ?_, ?_, .refl _, fun _ _ _ _ _ h => h, fun _ h => h.elim⟩
    · intro f b o u hu
      cases f with
      | true => cases hu
      | false => exact hu
    · intro b o u hu; cases hu
    · intro b o u hu; cases hu
  have hv : All2 (AV.rel (fun _ => none) R0) (args.map .pl) vs := by
    refine All2.map _ (hvs.mono_mem fun a ha b hb => ?_)
    exact A0.rel_low (by rfl) (List.all_eq_true.1 hlow a ha) hb
  have h0 := Wx.st_args (n := n) hv hw (by rw [← hvs.length]; exact hle')
  have hwz : Y.Wz (Wo.of w) (ky []) (fun _ => none) R0 w := ⟨by rw [kb_eq]; exact hw, fun i o h => (by cases h), fun i j oi oj p q h => (by cases h)⟩
  subst hn
  refine Y.fr_calls (r := none) (n := 0) (callsIn_of_wp_marks hf hb trivial (wpIn_mono (codeZ_sound hT (fun _ h => by cases h) c _ _ h (Wo.of w) none _ R0 _ w rfl ⟨h0.size, trivial, h0.fr, hwz⟩ (fun _ _ => rfl) (Nat.le_refl _)) ?_))
  rintro e' a' w' ⟨⟨F', K', t'⟩, I', R', h1, h2, h3, h4, h5, h6⟩
  have h1 : Y.St fn.ntmps (Wo.of w) (get F') (ky K') I' R' a' w' := h1
  have fin : retF T fn.results.toList ⟨F', kbl K', t'⟩ post → LeavesInM (Y.fr none) 0 P fn a'.tmps (fun e w' => ∃ v_1 x Kc tc I Rf, e = .returned v_1 ∧ Wd (Wo.of w) (kg Kc) I (fun _ => Rf) w' ∧ (∀ j, tc ≤ j → I j = none) ∧ (∀ p ∈ Kc, p.1 < tc) ∧ x.rel I (fun _ => Rf) v_1 ∧ (post x ∧ Kc = [] ∧ tc = 0)) a'.defers .returning w' := by
    rintro ⟨xs, hx, ys, hy, hp⟩
    refine Y.leaves_marks _ _ h1.mks h1.wz fun w2 hw2 => ?_
    have k1' : Wx.St fn.ntmps (Wo.of w) (get F') (kg (kbl K')) I' R' ⟨a'.tmps, []⟩ w2 := ⟨h1.size, rfl, fun t x hx => h1.fr t x hx, by rw [kg_kbl, ← kb_eq]; exact hw2.wd⟩
    obtain ⟨v, j1, j2⟩ := resL_results hT k1' hx
    obtain ⟨g1, g2⟩ := retV_frz k1'.wd hy j2
    have g3 := (fz_all k1'.wd).1
    have g4 := (g3.weak (s := ⟨[], [], t'⟩) (K0 := []) (l := []) List.nodup_nil trivial h2).own (fun j b h => by simp [kg] at h)
    refine ⟨v, j1, v, _, [], 0, _, fzR (Wo.of w) R' w2 true, rfl, g4, fun j _ => ?_, by simp, fzV_rel g2 g1, hp, rfl, rfl⟩
    simp only [rn, List.getElem?_nil]
    exact h2 _ (Nat.le_add_right _ _)
  cases e' with
  | normal => exact fin h6
  | ret => exact fin h6
  | _ => exact h6.elim
/-! ### Lowering and freezing, piece by piece -/
theorem low_nil {K : Nat → Option Blk} {α : Type} {f : α → List RT} {sz : Nat} : lowC K (.v (.slice none 0 0)) (.ro false sz (([] : List α).map f)) := .inr ⟨_, rfl⟩
theorem low_osln {α : Type} {l : List α} {f : α → List Ce} {g : α → List RT} {sz n : Nat} (hn : n = l.length) (h : ∀ x, (f x).map RT.of = (g x).map some) : ∃ rows, Ce.ro false sz (l.map g) = Ce.ro false sz rows ∧ rows.length = n ∧ (((l.map f).drop 0).take n).map (List.map RT.of) = rows.map (List.map some) := by
  subst hn; exact low_osl h
theorem low_gslm {K : Nat → Option Blk} {α : Type} {l : List α} {f : α → List Ce} {g : α → List RT} {i sz : Nat} {ty : TypeId} (h : K i = gB sz ty (l.map f)) (hf : ∀ x, (f x).map RT.of = (g x).map some) : lowC K (.gsl i (l.map f)) (.ro false sz (l.map g)) :=
  ⟨sz, ty, _, rfl, h, by rw [List.map_map, List.map_map]; exact List.map_congr_left fun x _ => hf x⟩
section
variable {K : Nat → Option Blk}
theorem frz_one {c d : Ce} (h : frzC K c d) : frzA K (.one c) (.one d) := h
theorem frz_agg {cs ds : List Ce} (h : All2 (frzC K) cs ds) : frzA K (.agg cs) (.agg ds) := h
theorem frz_nil {sz : Nat} : frzC K (.v (.slice none 0 0)) (.ro true sz []) := .inr ⟨_, rfl⟩
theorem frz_gsl {α : Type} {l : List α} {f : α → List Ce} {g : α → List RT} {i sz : Nat} {ty : TypeId} (h : K i = gB sz ty (l.map f)) (hf : ∀ x, (f x).map RT.ofT = (g x).map some) : frzC K (.gsl i (l.map f)) (.ro true sz (l.map g)) :=
  ⟨sz, ty, _, rfl, h, by rw [List.map_map, List.map_map]; exact List.map_congr_left fun x _ => hf x⟩
theorem frz_osl {α : Type} {l : List α} {f : α → List Ce} {g : α → List RT} {i sz n : Nat} {ty : TypeId} {bx : Bool} {c : Option Nat} (h : K i = some ⟨l.map f, sz, ty, bx⟩) (hn : n = l.length) (hf : ∀ x, (f x).map RT.ofT = (g x).map some) : frzC K (.osl i 0 n c) (.ro true sz (l.map g)) := by
  simp only [frzC, h]
  subst hn
  exact ⟨_, rfl, by simp, by rw [List.drop_zero, List.take_of_length_le (by simp), List.map_map, List.map_map]; exact List.map_congr_left fun x _ => hf x⟩
end
theorem retF1 {T : Tab} {rs : List ResultVar} {s : Wx.S} {x : A0} (xs : List A0) (h : resL T s rs = some xs) (hf : All2 (frzA (kg s.K)) xs [x]) : retF T rs s (fun rx => rx = .pl x) := ⟨xs, h, [x], hf, rfl⟩
theorem retF2 {T : Tab} {rs : List ResultVar} {s : Wx.S} {x y : A0} {l : List A0} (xs : List A0) (h : resL T s rs = some xs) (hf : All2 (frzA (kg s.K)) xs (x :: y :: l)) : retF T rs s (fun rx => rx = .tup (x :: y :: l)) := ⟨xs, h, _, hf, rfl⟩
theorem retF0 {T : Tab} {rs : List ResultVar} {s : Wx.S} (xs : List A0) (h : resL T s rs = some xs) (hf : All2 (frzA (kg s.K)) xs []) : retF T rs s (fun rx => rx = .tup []) := ⟨xs, h, _, hf, rfl⟩
section
variable {K : Nat → Option Blk}
theorem fq_int {k : IntKind} {a b : Int} (h : a = b) : frzC K (.v (.int k a)) (.v (.int k b)) := by subst h; rfl
theorem fq_bool {a b : Bool} (h : a = b) : frzC K (.v (.bool a)) (.v (.bool b)) := by subst h; rfl
theorem fq_ro {α : Type} {l l' : List α} {g : α → List RT} {sz : Nat} (h : l = l') : frzC K (.ro true sz (l.map g)) (.ro true sz (l'.map g)) := by subst h; rfl
theorem fq_gsl {α : Type} {l l' : List α} {f : α → List Ce} {g : α → List RT} {i sz : Nat} {ty : TypeId} (h : K i = gB sz ty (l.map f)) (hf : ∀ x, (f x).map RT.ofT = (g x).map some) (e : l = l') : frzC K (.gsl i (l.map f)) (.ro true sz (l'.map g)) := by subst e; exact frz_gsl h hf
theorem fq_osl {α : Type} {l l' : List α} {f : α → List Ce} {g : α → List RT} {i sz n : Nat} {ty : TypeId} {bx : Bool} {c : Option Nat} (h : K i = some ⟨l.map f, sz, ty, bx⟩) (hn : n = l.length) (hf : ∀ x, (f x).map RT.ofT = (g x).map some) (e : l = l') : frzC K (.osl i 0 n c) (.ro true sz (l'.map g)) := by subst e; exact frz_osl h hn hf
end
def S.idAt (s : S) (t : Nat) : Nat := match get s.F t with
  | some (.pl (.one (.gsl i _))) => i
  | some (.pl (.one (.osl i _ _ _))) => i
  | some (.pl (.one (.own i _ _))) => i
  | some (.pl (.one (.mpv i))) => i
  | _ => 0
def S.idIn (s : S) (i k : Nat) : Nat := match kb s.K i with
  | some b => match b.rows with
    | [r] => match r[k]? with
      | some (.gsl i _) => i
      | some (.osl i _ _ _) => i
      | some (.own i _ _) => i
      | some (.mpv i) => i
      | _ => 0
    | _ => 0
  | none => 0
end Go.Proofs.Ytjjdfiapcpbapaa.Wx.Z
/-
  Within a call: a block that is written no more is told asx a slice that is only read, wherever a slot or a cell names it.
-/
namespace Go.Proofs.Ytjjdfiapcpbapaa.Wx.Z
open Go Go.RowKit
set_option linter.unusedVariables false

/-- One cell, when the block j is written no more. -/
def fzC (j : Nat) (o : Option Blk) (c c' : Ce) : Prop := Imp c c' ∨
  (∃ q l cp b rows, c = .osl j q l cp ∧ o = some b ∧ c' = .ro true b.sz rows ∧ rows.length = l ∧ ((b.rows.drop q).take l).map (List.map RT.ofT) = rows.map (List.map some)) ∨
  (∃ sz ty r rows, c = .gsl j r ∧ o = gB sz ty r ∧ c' = .ro true sz rows ∧ r.map (List.map RT.ofT) = rows.map (List.map some))
theorem ImpV.refl (x : AV) : ImpV x x := by
  unfold ImpV
  split
  · exact Imp.refl _
  · rfl
theorem fz1 {W : Wo} {K : Nat → Option Blk} {I : IM} {R : RM} {w : World} (h : Wd W K I R w) (j : Nat) : ∃ R', Wd W (kup K [(j, none)]) I R' w ∧ RExt R R' ∧ ∀ c c' u, fzC j (K j) c c' → c.rel I R u → c'.rel I R' u := by
  cases hj : K j with
  | none =>
    refine ⟨R, h.kill j, .refl _, fun c c' u hc hr => ?_⟩
    rcases hc with hc | ⟨q, l, cp, b, rows, rfl, ho, _⟩ | ⟨sz, ty, r, rows, rfl, ho, rfl, hm⟩
    · exact hc _ _ _ hr
    · cases ho
    · rcases hr with ⟨h1, h2⟩ | ⟨hne, _⟩
      · have : rows = [] := by subst h1; cases rows <;> first | rfl | simp at hm
        subst this
        rw [h2]; exact .nil sz
      · rw [gB_ne hne] at ho; cases ho
  | some b =>
    obtain ⟨p, hp, hk⟩ := h.blk j b hj
    obtain ⟨g1, g2⟩ := h.fz hj hp
    have hk' := hk.mono (.refl _) g2 (w' := w) rfl
    refine ⟨_, g1, g2, fun c c' u hc hr => ?_⟩
    rcases hc with hc | ⟨q, l, cp, b', rows, rfl, ho, rfl, hlen, hm⟩ | ⟨sz, ty, r, rows, rfl, ho, rfl, hm⟩
    · exact hc _ _ _ (Ce.mono (.refl _) g2 hr)
    · cases ho
      obtain ⟨p', c', hp', rfl, h3, h4, _⟩ := hr
      rw [hp] at hp'; cases hp'
      subst hlen
      exact hk'.rd RT.ofT (R0 := (fun (f : Bool) bb o => if bb = p.b then w.cell? ⟨bb, o, none⟩ else R f bb o) true) (fun c t u h1 h2 => RT.ofT_rel h1 h2) (fun o u h => by simp only [if_true]; exact h) q c' rows h3 hm
    · rcases hr with ⟨h1, h2⟩ | ⟨hne, p', c', hp', rfl, h3, h4⟩
      · have : rows = [] := by subst h1; cases rows <;> first | rfl | simp at hm
        subst this
        rw [h2]; exact .nil sz
      · rw [hp] at hp'; cases hp'
        rw [gB_ne hne] at ho
        cases ho
        have hlen : r.length = rows.length := by have := congrArg List.length hm; simpa using this
        have := hk'.rd RT.ofT (R0 := (fun (f : Bool) bb o => if bb = p.b then w.cell? ⟨bb, o, none⟩ else R f bb o) true) (fun c t u h1 h2 => RT.ofT_rel h1 h2) (fun o u h => by simp only [if_true]; exact h) 0 c' rows (by omega) (by simpa [← hlen] using hm)
        rw [Nat.zero_mul, ← hlen] at this
        exact this
def fzV (j : Nat) (o : Option Blk) : AV → AV → Prop
  | .pl (.one c), .pl (.one c') => fzC j o c c'
  | .pl (.agg c), .pl (.agg c') => All2 (fzC j o) c c'
  | x, y => x = y
def fzO (j : Nat) (o : Option Blk) : Ob → Ob → Prop
  | .b x, .b y => (x.sz = y.sz ∧ x.ty = y.ty ∧ x.bx = y.bx) ∧ All2 (All2 (fzC j o)) x.rows y.rows
  | x, y => x = y
theorem fzL {j : Nat} {o : Option Blk} {I : IM} {R R' : RM} (h : ∀ c c' u, fzC j o c c' → c.rel I R u → c'.rel I R' u) : ∀ {cs ds : List Ce} {vs : List Value}, All2 (fzC j o) cs ds → All2 (Ce.rel I R) cs vs → All2 (Ce.rel I R') ds vs
  | [], [], [], _, _ => trivial
  | a :: l, b :: m, c :: k, h1, h2 => ⟨h _ _ _ h1.1 h2.1, fzL h h1.2 h2.2⟩
  | [], _ :: _, _, h1, _ => h1.elim
  | _ :: _, [], _, h1, _ => h1.elim
  | [], [], _ :: _, _, h2 => h2.elim
  | _ :: _, _ :: _, [], _, h2 => h2.elim
theorem fzW_rel {j : Nat} {o : Option Blk} {I : IM} {R R' : RM} (hR : RExt R R') (h : ∀ c c' u, fzC j o c c' → c.rel I R u → c'.rel I R' u) {x y : AV} {u : Value} (hv : fzV j o x y) (hr : x.rel I R u) : y.rel I R' u := by
  unfold fzV at hv
  split at hv
  · exact h _ _ _ hv hr
  · obtain ⟨vs, h1, h2⟩ := hr
    exact ⟨vs, h1, fzL h hv h2⟩
  · subst hv; exact AV.mono (.refl _) hR hr
section
variable {W : Wo} {n m : Nat} {s s0 : S}
theorem fz_stp (j : Nat) (s s0 : S) (hF : ∀ t x, get s0.F t = some x → ∃ y, get s.F t = some y ∧ fzV j (kb s.K j) y x) (hK : ∀ i b, kz s0.K i = some b → i ≠ j ∧ ∃ b0, kz s.K i = some b0 ∧ fzO j (kb s.K j) b0 b) (ht : s.top ≤ s0.top) (hm : m ≤ s0.top) : Stp m s s0 := fun n W I R a w hs hd => by
  have hz := hs.wz
  have hwd := hz.wd
  rw [kb_eq] at hwd
  obtain ⟨R', h1, h2, h3⟩ := fz1 hwd j
  refine ⟨I, R', ⟨hs.size, hs.mks, fun t x hx => ?_, ?_⟩, fun j hj => hd j (Nat.le_trans ht hj), hm, fun _ _ => rfl, h2⟩
  · obtain ⟨y, hy, hi⟩ := hF t x hx
    exact fzW_rel h2 h3 hi (hs.fr t y hy)
  · have key : ∀ {i : Nat} {b : Blk}, Y.blkOf (ky s0.K) i = some b → i ≠ j ∧ ∃ b0, kb s.K i = some b0 ∧ (b0.sz = b.sz ∧ b0.ty = b.ty ∧ b0.bx = b.bx) ∧ All2 (All2 (fzC j (kb s.K j))) b0.rows b.rows := by
      intro i b hb
      rw [kb_eq, kb_kz] at hb
      cases hk : kz s0.K i with
      | none => rw [hk] at hb; cases hb
      | some o =>
        rw [hk] at hb
        obtain ⟨hne, o0, ho0, hio⟩ := hK i o hk
        refine ⟨hne, ?_⟩
        cases o with
        | b x =>
          simp only [isB, Option.some.injEq] at hb
          subst hb
          cases o0 with
          | b y => exact ⟨y, by rw [kb_kz, ho0]; rfl, hio.1, hio.2⟩
          | m es => cases hio
          | l z => cases hio
          | i z => cases hio
        | m es => cases hb
        | l z => cases hb
        | i z => cases hb
    have keyO : ∀ {i : Nat} {o : Y.Ob}, ky s0.K i = some o → o.nb = true → ky s.K i = some o := by
      intro i o ho hn
      obtain ⟨b, hb, rfl⟩ := ky_some ho
      obtain ⟨_, o0, ho0, hio⟩ := hK i b hb
      cases b with
      | b x => cases hn
      | m es => cases o0 with
        | b y => cases hio
        | m es' => cases hio; exact ky_of ho0
        | l z => cases hio
        | i z => cases hio
      | l x => cases o0 with
        | b y => cases hio
        | m es' => cases hio
        | l z => cases hio; exact ky_of ho0
        | i z => cases hio
      | i x => cases o0 with
        | b y => cases hio
        | m es' => cases hio
        | l z => cases hio
        | i z => cases hio; exact ky_of ho0
    have up : ∀ {i : Nat} {b0 : Blk}, i ≠ j → kb s.K i = some b0 → kup (kb s.K) [(j, none)] i = some b0 := fun hne hb => by simp only [kup, if_neg hne]; exact hb
    refine ⟨⟨?_, ?_, ?_, h1.ro, ?_, h1.fresh, h1.less, h1.below, h1.out, h1.qz⟩, fun i o hi hn => ?_, fun i j oi oj p q hi hj hni hnj => hz.inj i j oi oj p q (keyO hi hni) (keyO hj hnj) hni hnj⟩
    · intro i b hi
      obtain ⟨hne, b0, hb0, hsz, hrows⟩ := key hi
      obtain ⟨p, hp, hk⟩ := hwd.blk i b0 hb0
      refine ⟨p, hp, ?_⟩
      have hlen := hrows.length
      obtain ⟨g1, g2, g3, g4, cs, g5, g6, g7⟩ := hk
      refine ⟨g1.trans hsz.1, by rw [← hlen]; exact g2, g3, fun r hr => ?_, cs, by rw [← hsz.2.1]; exact g5, g6, fun q r k c hq hk => ?_⟩
      · obtain ⟨q, hq⟩ := List.getElem?_of_mem hr
        obtain ⟨r0, hr0, hrr⟩ := All2.get' hrows hq
        rw [← hrr.length, g4 r0 (List.mem_of_getElem? hr0), hsz.1]
      · obtain ⟨r0, hr0, hrr⟩ := All2.get' hrows hq
        obtain ⟨c0, hc0, hcc⟩ := All2.get' hrr hk
        obtain ⟨u, hu, hur⟩ := g7 _ _ _ _ hr0 hc0
        exact ⟨u, hu, h3 _ _ _ hcc hur⟩
    · intro i i' bi bj p q hi hj
      obtain ⟨e1, b0, hb0, _⟩ := key hi
      obtain ⟨e2, b1, hb1, _⟩ := key hj
      exact h1.inj i i' b0 b1 p q (up e1 hb0) (up e2 hb1)
    · intro i b p hi
      obtain ⟨e1, b0, hb0, _⟩ := key hi
      exact h1.base i b0 p (up e1 hb0)
    · intro i b p f o hi
      obtain ⟨e1, b0, hb0, _⟩ := key hi
      exact h1.apart i b0 p f o (up e1 hb0)
    · obtain ⟨p, hp, ho, hzz⟩ := hz.ob i o (keyO hi hn) hn
      exact ⟨p, hp, Y.ObOk.mono ho (.refl _) h2 rfl, hzz⟩
def subFf (j : Nat) (o : Option Blk) (F : Fr) : Fr → Prop
  | [] => True
  | (t, x) :: G => (∃ y, get F t = some y ∧ fzV j o y x) ∧ subFf j o F G
def subKf (j : Nat) (o : Option Blk) (K : Kr) : Kr → Prop
  | [] => True
  | (i, x) :: G => (i ≠ j ∧ ∀ b, x = some b → ∃ b0, kz K i = some b0 ∧ fzO j o b0 b) ∧ subKf j o K G
theorem subFf.get {j : Nat} {o : Option Blk} {F : Fr} : ∀ {G : Fr} {t : Nat} {x : AV}, subFf j o F G → Wx.get G t = some x → ∃ y, Wx.get F t = some y ∧ fzV j o y x
  | [], t, x, _, h => by simp [Wx.get] at h
  | (k, y) :: G, t, x, hs, h => by
    simp only [Wx.get] at h
    cases hb : Nat.beq k t with
    | true =>
      simp only [hb, Option.some.injEq] at h
      subst h
      rw [← Nat.eq_of_beq_eq_true hb]
      exact hs.1
    | false =>
      simp only [hb] at h
      exact subFf.get hs.2 h
theorem fzC.refl {j : Nat} {o : Option Blk} (c : Ce) : fzC j o c c := .inl (Imp.refl c)
theorem All2.self {α : Type} {r : α → α → Prop} (h : ∀ a, r a a) : ∀ l : List α, All2 r l l
  | [] => trivial
  | a :: l => ⟨h a, All2.self h l⟩
theorem fzV.refl {j : Nat} {o : Option Blk} (x : AV) : fzV j o x x := by
  unfold fzV
  split
  · exact fzC.refl _
  · exact All2.self fzC.refl _
  · rfl
theorem fzO.refl {j : Nat} {o : Option Blk} (x : Ob) : fzO j o x x := by
  unfold fzO
  split
  · exact ⟨⟨rfl, rfl, rfl⟩, All2.self (All2.self fzC.refl) _⟩
  · rfl
/-- The block j is written no more; slots and blocks asx told, all else asx it was. -/
theorem Stp.fz (j : Nat) (ch : Fr) (ck : Kr) (hF : subFf j (kb s.K j) s.F ch) (hK : subKf j (kb s.K j) s.K ck) (hm : m ≤ s.top) : Stp m s ⟨ch ++ s.F, ck ++ (j, none) :: s.K, s.top⟩ :=
  fz_stp j s _ (fun t x hx => by
    rcases get_append hx with h | ⟨_, h⟩
    · exact hF.get h
    · exact ⟨x, h, fzV.refl _⟩) (fun i b hb => by
    clear hF hm
    generalize kb s.K j = o at hK
    revert hb
    show kz (ck ++ (j, none) :: s.K) i = some b → _
    intro hb
    induction ck with
    | nil =>
      simp only [List.nil_append, kz] at hb
      cases hbe : Nat.beq j i with
      | true => rw [hbe] at hb; cases hb
      | false =>
        rw [hbe] at hb
        exact ⟨fun e => by subst e; simp at hbe, b, hb, fzO.refl _⟩
    | cons p ck ih =>
      obtain ⟨k, x⟩ := p
      simp only [List.cons_append, kz] at hb
      cases hbe : Nat.beq k i with
      | true =>
        rw [hbe] at hb
        have := Nat.eq_of_beq_eq_true hbe
        subst this
        exact ⟨hK.1.1, hK.1.2 b hb⟩
      | false =>
        rw [hbe] at hb
        exact ih hK.2 hb) (Nat.le_refl _) hm
theorem rndZ_stp {α : Type} {G : α → S} {Inv : α → Prop} {μ : α → Nat} {p : α} {s s1 : S} (h : Stp m s s1) (k : rndZ m G Inv μ p s1) : rndZ m G Inv μ p s := by
  obtain ⟨p', h1, h2, h3⟩ := k.h
  exact ⟨p', h1, h2, h.trans h3⟩
theorem Imp.gsl {i : Nat} {rows rows' : List (List Ce)} (h : rows.length = rows'.length) : Imp (.gsl i rows) (.gsl i rows') := fun I R u hr => by
  rcases hr with ⟨h1, h2⟩ | ⟨h1, p, c', h2⟩
  · exact .inl ⟨by subst h1; exact List.length_eq_zero_iff.1 h.symm, h2⟩
  · refine .inr ⟨fun e => h1 ?_, p, c', by rw [← h]; exact h2⟩
    subst e; exact List.length_eq_zero_iff.1 h
theorem Imp.of_eq {c c' : Ce} (h : c = c') : Imp c c' := by subst h; exact Imp.refl c
theorem imp_eq {rows rows' : List (List Ce)} (h : rows = rows') : All2 (All2 Imp) rows rows' := by subst h; exact All2.self (All2.self Imp.refl) _
theorem lay_copy {α : Type} {z : List Ce} {n k : Nat} {g : α → List RT} {fl : Bool} {l : List α} {f : α → List Ce} (hn : n = l.length) (hk : l.length ≤ k) (hf : ∀ x, (g x).map (RT.ce fl) = f x) : lay (List.replicate n z) 0 (List.take k ((l.map g).map (List.map (RT.ce fl)))) = l.map f := by
  rw [List.take_of_length_le (by simpa using hk), lay_all (by simpa using hn.symm), map_ce hf]
theorem ren_app {α : Type} {l m : List α} {f : α → α} (h1 : l.map f = l) (h2 : m.map f = m) : (l ++ m).map f = l ++ m := by rw [List.map_append, h1, h2]
theorem set_mid {α : Type} {a : List α} {b c : α} {l : List α} {i : Nat} (h : i = a.length) : (a ++ b :: l).set i c = (a ++ [c]) ++ l := by
  subst h; simp
theorem get_mid {α : Type} {a : List α} {b : α} {l : List α} {i : Nat} (h : i = a.length) : (a ++ b :: l)[i]? = some b := by
  subst h; simp
/-- At a round's end: the rows of a block, told anew. -/
theorem rnd_rw {α : Type} {G : α → S} {Inv : α → Prop} {μ : α → Nat} {p : α} {s : S} (i : Nat) {rows : List (List Ce)} (rows' : List (List Ce)) {sz : Nat} {ty : TypeId} {bx : Bool} (hm : Nat.ble m s.top = true) (hi : kz s.K i = some (.b ⟨rows, sz, ty, bx⟩)) (e : rows = rows')
    (k : rndZ m G Inv μ p ⟨s.F, (i, some (.b ⟨rows', sz, ty, bx⟩)) :: s.K, s.top⟩) : rndZ m G Inv μ p s :=
  rndZ_stp (imp_stp s ⟨s.F, (i, some (.b ⟨rows', sz, ty, bx⟩)) :: s.K, s.top⟩ (fun t x hx => ⟨x, hx, ImpV.refl x⟩) (fun j b hb => by
    have hb' : kz ((i, some (.b ⟨rows', sz, ty, bx⟩)) :: s.K) j = some b := hb
    simp only [kz] at hb'
    cases hc : Nat.beq i j with
    | true =>
      rw [hc] at hb'
      cases hb'
      rw [← Nat.eq_of_beq_eq_true hc]
      exact ⟨_, hi, ⟨rfl, rfl, rfl⟩, imp_eq e⟩
    | false => rw [hc] at hb'; exact ⟨b, hb', ImpO.refl b⟩) (Nat.le_refl _) (Nat.le_of_ble_eq_true hm)) k
end
theorem low_nil2 {α : Type} {f : α → List RT} {sz : Nat} : Ce.ro false sz (([] : List α).map f) = .v (.slice none 0 0) ∨ ∃ s, Ce.ro false sz (([] : List α).map f) = .ro false s [] := .inr ⟨_, rfl⟩
theorem callZ_mk {P : Program} {m : Nat} {g : FuncId} {avs : List AV} {K : Kr} {top : Nat} {k : AV → Kr → Nat → Prop} {args : List A0} {res : AV} {Kc : Wx.Kr} {tc : Nat} (zlow : All2 (lowV (kb K)) avs args) (h : Con P g args (fun x K t => x = res ∧ K = Kc ∧ t = tc)) (zk : k (res.ren (top + ·)) (upk (shK top Kc) ++ K) (top + tc)) : CallZ P m (.fn g []) avs K top k :=
  callZ_con zlow h (by rintro _ _ _ ⟨rfl, rfl, rfl⟩; exact zk)
theorem conZ_mz {P : Program} {g : FuncId} {avs : List AV} {K : Kr} {top : Nat} {k : Eff → Prop} {args : List A0} {res : AV} {Kc : Wx.Kr} {tc : Nat} (zlow : All2 (lowV (kb K)) avs args) (h : Con P g args (fun x K t => x = res ∧ K = Kc ∧ t = tc)) (zk : k ⟨res.ren (top + ·), avs.flatMap AV.refs, upk (shK top Kc), top + tc⟩) : ConZ P (.fn g []) avs K top k :=
  conZ_mk zlow h zk
/-! ### Cells, asx they freeze -/
section
variable {j : Nat} {o : Option Blk}
theorem fzC.ogsl {α : Type} {l : List α} {f : α → List Ce} {g : α → List RT} {sz n : Nat} {ty : TypeId} {bx : Bool} {c : Option Nat} (h : o = some ⟨l.map f, sz, ty, bx⟩) (hn : n = l.length) (hf : ∀ x, (f x).map RT.ofT = (g x).map some) : fzC j o (.osl j 0 n c) (.ro true sz (l.map g)) := by
  subst hn
  exact .inr (.inl ⟨0, _, c, _, _, rfl, h, rfl, by simp, by rw [List.drop_zero, List.take_of_length_le (by simp), List.map_map, List.map_map]; exact List.map_congr_left fun x _ => hf x⟩)
theorem fzC.gslm {α : Type} {l : List α} {f : α → List Ce} {g : α → List RT} {sz : Nat} {ty : TypeId} (h : o = gB sz ty (l.map f)) (hf : ∀ x, (f x).map RT.ofT = (g x).map some) : fzC j o (.gsl j (l.map f)) (.ro true sz (l.map g)) :=
  .inr (.inr ⟨sz, ty, _, _, rfl, h, rfl, by rw [List.map_map, List.map_map]; exact List.map_congr_left fun x _ => hf x⟩)
theorem fzC.src {α : Type} {l : List α} {g : α → List RT} {fl : Bool} {sz n : Nat} {ty : TypeId} {bx : Bool} {c : Option Nat} (h : o = some ⟨(l.map g).map (List.map (RT.ce fl)), sz, ty, bx⟩) (hn : n = (l.map g).length) (hf : ∀ x, ((g x).map (RT.ce fl)).map RT.ofT = (g x).map some) : fzC j o (.osl j 0 n c) (.ro true sz (l.map g)) := by
  subst hn
  exact .inr (.inl ⟨0, _, c, _, _, rfl, h, rfl, by simp, by rw [List.drop_zero, List.take_of_length_le (by simp), List.map_map, List.map_map, List.map_map]; exact List.map_congr_left fun x _ => hf x⟩)
theorem rows_snoc {α : Type} {l : List α} {f : α → List Ce} {x : α} {r : List Ce} (h : All2 (fzC j o) r (f x)) : All2 (All2 (fzC j o)) (l.map f ++ [r]) ((l ++ [x]).map f) := by
  rw [List.map_append]
  exact All2.append (All2.self (All2.self fzC.refl) _) ⟨h, trivial⟩
end

/-! ### Slices changed in place: what is left when rows go, come, or are taken out (slices.Delete, DeleteFunc, append) -/
theorem frz_oslw {α : Type} {K : Nat → Option Blk} {l : List α} {f : α → List Ce} {g : α → List RT} {rows : List (List Ce)} {j n sz : Nat} {ty : TypeId} {bx : Bool} {c : Option Nat} (h : K j = some ⟨rows, sz, ty, bx⟩) (hn : n = l.length) (hr : rows.take n = l.map f) (hf : ∀ x, (f x).map RT.ofT = (g x).map some) : frzC K (.osl j 0 n c) (.ro true sz (l.map g)) := by
  simp only [frzC, h]
  exact ⟨_, rfl, by simp [hn], by rw [List.drop_zero, hr, List.map_map, List.map_map]; exact List.map_congr_left fun x _ => hf x⟩
theorem cut_rows {α : Type} {f : α → List Ce} {A acc : List α} {Z : List (List Ce)} : List.take (acc.length - 0) (lay ((acc ++ A.drop acc.length).map f) (0 + acc.length) Z) = acc.map f := by
  rw [Nat.zero_add, Nat.sub_zero]
  unfold lay
  rw [List.map_append, List.take_left' (by simp), List.take_left' (by simp)]
theorem slN_lo {x : Int} {len : Nat} {cap : Option Nat} {A : Nat → Nat → Prop} (l : Nat) (e : x = (l : Int)) (h1 : l ≤ len) (k : A l len) : slN (some x) none len cap A := ⟨l, len, e, rfl, h1, .inl (Nat.le_refl _), k⟩
theorem set_fz {j : Nat} {o : Option Blk} {c' : Ce} : ∀ {r : List Ce} {k : Nat} {c : Ce}, r[k]? = some c → fzC j o c c' → All2 (fzC j o) r (r.set k c')
  | [], k, c, h, _ => by simp at h
  | a :: r, 0, c, h, hc => by
    simp only [List.getElem?_cons_zero, Option.some.injEq] at h
    subst h
    exact ⟨hc, All2.self fzC.refl r⟩
  | a :: r, k + 1, c, h, hc => ⟨fzC.refl a, set_fz (by simpa using h) hc⟩
/-- At a round's end: the block that slot tj names is frozen in the last row of the growing block that cell kx of block B names. -/
theorem rnd_fzb {m : Nat} {α : Type} {G : α → S} {Inv : α → Prop} {μ : α → Nat} {p : α} {s : S} (tj B kx : Nat) {rows : List (List Ce)} (rows' : List (List Ce)) {sz : Nat} {ty : TypeId} {bx : Bool} {rB : List Ce} {szB : Nat} {tyB : TypeId} {bxB : Bool} (hm : Nat.ble m s.top = true) (hne : Nat.beq (s.idIn B kx) (s.idAt tj) = false) (hneB : Nat.beq B (s.idAt tj) = false) (hi : kz s.K (s.idIn B kx) = some (.b ⟨rows, sz, ty, bx⟩)) (hB : kz s.K B = some (.b ⟨[rB], szB, tyB, bxB⟩)) (hg : rB[kx]? = some (.gsl (s.idIn B kx) rows)) (h : All2 (All2 (fzC (s.idAt tj) (kb s.K (s.idAt tj)))) rows rows')
    (k : rndZ m G Inv μ p ⟨s.F, (s.idIn B kx, some (.b ⟨rows', sz, ty, bx⟩)) :: (B, some (.b ⟨[rB.set kx (.gsl (s.idIn B kx) rows')], szB, tyB, bxB⟩)) :: (s.idAt tj, none) :: s.K, s.top⟩) : rndZ m G Inv μ p s :=
  rndZ_stp (Stp.fz (s.idAt tj) [] [(s.idIn B kx, some (.b ⟨rows', sz, ty, bx⟩)), (B, some (.b ⟨[rB.set kx (.gsl (s.idIn B kx) rows')], szB, tyB, bxB⟩))] trivial ⟨⟨fun e => by rw [e] at hne; simp at hne, fun b hb => by cases hb; exact ⟨_, hi, ⟨rfl, rfl, rfl⟩, h⟩⟩, ⟨fun e => by rw [e] at hneB; simp at hneB, fun b hb => by cases hb; exact ⟨_, hB, ⟨rfl, rfl, rfl⟩, ⟨set_fz hg (.inl (Imp.gsl h.length)), trivial⟩⟩⟩, trivial⟩ (Nat.le_of_ble_eq_true hm)) k
/-- At a round's end: the rows of a block, by another account, cell by cell. -/
theorem rnd_bi {m : Nat} {α : Type} {G : α → S} {Inv : α → Prop} {μ : α → Nat} {p : α} {s : S} (i : Nat) {rows : List (List Ce)} (rows' : List (List Ce)) {sz : Nat} {ty : TypeId} {bx : Bool} (hm : Nat.ble m s.top = true) (hi : kz s.K i = some (.b ⟨rows, sz, ty, bx⟩)) (e : All2 (All2 Imp) rows rows')
    (k : rndZ m G Inv μ p ⟨s.F, (i, some (.b ⟨rows', sz, ty, bx⟩)) :: s.K, s.top⟩) : rndZ m G Inv μ p s :=
  rndZ_stp (imp_stp s ⟨s.F, (i, some (.b ⟨rows', sz, ty, bx⟩)) :: s.K, s.top⟩ (fun t x hx => ⟨x, hx, ImpV.refl x⟩) (fun j b hb => by
    have hb' : kz ((i, some (.b ⟨rows', sz, ty, bx⟩)) :: s.K) j = some b := hb
    simp only [kz] at hb'
    cases hc : Nat.beq i j with
    | true =>
      rw [hc] at hb'
      cases hb'
      rw [← Nat.eq_of_beq_eq_true hc]
      exact ⟨_, hi, ⟨rfl, rfl, rfl⟩, e⟩
    | false => rw [hc] at hb'; exact ⟨b, hb', ImpO.refl b⟩) (Nat.le_refl _) (Nat.le_of_ble_eq_true hm)) k
theorem Imp.oslc {i q n : Nat} {c : Option Nat} : Imp (.osl i q n c) (.osl i q n none) := fun _ _ _ h => by
  obtain ⟨p, c', h1, h2, h3, h4, _⟩ := h
  exact ⟨p, c', h1, h2, h3, h4, fun c0 e => by cases e⟩
theorem Imp.oslcn {i q n n' : Nat} {c : Option Nat} (e : n = n') : Imp (.osl i q n c) (.osl i q n' none) := by subst e; exact Imp.oslc
theorem inL_mapr {α : Type} {l : List Nat} {xs : List α} {f : α → List Ce} {r : Nat → Nat} {sz : Nat} {ty : TypeId} {bx : Bool} (h : ∀ x, ((f x).map (Ce.ren r)).all (Ce.inB l) = true) : (Ob.b ⟨(xs.map f).map (List.map (Ce.ren r)), sz, ty, bx⟩).inL l = true := by
  rw [List.map_map]
  exact inL_map (f := List.map (Ce.ren r) ∘ f) h
end Go.Proofs.Ytjjdfiapcpbapaa.Wx.Z
/-
  The third layer: slices.overlaps at two slices of own memory that lie in two blocks; own slices whose capacity is unknown, with the row behind their end; calls in drawn regions that hand back one own block, however they come to it.
-/
namespace Go.Proofs.Ytjjdfiapcpbapaa.Wx.Z
open Go Go.RowKit
set_option linter.unusedVariables false

end Go.Proofs.Ytjjdfiapcpbapaa.Wx.Z
/-
  A call in a drawn region whose argument is an own row of slices: each cell is told by what its own block holds.
-/
namespace Go.Proofs.Ytjjdfiapcpbapaa.Wx.Z
open Go Go.RowKit
set_option linter.unusedVariables false

/-- A cell of an own row, asx a tree. -/
def OfK (K : Nat → Option Blk) (c : Ce) (t : RT) : Prop := RT.of c = some t ∨ ∃ sz rows, t = .ro sz rows ∧ lowC K c (.ro false sz rows)
theorem OfK.congr {K K' : Nat → Option Blk} {c : Ce} {t : RT} (h : ∀ i ∈ c.refs, K' i = K i) (hl : OfK K c t) : OfK K' c t := by
  rcases hl with h1 | ⟨sz, rows, h1, h2⟩
  · exact .inl h1
  · exact .inr ⟨sz, rows, h1, lowC_congr h h2⟩
theorem OfK.rd {K : Nat → Option Blk} {W : Wo} {I : IM} {R : RM} {w : World} (hw : Wd W K I R w) {c : Ce} {t : RT} {u : Value} (h : OfK K c t) (hr : c.rel I R u) : Rd (fun b o => w.cell? ⟨b, o, none⟩) t u := by
  rcases h with h | ⟨sz, rows, rfl, h⟩
  · exact RT.of_rel (fun f b o u h => hw.ro f b o u h) h hr
  · exact lowC_rel hw h hr
end Go.Proofs.Ytjjdfiapcpbapaa.Wx.Z
/-
  Calls in place, forgetting what they have made; calls of closures that share blocks of the caller's.
-/
namespace Go.Proofs.Ytjjdfiapcpbapaa.Wx.Z
open Go Go.RowKit
set_option linter.unusedVariables false

theorem rn_range {top big j : Nat} : rn (List.range top) big j = if j < top then j else big + j := by
  unfold rn
  by_cases h : j < top
  · rw [if_pos h, List.getElem?_range h]
  · rw [if_neg h, List.getElem?_eq_none (by simpa using h)]
/-- Behind a call: only some of the blocks that there were ahead of it, under their names. -/
theorem callZ_drop {P : Program} {m : Nat} {c : Ce} {avs : List AV} {K Kd : Kr} {top : Nat} {k : AV → Kr → Nat → Prop} (h : CallZ P m c avs K top fun x K' t' => subK (rn (List.range top) t') K' Kd ∧ x.ren (rn (List.range top) t') = x ∧ k x Kd top) : CallZ P m c avs K top k := by
  refine ⟨fun W I R w v vs hw hd hm hvs hv => ?_⟩
  refine (h.run W I R w v vs hw hd hm hvs hv).mono ?_
  rintro e w' ⟨u, x, K', t', I', R', rfl, hw', hd', ht, hI, hR, hx, hK, hfx, hk⟩
  refine ⟨u, x, Kd, top, fun j => I' (rn (List.range top) t' j), R', rfl, Wz.weak (s := ⟨[], K', t'⟩) hw' List.nodup_range hK hd', fun j hj => ?_, Nat.le_refl _, fun j hj => ?_, hR, AV.rel_ren.1 (by rw [hfx]; exact hx), hk⟩
  · show I' _ = none
    rw [rn_range, if_neg (by omega)]
    exact hd' _ (by show t' ≤ _; omega)
  · show I' _ = _
    rw [rn_range, if_pos hj]
    exact hI j hj
theorem wz_extI {W : Wo} {K : Nat → Option Y.Ob} {I I2 : IM} {R : RM} {w : World} (h : Y.Wz W K I R w) (hI : IExt I I2) (hb : ∀ i o p, K i = some o → I2 i = some p → I i = some p) : Y.Wz W K I2 R w := by
  have hwd : Wd W (Y.blkOf K) I2 R w := by
    have hbb : ∀ {i : Nat} {b : Blk}, Y.blkOf K i = some b → ∀ {p : Loc}, I2 i = some p → I i = some p := fun hk _ hp => hb _ _ _ (Y.blkOf_some hk) hp
    exact { h.wd with
      blk := fun i b hi => by obtain ⟨p, hp, hk⟩ := h.wd.blk i b hi; exact ⟨p, hI _ _ hp, hk.mono hI (.refl _) rfl⟩
      inj := fun i i' bi bj p q hi hj hp hq he => h.wd.inj i i' bi bj p q hi hj (hbb hi hp) (hbb hj hq) he
      base := fun i b p hi hp => h.wd.base i b p hi (hbb hi hp)
      apart := fun i b p f o hi hp => h.wd.apart i b p f o hi (hbb hi hp) }
  exact ⟨hwd, fun i o hi hn => by obtain ⟨p, hp, ho, hz⟩ := h.ob i o hi hn; exact ⟨p, hI _ _ hp, ho.mono hI (.refl _) rfl, hz⟩, fun i j oi oj p q hi hj hni hnj hp hq he => h.inj i j oi oj p q hi hj hni hnj (hb _ _ _ hi hp) (hb _ _ _ hj hq) he⟩
theorem all2_ren {I : IM} {R : RM} {r : Nat → Nat} : ∀ {avs : List AV} {vs : List Value}, All2 (AV.rel I R) (avs.map (AV.ren r)) vs → All2 (AV.rel (fun j => I (r j)) R) avs vs
  | [], [], _ => trivial
  | x :: avs, v :: vs, h => ⟨AV.rel_ren.1 h.1, all2_ren h.2⟩
  | [], _ :: _, h => h.elim
  | _ :: _, [], h => h.elim
/-- A call that leaves the blocks that it shares asx they were, wherever the caller's own ones end. -/
theorem callZ_top {P : Program} {n0 top : Nat} {c : Ce} {avs : List AV} {K0 : Kr} {x : AV} (hn : n0 ≤ top) (hK : subK (rn (List.range n0) top) K0 K0) (hdom : ∀ i o, kz K0 i = some o → i < n0) (hc : c.ren (rn (List.range n0) top) = c) (ha : avs.map (AV.ren (rn (List.range n0) top)) = avs) (h : CallZ P n0 c avs K0 n0 fun x' K' t' => x' = x ∧ K' = K0 ∧ t' = n0) : CallZ P top c avs K0 top fun x' K' t' => x' = x ∧ K' = K0 ∧ t' = top := by
  refine ⟨fun W I R w v vs hw hd hm hvs hv => ?_⟩
  have hw0 : Y.Wz W (ky K0) (fun j => I (rn (List.range n0) top j)) R w := Wz.weak (s := ⟨[], K0, top⟩) hw List.nodup_range hK hd
  have hd0 : ∀ j, n0 ≤ j → (fun j => I (rn (List.range n0) top j)) j = none := fun j hj => by
    show I _ = none
    rw [rn_range, if_neg (by omega)]
    exact hd _ (by omega)
  rw [← ha] at hvs
  rw [← hc] at hv
  refine (h.run W _ R w v vs hw0 hd0 (Nat.le_refl _) (all2_ren hvs) (Ce.rel_ren.1 hv)).mono ?_
  rintro e w' ⟨u, x', K', t', I', R', rfl, hw', hd', ht, hI, hR, hx, rfl, rfl, rfl⟩
  have hlo : ∀ j, j < t' → I' j = I j := fun j hj => by
    rw [hI j hj]
    show I _ = _
    rw [rn_range, if_pos hj]
  have hE : IExt I' I := fun j p hp => by
    by_cases hj : j < t'
    · rw [← hlo j hj]; exact hp
    · rw [hd' j (by omega)] at hp; cases hp
  refine ⟨u, x', K', top, I, R', rfl, wz_extI hw' hE (fun i o p hi hp => ?_), hd, Nat.le_refl _, fun _ _ => rfl, hR, AV.mono hE (.refl _) hx, rfl, rfl, rfl⟩
  obtain ⟨b, hb, _⟩ := ky_some hi
  rw [hlo i (hdom i b hb)]; exact hp
/-- A call that knows some of the caller's blocks only: all others are kept. -/
theorem callZ_part {P : Program} {m : Nat} {c : Ce} {avs : List AV} {K Kp : Kr} {top : Nat} {k : AV → Kr → Nat → Prop} {x : AV} (l : List Nat) (hFK : FK l K Kp) (hlt : l.all (fun i => Nat.blt i top) = true) (hav : avs.all (AV.inB l) = true) (hcap : c.inB l = true) (hin : InK l Kp)
    (h : CallZ P top c avs Kp top fun x' Kx t => x' = x ∧ Kx = Kp ∧ t = top) (hk : k x K top) : CallZ P m c avs K top k := by
  have h' : CallZ P top c avs Kp top fun x' Kx t => x' = x ∧ DK Kp Kx [] ∧ t = top := ⟨fun W I R w v vs a1 a2 a3 a4 a5 => (h.run W I R w v vs a1 a2 a3 a4 a5).mono (by
    rintro e w' ⟨u, x', K', t', I', R', e1, e2, e3, e4, e5, e6, e7, e8, rfl, e9⟩
    exact ⟨u, x', _, t', I', R', e1, e2, e3, e4, e5, e6, e7, e8, .nil, e9⟩)⟩
  obtain ⟨e, he, rfl⟩ := (conZ_in2 (k := fun e => e = ⟨x, l, [], top⟩) l hFK hlt hav hcap hin h' (Nat.ble_eq ▸ Nat.le_refl _) rfl).h
  refine ⟨fun W I R w v vs hw hd hm hvs hv => ?_⟩
  refine (he W (ky K) I R w v vs hw hvs hv (fun _ _ => rfl) (fun j h1 h2 => absurd h2 (by show ¬ j < top; omega))).mono ?_
  rintro e' w' ⟨u, I', R', rfl, hw', hIe, hI, hR, hx⟩
  have hI2 : ∀ j, I' j = I j := fun j => hI j (fun hh => by have h1 := hh.1; have h2 : j < top := hh.2; omega)
  exact ⟨u, x, K, top, I', R', rfl, hw', fun j hj => (hI2 j).trans (hd j hj), Nat.le_refl _, fun j _ => hI2 j, hR, hx, hk⟩
/-- An end behind steps that tell the state anew (freezing among them). -/
def endC (T : Tab) (rs : List ResultVar) (m : Nat) (s : S) (k : AV → Kr → Nat → Prop) : Prop := ∃ s1, Stp m s s1 ∧ ∃ xs, resL T ⟨s1.F, kbl s1.K, s1.top⟩ rs = some xs ∧ k (retV xs) s1.K s1.top
theorem callZ_inG {P : Program} {T : Tab} {m : Nat} {g : FuncId} {cap : List Pt} {avs : List AV} {K : Kr} {top : Nat} {k : AV → Kr → Nat → Prop} (hT : TabOk P T) (n : Nat) (fn : Func) (c : Code) (hf : P.funcs[g]? = some fn) (hfn : fnB P g = true) (hb : fn.body = some c) (hn : fn.ntmps = n) (hle : Nat.ble (avs ++ capA cap).length n = true)
    (h : codeZ P T n top none c ⟨argF 0 (avs ++ capA cap), K, top⟩ fun e s => match s with
      | ⟨F', K', t'⟩ => match e with
        | .normal => endC T fn.results.toList top ⟨F', K', t'⟩ k
        | .ret => endC T fn.results.toList top ⟨F', K', t'⟩ k
        | _ => False) : CallZ P m (.fn g cap) avs K top k := by
  refine ⟨fun W I R w v vs hw hd hm hvs hv => ?_⟩
  obtain ⟨us, hus, rfl⟩ : ∃ us, All2 (Pt.rel I) cap us ∧ v = .func (.func g) #[] us.toArray := hv
  have hall := hvs.append (capA_rel (R := R) hus)
  have hle' : (avs ++ capA cap).length ≤ n := by simpa [Nat.ble_eq] using hle
  refine .inl (.inl ⟨g, #[], us.toArray, rfl, hfn, ?_⟩)
  rw [Array.empty_append]
  have hargs : vs.toArray ++ us.toArray = (vs ++ us).toArray := by simp
  rw [hargs]
  have h0 := Wx.st_args (n := n) hall hw.wd (by rw [← hall.length]; exact hle')
  subst hn
  refine Y.fr_calls (r := none) (n := 0) (callsIn_of_wp_marks hf hb trivial (wpIn_mono (codeZ_sound hT (fun _ h => by cases h) c _ _ h W none I R _ w rfl ⟨h0.size, trivial, h0.fr, hw⟩ hd (Nat.le_refl _)) ?_))
  rintro e' a' w' ⟨⟨F', K', t'⟩, I', R', k1, k2, k3, k4, k5, k6⟩
  have k1 : Y.St fn.ntmps W (get F') (ky K') I' R' a' w' := k1
  have fin : endC T fn.results.toList top ⟨F', K', t'⟩ k → LeavesInM (Y.fr none) 0 P fn a'.tmps (fun e w' => ∃ u x K' top' I' R', e = .returned u ∧ Y.Wz W (ky K') I' R' w' ∧ (∀ j, top' ≤ j → I' j = none) ∧ top ≤ top' ∧ (∀ j, j < top → I' j = I j) ∧ RExt R R' ∧ x.rel I' R' u ∧ k x K' top') a'.defers .returning w' := by
    rintro ⟨s1, hst, xs, hx, hk⟩
    obtain ⟨I1, R1, q1, q2, q3, q4, q5⟩ := hst _ W I' R' a' w' k1 k2
    refine Y.leaves_marks _ _ q1.mks q1.wz fun w2 hw2 => ?_
    have k1' : Wx.St fn.ntmps W (get s1.F) (kg (kbl s1.K)) I1 R1 ⟨a'.tmps, []⟩ w2 := ⟨q1.size, rfl, fun t x hx => q1.fr t x hx, by rw [kg_kbl, ← kb_eq]; exact hw2.wd⟩
    obtain ⟨v, g1, g2⟩ := resL_results (s := ⟨s1.F, kbl s1.K, s1.top⟩) hT k1' hx
    exact ⟨v, g1, v, _, s1.K, s1.top, I1, R1, rfl, hw2, q2, q3, fun j hj => (q4 j hj).trans (k4 j hj), k5.trans q5, g2, hk⟩
  cases e' with
  | normal => exact fin k6
  | ret => exact fin k6
  | _ => exact k6.elim
/-- A call, with less known of the memory at hand. -/
theorem callZ_sub {P : Program} {m : Nat} {c : Ce} {avs : List AV} {K Kd : Kr} {top : Nat} {k : AV → Kr → Nat → Prop} (hK : subK (rn (List.range top) top) K Kd) (h : CallZ P m c avs Kd top k) : CallZ P m c avs K top k := by
  refine ⟨fun W I R w v vs hw hd hm hvs hv => ?_⟩
  have e : (fun j => I (rn (List.range top) top j)) = I := funext fun j => by
    rw [rn_range]
    by_cases hj : j < top
    · rw [if_pos hj]
    · rw [if_neg hj, hd j (by omega), hd (top + j) (by omega)]
  have hw0 := Wz.weak (s := ⟨[], K, top⟩) (K0 := Kd) (l := List.range top) hw List.nodup_range hK hd
  have hw1 : Y.Wz W (ky Kd) I R w := e ▸ hw0
  exact h.run W I R w v vs hw1 hd hm hvs hv
end Go.Proofs.Ytjjdfiapcpbapaa.Wx.Z
/-
  The third layer: the library's own contracts for what is done in place on an own row of integers (slices.Sort, slices.Compact).
-/
namespace Go.Proofs.Ytjjdfiapcpbapaa.Wx.Z
open Go Go.RowKit
set_option linter.unusedVariables false

theorem setCells_map (b : Nat) : ∀ (vs : List Value) (o : Nat) (w : World), w.setCells b o vs = Go.Sort.mapBlock w b (fun c => (spl c.toList o vs).toArray)
  | [], o, w => by
    rw [World.setCells]
    exact (Go.Sort.mapBlock_id w b _ (fun c _ _ _ => by simp [spl])).symm
  | v :: r, o, w => by
    rw [World.setCells, setCells_map b r (o + 1), Go.Sort.setCell_eq, Go.Sort.mapBlock_mapBlock]
    congr 1
    funext c
    simp [spl]
theorem putRow_setCells {w : World} {b : Nat} {cs : Array Value} {ty : TypeId} {fz : Nat × Nat} (hm : w.heap[b]? = some (.cells cs ty fz)) (zs : List Int) (hl : zs.length ≤ cs.size) : Go.Sort.putRow (Value.int .i64) w b 0 zs.toArray = w.setCells b 0 (zs.map (Value.int .i64)) := by
  rw [setCells_map, Go.Sort.putRow]
  refine Go.Sort.mapBlock_congr w b _ _ (fun c e fr hc => ?_)
  rw [hm] at hc
  cases hc
  apply Array.ext_getElem?
  intro k
  simp only [Go.Sort.putCells, Array.getElem?_mapIdx, List.getElem?_toArray]
  rw [spl_get _ _ _ _ (by simpa using hl)]
  by_cases hk : k < zs.length
  · have hk2 : k < cs.size := by omega
    simp [hk, hk2]
  · cases hcs : cs[k]? with
    | none => simp [hk, hcs]
    | some y => simp [hk, hcs]
theorem Wz.ahead {W : Wo} {K : Nat → Option Y.Ob} {I : IM} {R : RM} {w : World} (h : Y.Wz W K I R w) : ∀ n, Y.Wz W K I R (Go.Sort.ahead w n)
  | 0 => h
  | n + 1 => by rw [← Go.Sort.ahead_drew]; exact (Wz.ahead h n).drew
theorem below_rows (w : World) (os : Array Obj) : Below w.heap.size w (Go.Sort.grow w os) :=
  ⟨rfl, rfl, rfl, by simp, fun k hk => Go.Sort.heap_grow_old w os hk⟩
abbrev cZ (z : Int) : List Ce := [Ce.v (.int .i64 z)]
theorem cZ_rel {I : IM} {R : RM} : ∀ (zs : List Int), All2 (Ce.rel I R) (zs.map cZ).flatten (zs.map (Value.int .i64))
  | [] => trivial
  | z :: zs => ⟨rfl, cZ_rel zs⟩
theorem wz_row {W : Wo} {K : Kr} {I : IM} {R : RM} {w : World} (hw : Y.Wz W (ky K) I R w) {i : Nat} {b : Blk} {p : Loc} (hb : kz K i = some (.b b)) (hp : I i = some p) (hsz : b.sz = 1) {zs zs' : List Int} {rest : List (List Ce)} (hr : b.rows = zs.map cZ ++ rest) (hl : zs'.length = zs.length) (n : Nat) (os : Array Obj) :
    Y.Wz W (ky ((i, some (.b ⟨zs'.map cZ ++ rest, b.sz, b.ty, b.bx⟩)) :: K)) I R (Go.Sort.grow (Go.Sort.putRow (Value.int .i64) (Go.Sort.ahead w n) p.b 0 zs'.toArray) os) := by
  have hw1 := Wz.ahead hw n
  have hbi : Y.blkOf (ky K) i = some b := by unfold Y.blkOf; rw [ky_of hb]; rfl
  obtain ⟨p', hp', hk⟩ := hw1.wd.blk i b hbi
  rw [hp] at hp'; cases hp'
  obtain ⟨cs, hm, hcs, _⟩ := hk.mem
  have hfit := hk.fit
  have hps := hk.sz
  have hlen : zs'.length ≤ cs.size := by
    rw [hcs, hps, hsz, Nat.mul_one]
    rw [hr] at hfit
    simp at hfit
    omega
  rw [putRow_setCells hm zs' hlen]
  have h0 := Wd.lay (q := 0) (src := zs'.map cZ) (us := zs'.map (Value.int .i64)) (Y.wd_step hw1.wd) hbi hp (by rw [hr]; simp; omega) (fun r hr => by
    obtain ⟨z, _, rfl⟩ := List.mem_map.1 hr; rw [hsz]; rfl) (by rw [hsz]; simp) (cZ_rel zs')
  rw [Nat.zero_mul] at h0
  have h1 := hw1.onK (.refl _) (.refl _) h0
  have e : Wx.lay b.rows 0 (zs'.map cZ) = zs'.map cZ ++ rest := by
    rw [hr]; unfold Wx.lay
    simp only [List.take_zero, List.nil_append, List.length_map, Nat.zero_add]
    congr 1
    rw [List.drop_append, List.drop_eq_nil_of_le (by simp; omega)]
    simp [hl]
  rw [e] at h1
  rw [← ky_up] at h1
  exact Y.Wz.grow h1 (below_rows _ os)
theorem holds_row {W : Wo} {K : Kr} {I : IM} {R : RM} {w : World} (hw : Y.Wz W (ky K) I R w) {i : Nat} {b : Blk} {p : Loc} (hb : kz K i = some (.b b)) (hp : I i = some p) (hsz : b.sz = 1) {zs : List Int} {rest : List (List Ce)} (hr : b.rows = zs.map cZ ++ rest) : Go.Sort.Holds (Value.int .i64) w p.b 0 zs.toArray := by
  have hbi : Y.blkOf (ky K) i = some b := by unfold Y.blkOf; rw [ky_of hb]; rfl
  obtain ⟨p', hp', hk⟩ := hw.wd.blk i b hbi
  rw [hp] at hp'; cases hp'
  obtain ⟨cs, hm, hcs, hc⟩ := hk.mem
  have hps := hk.sz
  intro j hj
  have hj' : j < zs.length := by simpa using hj
  have h1 : b.rows[j]? = some (cZ zs[j]) := by rw [hr, List.getElem?_append_left (by simpa using hj')]; simp [hj']
  obtain ⟨u, hu, hru⟩ := hc j _ 0 _ h1 rfl
  have hu2 : u = .int .i64 zs[j] := hru
  subst hu2
  rw [hps, hsz, Nat.mul_one, Nat.add_zero] at hu
  refine ⟨?_, ?_⟩
  · unfold World.cell?
    simp only [hm, Nat.zero_add]
    simp [hu, hj']
  · exact frozen_of_row w p.b _ _ _ hm
/-- A library's contract, in place on an own row of integers. -/
theorem callZ_row {P : Program} {m : Nat} {g : FuncId} {i n : Nat} {c : Option Nat} {b : Blk} {K : Kr} {top : Nat} {k : AV → Kr → Nat → Prop} (hfn : fnB P g = true) (zs zs' : List Int) (rest : List (List Ce)) (x : AV) (rv : Nat → Nat → Value)
    (hb : kz K i = some (.b b)) (hsz : b.sz = 1) (hr : b.rows = zs.map cZ ++ rest) (hn : n = zs.length) (hl : zs'.length = zs.length)
    (C : ∀ blk cap w, Go.Sort.Holds (Value.int .i64) w blk 0 zs.toArray → blk < w.heap.size → zs.length ≤ cap → Calls P g #[.slice (some ⟨blk, 0, none⟩) zs.length cap] w fun e w' => e = .returned (rv blk cap) ∧ ∃ n os, w' = Go.Sort.grow (Go.Sort.putRow (Value.int .i64) (Go.Sort.ahead w n) blk 0 zs'.toArray) os)
    (hx : ∀ (I : IM) (R : RM) (p : Loc) (cap : Nat), I i = some p → n ≤ cap → cap ≤ p.tot → (∀ c0, c = some c0 → cap = c0) → x.rel I R (rv p.b cap))
    (hk : k x ((i, some (.b ⟨zs'.map cZ ++ rest, b.sz, b.ty, b.bx⟩)) :: K) top) : CallZ P m (.fn g []) [.c (.osl i 0 n c)] K top k := by
  refine ⟨fun W I R w v vs hw hd hm hvs hv => ?_⟩
  obtain ⟨us, hus, rfl⟩ : ∃ us, All2 (Pt.rel I) [] us ∧ v = .func (.func g) #[] us.toArray := hv
  cases us with
  | cons _ _ => exact hus.elim
  | nil =>
    cases vs with
    | nil => exact hvs.elim
    | cons v1 vs => cases vs with
      | cons _ _ => exact hvs.2.elim
      | nil =>
        obtain ⟨p, cap, hp, rfl, hc1, hc2, hc3⟩ := (show ∃ p c', I i = some p ∧ v1 = .slice (some ⟨p.b, 0 * p.sz, none⟩) n c' ∧ n ≤ c' ∧ 0 + c' ≤ p.tot ∧ ∀ c0, c = some c0 → c' = c0 from hvs.1)
        refine .inl (.inl ⟨g, #[], #[], rfl, hfn, ?_⟩)
        rw [Nat.zero_mul]
        subst hn
        have hbi : Y.blkOf (ky K) i = some b := by unfold Y.blkOf; rw [ky_of hb]; rfl
        refine Calls.mono (C p.b cap w (holds_row hw hb hp hsz hr) (hw.wd.lt hbi hp) hc1) ?_
        rintro e w' ⟨rfl, n', os, rfl⟩
        exact ⟨_, x, _, top, I, R, rfl, wz_row hw hb hp hsz hr hl n' os, hd, Nat.le_refl _, fun _ _ => rfl, .refl _, hx I R p cap hp hc1 (by omega) hc3, hk⟩
end Go.Proofs.Ytjjdfiapcpbapaa.Wx.Z
