import Derived.Test.YtehhmkdghgabaaaLib4
import Derived.Lib.Overlaps
/-
  The second layer, walked: loops with what is kept told by slots alone; results that are written no more.
-/
namespace Go.Proofs.Ytehhmkdghgabaaa.Wx.Z
open Go Go.RowKit
set_option linter.unusedVariables false
/-! ### A loop, with what is kept -/
def ImpV : AV → AV → Prop
  | .pl (.one c), .pl (.one c') => Imp c c'
  | x, y => x = y
theorem ImpV.rel {x y : AV} (h : ImpV x y) {I : IM} {R : RM} {u : Value} (hx : x.rel I R u) : y.rel I R u := by
  unfold ImpV at h
  split at h
  · exact h I R u hx
  · subst h; exact hx
def subFi (F : Fr) : Fr → Prop
  | [] => True
  | (t, x) :: G => (∃ y, get F t = some y ∧ ImpV y x) ∧ subFi F G
def subKz (K : Kr) : Kr → Prop
  | [] => True
  | (j, o) :: G => kz K j = o ∧ subKz K G
def ImpO : Ob → Ob → Prop
  | .b x, .b y => (x.sz = y.sz ∧ x.ty = y.ty ∧ x.bx = y.bx) ∧ All2 (All2 Imp) x.rows y.rows
  | x, y => x = y
def subKi (K : Kr) : Kr → Prop
  | [] => True
  | (j, o) :: G => (∀ b, o = some b → ∃ b0, kz K j = some b0 ∧ ImpO b0 b) ∧ subKi K G
theorem subFi.get {F : Fr} : ∀ {G : Fr} {t : Nat} {x : AV}, subFi F G → Wx.get G t = some x → ∃ y, Wx.get F t = some y ∧ ImpV y x
  | [], t, x, _, h => by simp [Wx.get] at h
  | (k, y) :: G, t, x, hs, h => by
    simp only [Wx.get] at h
    cases hb : Nat.beq k t with
    | true =>
      simp only [hb, Option.some.injEq] at h
      subst h
      rw [← Nat.eq_of_beq_eq_true hb]
      exact hs.1
    | false =>
      simp only [hb] at h
      exact subFi.get hs.2 h
theorem get_append {F G : Fr} {t : Nat} {x : AV} (h : Wx.get (F ++ G) t = some x) : Wx.get F t = some x ∨ (Wx.get F t = none ∧ Wx.get G t = some x) := by
  induction F with
  | nil => exact .inr ⟨rfl, h⟩
  | cons p F ih =>
    obtain ⟨k, y⟩ := p
    simp only [List.cons_append, Wx.get] at h ⊢
    cases hb : Nat.beq k t with
    | true => simp only [hb] at h; exact .inl h
    | false => simp only [hb] at h; exact ih h
theorem kz_append {F G : Kr} {t : Nat} {x : Ob} (h : kz (F ++ G) t = some x) : kz F t = some x ∨ kz G t = some x := by
  induction F with
  | nil => exact .inr h
  | cons p F ih =>
    obtain ⟨k, y⟩ := p
    simp only [List.cons_append, kz] at h ⊢
    cases hb : Nat.beq k t with
    | true => simp only [hb] at h; exact .inl h
    | false => simp only [hb] at h; exact ih h
theorem subKz.get {K : Kr} : ∀ {G : Kr} {j : Nat} {b : Ob}, subKz K G → kz G j = some b → kz K j = some b
  | [], j, b, _, h => by simp [kz] at h
  | (k, y) :: G, j, b, hs, h => by
    simp only [kz] at h
    cases hb : Nat.beq k j with
    | true =>
      simp only [hb] at h
      subst h
      rw [← Nat.eq_of_beq_eq_true hb]
      exact hs.1
    | false =>
      simp only [hb] at h
      exact subKz.get (G := G) hs.2 h
theorem subKi.get {K : Kr} : ∀ {G : Kr} {j : Nat} {b : Ob}, subKi K G → kz G j = some b → ∃ b0, kz K j = some b0 ∧ ImpO b0 b
  | [], j, b, _, h => by simp [kz] at h
  | (k, y) :: G, j, b, hs, h => by
    simp only [kz] at h
    cases hb : Nat.beq k j with
    | true =>
      simp only [hb] at h
      rw [← Nat.eq_of_beq_eq_true hb]
      exact hs.1 b h
    | false =>
      simp only [hb] at h
      exact subKi.get (G := G) hs.2 h
theorem ImpO.refl (o : Ob) : ImpO o o := by
  cases o with
  | b x => exact ⟨⟨rfl, rfl, rfl⟩, All2.of_get rfl fun i a b h1 h2 => by rw [h1] at h2; cases h2; exact All2.of_get rfl fun i a b h1 h2 => by rw [h1] at h2; cases h2; exact Imp.refl _⟩
  | m es => exact rfl
  | l x => exact rfl
  | i x => exact rfl
section
variable {P : Program} {T : Tab} {W : Wo} {n m : Nat} {rd : Option Nat} {I : IM} {R : RM} {a : Act} {w : World} {s s0 : S}
theorem All2.get' {α β : Type} {r : α → β → Prop} : ∀ {l : List α} {m : List β} {i : Nat} {b : β}, All2 r l m → m[i]? = some b → ∃ a, l[i]? = some a ∧ r a b
  | [], [], i, a, _, h => by simp at h
  | x :: l, y :: m, 0, b, hh, h => by simp at h; subst h; exact ⟨x, rfl, hh.1⟩
  | x :: l, y :: m, i + 1, b, hh, h => by simpa using All2.get' (i := i) hh.2 (by simpa using h)
  | [], _ :: _, _, _, hh, _ => hh.elim
  | _ :: _, [], _, _, hh, _ => hh.elim
theorem Bk.imp {x y : Blk} {p : Loc} (h1 : x.sz = y.sz ∧ x.ty = y.ty ∧ x.bx = y.bx) (h2 : All2 (All2 Imp) x.rows y.rows) (hk : Bk I R x p w) : Bk I R y p w := by
  have hlen := h2.length
  obtain ⟨g1, g2, g3, g4, cs, g5, g6, g7⟩ := hk
  refine ⟨g1.trans h1.1, by rw [← hlen]; exact g2, g3, fun r hr => ?_, cs, by rw [← h1.2.1]; exact g5, g6, fun q r k c hq hk => ?_⟩
  · obtain ⟨q, hq⟩ := List.getElem?_of_mem hr
    obtain ⟨r0, hr0, hrr⟩ := All2.get' h2 hq
    rw [← hrr.length, g4 r0 (List.mem_of_getElem? hr0), h1.1]
  · obtain ⟨r0, hr0, hrr⟩ := All2.get' h2 hq
    obtain ⟨c0, hc0, hcc⟩ := All2.get' hrr hk
    obtain ⟨u, hu, hur⟩ := g7 _ _ _ _ hr0 hc0
    exact ⟨u, hu, hcc _ _ _ hur⟩
theorem imp_stp (s s0 : S) (hF : ∀ t x, get s0.F t = some x → ∃ y, get s.F t = some y ∧ ImpV y x) (hK : ∀ j b, kz s0.K j = some b → ∃ b0, kz s.K j = some b0 ∧ ImpO b0 b) (ht : s.top ≤ s0.top) (hm : m ≤ s0.top) : Stp m s s0 := fun n W I R a w hs hd => by
  refine ⟨I, R, ⟨hs.size, hs.mks, fun t x hx => ?_, ?_⟩, fun j hj => hd j (Nat.le_trans ht hj), hm, fun _ _ => rfl, .refl _⟩
  · obtain ⟨y, hy, hi⟩ := hF t x hx
    exact hi.rel (hs.fr t y hy)
  · have hz := hs.wz
    have key : ∀ {j : Nat} {b : Blk}, Y.blkOf (ky s0.K) j = some b → ∃ b0, Y.blkOf (ky s.K) j = some b0 ∧ (b0.sz = b.sz ∧ b0.ty = b.ty ∧ b0.bx = b.bx) ∧ All2 (All2 Imp) b0.rows b.rows := by
      intro j b hb
      rw [kb_eq, kb_kz] at hb
      cases hk : kz s0.K j with
      | none => rw [hk] at hb; cases hb
      | some o =>
        rw [hk] at hb
        obtain ⟨o0, ho0, hio⟩ := hK j o hk
        cases o with
        | b x =>
          simp only [isB, Option.some.injEq] at hb
          subst hb
          cases o0 with
          | b y => exact ⟨y, by rw [kb_eq, kb_kz, ho0]; rfl, hio.1, hio.2⟩
          | m es => cases hio
          | l z => cases hio
          | i z => cases hio
        | m es => cases hb
        | l z => cases hb
        | i z => cases hb
    have keyO : ∀ {j : Nat} {o : Y.Ob}, ky s0.K j = some o → o.nb = true → ky s.K j = some o := by
      intro j o ho hn
      obtain ⟨b, hb, rfl⟩ := ky_some ho
      obtain ⟨o0, ho0, hio⟩ := hK j b hb
      cases b with
      | b x => cases hn
      | m es => cases o0 with
        | b y => cases hio
        | m es' => cases hio; exact ky_of ho0
        | l z => cases hio
        | i z => cases hio
      | l x => cases o0 with
        | b y => cases hio
        | m es' => cases hio
        | l z => cases hio; exact ky_of ho0
        | i z => cases hio
      | i x => cases o0 with
        | b y => cases hio
        | m es' => cases hio
        | l z => cases hio
        | i z => cases hio; exact ky_of ho0
    refine ⟨⟨?_, ?_, ?_, hz.wd.ro, ?_, hz.wd.fresh, hz.wd.less, hz.wd.below, hz.wd.out, hz.wd.qz⟩, fun i o hi hn => hz.ob i o (keyO hi hn) hn, fun i j oi oj p q hi hj hni hnj => hz.inj i j oi oj p q (keyO hi hni) (keyO hj hnj) hni hnj⟩
    · intro i b hi
      obtain ⟨b0, hb0, h1, h2⟩ := key hi
      obtain ⟨p, hp, hk⟩ := hz.wd.blk i b0 hb0
      exact ⟨p, hp, Bk.imp h1 h2 hk⟩
    · intro i j bi bj p q hi hj
      obtain ⟨b0, hb0, _⟩ := key hi
      obtain ⟨b1, hb1, _⟩ := key hj
      exact hz.wd.inj i j b0 b1 p q hb0 hb1
    · intro i b p hi
      obtain ⟨b0, hb0, _⟩ := key hi
      exact hz.wd.base i b0 p hb0
    · intro i b p f o hi
      obtain ⟨b0, hb0, _⟩ := key hi
      exact hz.wd.apart i b0 p f o hb0
theorem loopK {c : Code} {Q : Exit → S → Prop} {α : Type} (hT : TabOk P T) (ch : α → Fr) (chK : α → Kr) (Inv : α → Prop) (μ : α → Nat) (p0 : α) (top : Nat) (Fk : Fr) (hF : subFz s.F Fk) (Kk : Kr) (hK : subKz s.K Kk)
    (hch : subFi s.F (ch p0)) (hchK : subKi s.K (chK p0)) (ht : Nat.ble s.top top = true) (hm : Nat.ble m top = true) (h0 : Inv p0)
    (hb : ∀ p, Inv p → codeZ P T n m rd c ⟨ch p ++ Fk, chK p ++ Kk, top⟩ fun e s' => match e with | .normal => rndZ m (fun p => (⟨ch p ++ Fk, chK p ++ Kk, top⟩ : S)) Inv μ p s' | e => Q e s') : LoopZ P n m rd c s Q :=
  loopZ_rule hT (fun p => ⟨ch p ++ Fk, chK p ++ Kk, top⟩) Inv μ p0 h0 (imp_stp _ _ (fun t x hx => by
    rcases get_append hx with h | ⟨_, h⟩
    · exact hch.get h
    · exact ⟨x, hF.get h, by unfold ImpV; split; · exact Imp.refl _
                             · rfl⟩) (fun j b hb => by
    rcases kz_append hb with h | h
    · exact hchK.get h
    · exact ⟨b, hK.get h, ImpO.refl _⟩) (Nat.le_of_ble_eq_true ht) (Nat.le_of_ble_eq_true hm)) hb
def memB (a : Nat) : List Nat → Bool
  | [] => false
  | b :: l => Nat.beq a b || memB a l
def nodB : List Nat → Bool
  | [] => true
  | a :: l => !memB a l && nodB l
theorem memB_of {a : Nat} : ∀ {l : List Nat}, a ∈ l → memB a l = true
  | [], h => by simp at h
  | b :: l, h => by
    rcases List.mem_cons.1 h with rfl | h
    · simp [memB]
    · simp [memB, memB_of h]
theorem nodB_spec : ∀ {l : List Nat}, nodB l = true → l.Nodup
  | [], _ => List.nodup_nil
  | a :: l, h => by
    simp only [nodB, Bool.and_eq_true, Bool.not_eq_true'] at h
    refine List.nodup_cons.2 ⟨fun hm => ?_, nodB_spec h.2⟩
    rw [memB_of hm] at h; cases h.1
theorem rndK {α : Type} {G : α → S} {Inv : α → Prop} {μ : α → Nat} {p : α} {s : S} (p' : α) (l : S → List Nat) (hl : (l s).length = (G p').top) (nd : nodB (l s) = true) (pre : (l s).take m = List.range m) (mle : Nat.ble m (G p').top = true)
    (hF : subF (rn (l s) s.top) s.F (G p').F) (hK : subK (rn (l s) s.top) s.K (G p').K) (hI : Inv p') (hμ : μ p' < μ p) : rndZ m G Inv μ p s := ⟨p', hI, hμ, Wk.stp ⟨hl, nodB_spec nd, pre, Nat.le_of_ble_eq_true mle, hF, hK⟩⟩
end
/-! ### Results that are written no more -/
open Classical in
noncomputable def fzR (W : Wo) (R : RM) (w : World) : RM := fun f b o => if W.z b then R f b o else w.cell? ⟨b, o, none⟩
theorem fz_all {W : Wo} {K : Nat → Option Blk} {I : IM} {R : RM} {w : World} (h : Wd W K I R w) : Wd W (kg []) I (fzR W R w) w ∧ RExt R (fzR W R w) := by
  refine ⟨⟨fun i b h => by simp [kg] at h, fun i j bi bj p q h => by simp [kg] at h, fun i b p h => by simp [kg] at h, ?_, fun i b p f o h => by simp [kg] at h, ?_, ?_, h.below, ?_, h.qz⟩, ?_⟩
  · intro f b o u hu
    unfold fzR at hu
    split at hu
    · exact h.ro f b o u hu
    · exact hu
  · intro b o u hu hz
    unfold fzR at hu
    rw [if_pos hz] at hu
    exact h.fresh b o u hu hz
  · intro b o u hu
    unfold fzR at hu ⊢
    split
    · rename_i hz; rw [if_pos hz] at hu; exact h.less b o u hu
    · rename_i hz; rw [if_neg hz] at hu; exact hu
  · intro f b o u hu hq
    unfold fzR at hu
    rw [if_pos (h.qz b hq)] at hu
    exact h.out f b o u hu hq
  · intro f b o u hu
    unfold fzR
    split
    · exact hu
    · exact h.ro f b o u hu
def frzN : Value → Ce → Prop
  | .slice none 0 0, d => d = .v (.slice none 0 0) ∨ ∃ sz, d = .ro true sz []
  | x, d => d = .v x
def frzC (K : Nat → Option Blk) : Ce → Ce → Prop
  | .v x, d => frzN x d
  | .ro true sz rows, d => d = .ro true sz rows
  | .osl i q l _, d => match K i with
    | some b => ∃ rows, d = .ro true b.sz rows ∧ rows.length = l ∧ ((b.rows.drop q).take l).map (List.map RT.ofT) = rows.map (List.map some)
    | none => False
  | .gsl i rows, d => ∃ sz ty rows', d = .ro true sz rows' ∧ K i = gB sz ty rows ∧ rows.map (List.map RT.ofT) = rows'.map (List.map some)
  | _, _ => False
def frzA (K : Nat → Option Blk) : A0 → A0 → Prop
  | .one c, .one d => frzC K c d
  | .agg cs, .agg ds => All2 (frzC K) cs ds
  | _, _ => False
def Ce.fz' : Ce → Bool
  | .v _ => true
  | .ro true _ _ => true
  | _ => false
def A0.fz' : A0 → Bool
  | .one c => Ce.fz' c
  | .agg cs => cs.all Ce.fz'
def AV.fz' : AV → Bool
  | .pl a => A0.fz' a
  | .tup l => l.all A0.fz'
theorem fz_rel {I I' : IM} {R : RM} {c : Ce} {u : Value} (h : Ce.fz' c = true) (hr : c.rel I R u) : c.rel I' (fun _ => R true) u := by
  cases c with
  | v x => exact hr
  | ro fl sz rows => cases fl with
    | true => exact hr
    | false => cases h
  | _ => cases h
theorem fzA_rel {I I' : IM} {R : RM} {c : A0} {u : Value} (h : A0.fz' c = true) (hr : c.rel I R u) : c.rel I' (fun _ => R true) u := by
  cases c with
  | one c => exact fz_rel h hr
  | agg cs =>
    obtain ⟨vs, h1, h2⟩ := hr
    exact ⟨vs, h1, h2.mono_mem fun c hc b => fz_rel (List.all_eq_true.1 h c hc)⟩
theorem fzV_rel {I I' : IM} {R : RM} {c : AV} {u : Value} (h : AV.fz' c = true) (hr : c.rel I R u) : c.rel I' (fun _ => R true) u := by
  cases c with
  | pl c => exact fzA_rel h hr
  | tup cs =>
    obtain ⟨vs, h1, h2⟩ := hr
    exact ⟨vs, h1, h2.mono_mem fun c hc b => fzA_rel (List.all_eq_true.1 h c hc)⟩
theorem frzC_own {K : Nat → Option Blk} {c d : Ce} (h : frzC K c d) : Ce.fz' d = true := by
  cases c with
  | v x =>
    replace h : frzN x d := h
    unfold frzN at h
    split at h
    · rcases h with rfl | ⟨sz, rfl⟩ <;> rfl
    · cases h; rfl
  | ro fl sz rows => cases fl with
    | true => cases h; rfl
    | false => exact h.elim
  | osl i q l cp =>
    simp only [frzC] at h
    split at h
    · obtain ⟨rows, rfl, _⟩ := h; rfl
    · exact h.elim
  | gsl i rows => obtain ⟨sz, ty, rows', rfl, _⟩ := h; rfl
  | _ => exact h.elim
theorem frzC_rel {K : Nat → Option Blk} {W : Wo} {I : IM} {R : RM} {w : World} (hw : Wd W K I R w) {c d : Ce} {u : Value} (h : frzC K c d) (hr : c.rel I R u) : d.rel I (fzR W R w) u := by
  have hx := (fz_all hw).2
  have hcell : ∀ {i : Nat} {b : Blk} {p : Loc}, K i = some b → I i = some p → ∀ o u, w.cell? ⟨p.b, o, none⟩ = some u → fzR W R w true p.b o = some u := fun hb hp o u hu => by
    unfold fzR; rw [if_neg (hw.base _ _ _ hb hp)]; exact hu
  cases c with
  | v x =>
    replace h : frzN x d := h
    unfold frzN at h
    split at h
    · rcases h with rfl | ⟨sz, rfl⟩
      · exact hr
      · cases hr; exact .nil sz
    · cases h; exact hr
  | ro fl sz rows => cases fl with
    | true => cases h; exact Ce.mono (.refl _) hx hr
    | false => exact h.elim
  | osl i q l cp =>
    simp only [frzC] at h
    split at h
    · rename_i b hb
      obtain ⟨rows, rfl, hlen, hmap⟩ := h
      obtain ⟨p, c', hp, rfl, hnc, hqc, _⟩ := hr
      obtain ⟨p', hp', hk⟩ := hw.blk i b hb
      rw [hp] at hp'; cases hp'
      subst hlen
      exact hk.rd RT.ofT (R0 := fzR W R w true) (fun c t u h1 h2 => (RT.ofT_rel h1 h2).mono (fun b o u h => hx _ _ _ _ h)) (hcell hb hp) q c' rows hnc hmap
    · exact h.elim
  | gsl i rows =>
    obtain ⟨sz, ty, rows', rfl, hK, hmap⟩ := h
    rcases hr with ⟨rfl, rfl⟩ | ⟨hne, p, c', hp, rfl, h1, h2⟩
    · have : rows' = [] := by cases rows' <;> first | rfl | simp at hmap
      subst this
      exact .nil sz
    · rw [gB_ne hne] at hK
      obtain ⟨p', hp', hk⟩ := hw.blk i _ hK
      rw [hp] at hp'; cases hp'
      have hlen : rows.length = rows'.length := by have := congrArg List.length hmap; simpa using this
      have := hk.rd RT.ofT (R0 := fzR W R w true) (fun c t u h1 h2 => (RT.ofT_rel h1 h2).mono (fun b o u h => hx _ _ _ _ h)) (hcell hK hp) 0 c' rows' (by omega) (by simpa [← hlen] using hmap)
      rw [Nat.zero_mul, ← hlen] at this
      exact this
  | _ => exact h.elim
theorem frz_list {K : Nat → Option Blk} {W : Wo} {I : IM} {R : RM} {w : World} (hw : Wd W K I R w) : ∀ {cs ds : List Ce} {vs : List Value}, All2 (frzC K) cs ds → All2 (Ce.rel I R) cs vs → All2 (Ce.rel I (fzR W R w)) ds vs
  | [], [], [], _, _ => trivial
  | c :: cs, d :: ds, v :: vs, h, hr => ⟨frzC_rel hw h.1 hr.1, frz_list hw h.2 hr.2⟩
  | [], [], _ :: _, _, hr => hr.elim
  | [], _ :: _, _, h, _ => h.elim
  | _ :: _, [], _, h, _ => h.elim
  | _ :: _, _ :: _, [], _, hr => hr.elim
theorem frzA_rel {K : Nat → Option Blk} {W : Wo} {I : IM} {R : RM} {w : World} (hw : Wd W K I R w) {c d : A0} {u : Value} (h : frzA K c d) (hr : c.rel I R u) : d.rel I (fzR W R w) u := by
  cases c with
  | one c => cases d with
    | one d => exact frzC_rel hw h hr
    | agg ds => exact h.elim
  | agg cs => cases d with
    | one d => exact h.elim
    | agg ds => obtain ⟨vs, h1, h2⟩ := hr; exact ⟨vs, h1, frz_list hw h h2⟩
theorem frzA_own {K : Nat → Option Blk} {c d : A0} (h : frzA K c d) : A0.fz' d = true := by
  cases c with
  | one c => cases d with
    | one d => exact frzC_own h
    | agg ds => exact h.elim
  | agg cs => cases d with
    | one d => exact h.elim
    | agg ds =>
      have h' : All2 (frzC K) cs ds := h
      clear h
      show ds.all Ce.fz' = true
      induction cs generalizing ds with
      | nil => cases ds with
        | nil => rfl
        | cons => exact h'.elim
      | cons c cs ih => cases ds with
        | nil => exact h'.elim
        | cons d ds => rw [List.all_cons, frzC_own h'.1, ih ds h'.2]; rfl
theorem frzL_rel {K : Nat → Option Blk} {W : Wo} {I : IM} {R : RM} {w : World} (hw : Wd W K I R w) : ∀ {cs ds : List A0} {vs : List Value}, All2 (frzA K) cs ds → All2 (A0.rel I R) cs vs → All2 (A0.rel I (fzR W R w)) ds vs
  | [], [], [], _, _ => trivial
  | c :: cs, d :: ds, v :: vs, h, hr => ⟨frzA_rel hw h.1 hr.1, frzL_rel hw h.2 hr.2⟩
  | [], [], _ :: _, _, hr => hr.elim
  | [], _ :: _, _, h, _ => h.elim
  | _ :: _, [], _, h, _ => h.elim
  | _ :: _, _ :: _, [], _, hr => hr.elim
theorem frzL_own {K : Nat → Option Blk} : ∀ {cs ds : List A0}, All2 (frzA K) cs ds → ds.all A0.fz' = true
  | [], [], _ => rfl
  | c :: cs, d :: ds, h => by rw [List.all_cons, frzA_own h.1, frzL_own h.2]; rfl
  | [], _ :: _, h => h.elim
  | _ :: _, [], h => h.elim
theorem retV_frz {K : Nat → Option Blk} {W : Wo} {I : IM} {R : RM} {w : World} (hw : Wd W K I R w) {xs ys : List A0} {u : Value} (h : All2 (frzA K) xs ys) (hr : (retV xs).rel I R u) : (retV ys).rel I (fzR W R w) u ∧ AV.fz' (retV ys) = true := by
  match xs, ys, h with
  | [], [], _ => exact ⟨by obtain ⟨vs, h1, h2⟩ := hr; exact ⟨vs, h1, by cases vs with | nil => trivial | cons => exact h2.elim⟩, rfl⟩
  | [x], [y], h => exact ⟨frzA_rel hw h.1 hr, frzA_own h.1⟩
  | x :: x2 :: xs, y :: y2 :: ys, h =>
    obtain ⟨vs, h1, h2⟩ := hr
    exact ⟨⟨vs, h1, frzL_rel hw h h2⟩, frzL_own h⟩
  | [], _ :: _, h => exact h.elim
  | _ :: _, [], h => exact h.elim
  | [_], _ :: _ :: _, h => exact h.2.elim
  | _ :: _ :: _, [_], h => exact h.2.elim
structure retF (T : Tab) (rs : List ResultVar) (s : Wx.S) (post : AV → Prop) : Prop where
  h : ∃ xs, resL T s rs = some xs ∧ ∃ ys, All2 (frzA (kg s.K)) xs ys ∧ post (retV ys)
theorem con_ofF {P : Program} {T : Tab} {g : FuncId} {args : List A0} {post : AV → Prop} (hT : TabOk P T) (n : Nat) (fn : Func) (c : Code) (hf : P.funcs[g]? = some fn) (hfn : fnB P g = true) (hb : fn.body = some c) (hn : fn.ntmps = n) (hle : Nat.ble args.length n = true) (hlow : args.all A0.low' = true)
    (h : codeZ P T n 0 none c ⟨argF 0 (args.map .pl), [], 0⟩ fun e s => match s with
      | ⟨F', K', t'⟩ => match e with
        | .normal => retF T fn.results.toList ⟨F', kbl K', t'⟩ post
        | .ret => retF T fn.results.toList ⟨F', kbl K', t'⟩ post
        | _ => False) : Con P g args (fun x K t => post x ∧ K = [] ∧ t = 0) := by
  refine ⟨hfn, fun w vs hvs => ?_⟩
  have hle' : args.length ≤ n := by simpa [Nat.ble_eq] using hle
  let R0 : RM := fun fl b o => match fl with | true => none | false => w.cell? ⟨b, o, none⟩
  have hw : Wd (Wo.of w) (kg []) (fun _ => none) R0 w := by
    refine ⟨fun i b h => by simp [kg] at h, fun i j bi bj p q h => by simp [kg] at h, fun i b p h => by simp [kg] at h, ?_, fun i b p f o h => by simp [kg] at h, ?_, ?_, .refl _, fun _ _ _ _ _ h => h, fun _ h => h.elim⟩
    · intro f b o u hu
      cases f with
      | true => cases hu
      | false => exact hu
    · intro b o u hu; cases hu
    · intro b o u hu; cases hu
  have hv : All2 (AV.rel (fun _ => none) R0) (args.map .pl) vs := by
    refine All2.map _ (hvs.mono_mem fun a ha b hb => ?_)
    exact A0.rel_low (by rfl) (List.all_eq_true.1 hlow a ha) hb
  have h0 := Wx.st_args (n := n) hv hw (by rw [← hvs.length]; exact hle')
  have hwz : Y.Wz (Wo.of w) (ky []) (fun _ => none) R0 w := ⟨by rw [kb_eq]; exact hw, fun i o h => (by cases h), fun i j oi oj p q h => (by cases h)⟩
  subst hn
  refine Y.fr_calls (r := none) (n := 0) (callsIn_of_wp_marks hf hb trivial (wpIn_mono (codeZ_sound hT (fun _ h => by cases h) c _ _ h (Wo.of w) none _ R0 _ w rfl ⟨h0.size, trivial, h0.fr, hwz⟩ (fun _ _ => rfl) (Nat.le_refl _)) ?_))
  rintro e' a' w' ⟨⟨F', K', t'⟩, I', R', h1, h2, h3, h4, h5, h6⟩
  have h1 : Y.St fn.ntmps (Wo.of w) (get F') (ky K') I' R' a' w' := h1
  have fin : retF T fn.results.toList ⟨F', kbl K', t'⟩ post → LeavesInM (Y.fr none) 0 P fn a'.tmps (fun e w' => ∃ v_1 x Kc tc I Rf, e = .returned v_1 ∧ Wd (Wo.of w) (kg Kc) I (fun _ => Rf) w' ∧ (∀ j, tc ≤ j → I j = none) ∧ (∀ p ∈ Kc, p.1 < tc) ∧ x.rel I (fun _ => Rf) v_1 ∧ (post x ∧ Kc = [] ∧ tc = 0)) a'.defers .returning w' := by
    rintro ⟨xs, hx, ys, hy, hp⟩
    refine Y.leaves_marks _ _ h1.mks h1.wz fun w2 hw2 => ?_
    have k1' : Wx.St fn.ntmps (Wo.of w) (get F') (kg (kbl K')) I' R' ⟨a'.tmps, []⟩ w2 := ⟨h1.size, rfl, fun t x hx => h1.fr t x hx, by rw [kg_kbl, ← kb_eq]; exact hw2.wd⟩
    obtain ⟨v, j1, j2⟩ := resL_results hT k1' hx
    obtain ⟨g1, g2⟩ := retV_frz k1'.wd hy j2
    have g3 := (fz_all k1'.wd).1
    have g4 := (g3.weak (s := ⟨[], [], t'⟩) (K0 := []) (l := []) List.nodup_nil trivial h2).own (fun j b h => by simp [kg] at h)
    refine ⟨v, j1, v, _, [], 0, _, fzR (Wo.of w) R' w2 true, rfl, g4, fun j _ => ?_, by simp, fzV_rel g2 g1, hp, rfl, rfl⟩
    simp only [rn, List.getElem?_nil]
    exact h2 _ (Nat.le_add_right _ _)
  cases e' with
  | normal => exact fin h6
  | ret => exact fin h6
  | _ => exact h6.elim
/-! ### Lowering and freezing, piece by piece -/
theorem low_nil {K : Nat → Option Blk} {α : Type} {f : α → List RT} {sz : Nat} : lowC K (.v (.slice none 0 0)) (.ro false sz (([] : List α).map f)) := .inr ⟨_, rfl⟩
section
variable {K : Nat → Option Blk}
theorem frz_one {c d : Ce} (h : frzC K c d) : frzA K (.one c) (.one d) := h
theorem frz_agg {cs ds : List Ce} (h : All2 (frzC K) cs ds) : frzA K (.agg cs) (.agg ds) := h
theorem frz_nil {sz : Nat} : frzC K (.v (.slice none 0 0)) (.ro true sz []) := .inr ⟨_, rfl⟩
theorem frz_gsl {α : Type} {l : List α} {f : α → List Ce} {g : α → List RT} {i sz : Nat} {ty : TypeId} (h : K i = gB sz ty (l.map f)) (hf : ∀ x, (f x).map RT.ofT = (g x).map some) : frzC K (.gsl i (l.map f)) (.ro true sz (l.map g)) :=
  ⟨sz, ty, _, rfl, h, by rw [List.map_map, List.map_map]; exact List.map_congr_left fun x _ => hf x⟩
theorem frz_osl {α : Type} {l : List α} {f : α → List Ce} {g : α → List RT} {i sz n : Nat} {ty : TypeId} {bx : Bool} {c : Option Nat} (h : K i = some ⟨l.map f, sz, ty, bx⟩) (hn : n = l.length) (hf : ∀ x, (f x).map RT.ofT = (g x).map some) : frzC K (.osl i 0 n c) (.ro true sz (l.map g)) := by
  simp only [frzC, h]
  subst hn
  exact ⟨_, rfl, by simp, by rw [List.drop_zero, List.take_of_length_le (by simp), List.map_map, List.map_map]; exact List.map_congr_left fun x _ => hf x⟩
theorem frz_osl0 {i q n sz : Nat} {c : Option Nat} {b : Blk} (h : K i = some b) (hs : b.sz = sz) (hn : n = 0) : frzC K (.osl i q n c) (.ro true sz []) := by
  simp only [frzC, h]
  subst hs hn
  exact ⟨[], rfl, rfl, by simp⟩
theorem gB_snoc {sz : Nat} {ty : TypeId} {rows : List (List Ce)} {r : List Ce} : gB sz ty (rows ++ [r]) = some ⟨rows ++ [r], sz, ty, false⟩ := gB_ne (by simp)
end
theorem retF1 {T : Tab} {rs : List ResultVar} {s : Wx.S} {x : A0} (xs : List A0) (h : resL T s rs = some xs) (hf : All2 (frzA (kg s.K)) xs [x]) : retF T rs s (fun rx => rx = .pl x) := ⟨xs, h, [x], hf, rfl⟩
theorem retF2 {T : Tab} {rs : List ResultVar} {s : Wx.S} {x y : A0} {l : List A0} (xs : List A0) (h : resL T s rs = some xs) (hf : All2 (frzA (kg s.K)) xs (x :: y :: l)) : retF T rs s (fun rx => rx = .tup (x :: y :: l)) := ⟨xs, h, _, hf, rfl⟩
section
variable {K : Nat → Option Blk}
theorem fq_int {k : IntKind} {a b : Int} (h : a = b) : frzC K (.v (.int k a)) (.v (.int k b)) := by subst h; rfl
theorem fq_bool {a b : Bool} (h : a = b) : frzC K (.v (.bool a)) (.v (.bool b)) := by subst h; rfl
theorem fq_ro {α : Type} {l l' : List α} {g : α → List RT} {sz : Nat} (h : l = l') : frzC K (.ro true sz (l.map g)) (.ro true sz (l'.map g)) := by subst h; rfl
theorem fq_gsl {α : Type} {l l' : List α} {f : α → List Ce} {g : α → List RT} {i sz : Nat} {ty : TypeId} (h : K i = gB sz ty (l.map f)) (hf : ∀ x, (f x).map RT.ofT = (g x).map some) (e : l = l') : frzC K (.gsl i (l.map f)) (.ro true sz (l'.map g)) := by subst e; exact frz_gsl h hf
theorem fq_src {α : Type} {l l' : List α} {g : α → List RT} {fl : Bool} {i sz n : Nat} {ty : TypeId} {bx : Bool} {c : Option Nat} (h : K i = some ⟨(l.map g).map (List.map (RT.ce fl)), sz, ty, bx⟩) (hn : n = (l.map g).length) (hf : ∀ x, ((g x).map (RT.ce fl)).map RT.ofT = (g x).map some) (e : l = l') : frzC K (.osl i 0 n c) (.ro true sz (l'.map g)) := by
  subst e hn
  simp only [frzC, h]
  exact ⟨_, rfl, by simp, by rw [List.drop_zero, List.take_of_length_le (by simp), List.map_map, List.map_map, List.map_map]; exact List.map_congr_left fun x _ => hf x⟩
end
def S.idAt (s : S) (t : Nat) : Nat := match get s.F t with
  | some (.pl (.one (.gsl i _))) => i
  | some (.pl (.one (.osl i _ _ _))) => i
  | some (.pl (.one (.own i _ _))) => i
  | some (.pl (.one (.mpv i))) => i
  | _ => 0
def S.idIn (s : S) (i k : Nat) : Nat := match kb s.K i with
  | some b => match b.rows with
    | [r] => match r[k]? with
      | some (.gsl i _) => i
      | some (.osl i _ _ _) => i
      | some (.own i _ _) => i
      | some (.mpv i) => i
      | _ => 0
    | _ => 0
  | none => 0
end Go.Proofs.Ytehhmkdghgabaaa.Wx.Z
/-
  Within a call: a block that is written no more is told asx a slice that is only read, wherever a slot or a cell names it.
-/
namespace Go.Proofs.Ytehhmkdghgabaaa.Wx.Z
open Go Go.RowKit
set_option linter.unusedVariables false
def fzC (j : Nat) (o : Option Blk) (c c' : Ce) : Prop := Imp c c' ∨
  (∃ q l cp b rows, c = .osl j q l cp ∧ o = some b ∧ c' = .ro true b.sz rows ∧ rows.length = l ∧ ((b.rows.drop q).take l).map (List.map RT.ofT) = rows.map (List.map some)) ∨
  (∃ sz ty r rows, c = .gsl j r ∧ o = gB sz ty r ∧ c' = .ro true sz rows ∧ r.map (List.map RT.ofT) = rows.map (List.map some))
theorem ImpV.refl (x : AV) : ImpV x x := by
  unfold ImpV
  split
  · exact Imp.refl _
  · rfl
def fzV (j : Nat) (o : Option Blk) : AV → AV → Prop
  | .pl (.one c), .pl (.one c') => fzC j o c c'
  | .pl (.agg c), .pl (.agg c') => All2 (fzC j o) c c'
  | x, y => x = y
section
variable {W : Wo} {n m : Nat} {s s0 : S}
def subFf (j : Nat) (o : Option Blk) (F : Fr) : Fr → Prop
  | [] => True
  | (t, x) :: G => (∃ y, get F t = some y ∧ fzV j o y x) ∧ subFf j o F G
theorem subFf.get {j : Nat} {o : Option Blk} {F : Fr} : ∀ {G : Fr} {t : Nat} {x : AV}, subFf j o F G → Wx.get G t = some x → ∃ y, Wx.get F t = some y ∧ fzV j o y x
  | [], t, x, _, h => by simp [Wx.get] at h
  | (k, y) :: G, t, x, hs, h => by
    simp only [Wx.get] at h
    cases hb : Nat.beq k t with
    | true =>
      simp only [hb, Option.some.injEq] at h
      subst h
      rw [← Nat.eq_of_beq_eq_true hb]
      exact hs.1
    | false =>
      simp only [hb] at h
      exact subFf.get hs.2 h
theorem All2.self {α : Type} {r : α → α → Prop} (h : ∀ a, r a a) : ∀ l : List α, All2 r l l
  | [] => trivial
  | a :: l => ⟨h a, All2.self h l⟩
theorem rndZ_stp {α : Type} {G : α → S} {Inv : α → Prop} {μ : α → Nat} {p : α} {s s1 : S} (h : Stp m s s1) (k : rndZ m G Inv μ p s1) : rndZ m G Inv μ p s := by
  obtain ⟨p', h1, h2, h3⟩ := k.h
  exact ⟨p', h1, h2, h.trans h3⟩
theorem imp_eq {rows rows' : List (List Ce)} (h : rows = rows') : All2 (All2 Imp) rows rows' := by subst h; exact All2.self (All2.self Imp.refl) _
theorem rnd_rw {α : Type} {G : α → S} {Inv : α → Prop} {μ : α → Nat} {p : α} {s : S} (i : Nat) {rows : List (List Ce)} (rows' : List (List Ce)) {sz : Nat} {ty : TypeId} {bx : Bool} (hm : Nat.ble m s.top = true) (hi : kz s.K i = some (.b ⟨rows, sz, ty, bx⟩)) (e : rows = rows')
    (k : rndZ m G Inv μ p ⟨s.F, (i, some (.b ⟨rows', sz, ty, bx⟩)) :: s.K, s.top⟩) : rndZ m G Inv μ p s :=
  rndZ_stp (imp_stp s ⟨s.F, (i, some (.b ⟨rows', sz, ty, bx⟩)) :: s.K, s.top⟩ (fun t x hx => ⟨x, hx, ImpV.refl x⟩) (fun j b hb => by
    have hb' : kz ((i, some (.b ⟨rows', sz, ty, bx⟩)) :: s.K) j = some b := hb
    simp only [kz] at hb'
    cases hc : Nat.beq i j with
    | true =>
      rw [hc] at hb'
      cases hb'
      rw [← Nat.eq_of_beq_eq_true hc]
      exact ⟨_, hi, ⟨rfl, rfl, rfl⟩, imp_eq e⟩
    | false => rw [hc] at hb'; exact ⟨b, hb', ImpO.refl b⟩) (Nat.le_refl _) (Nat.le_of_ble_eq_true hm)) k
end
theorem con_nilcases {P : Program} {g : FuncId} {sz : Nat} {rows : List (List RT)} {asx : List A0} {post : AV → Wx.Kr → Nat → Prop} (h0 : rows = [] → Con P g (.one (.v (.slice none 0 0)) :: asx) post) (h1 : rows = [] → ∀ ad cap, Con P g (.one (.v (.slice (some ad) 0 cap)) :: asx) post) (h2 : ∀ r rs, rows = r :: rs → Con P g (.one (.ro false sz (r :: rs)) :: asx) post) : Con P g (.one (.ro false sz rows) :: asx) post := by
  cases rows with
  | cons r rs => exact h2 r rs rfl
  | nil =>
    refine ⟨(h0 rfl).fn, fun w vs hvs => ?_⟩
    cases vs with
    | nil => exact hvs.elim
    | cons v vs =>
      obtain ⟨hv, hvs⟩ := hvs
      have hv : Rd _ (.ro sz []) v := hv
      cases hv with
      | nil => exact (h0 rfl).run w _ ⟨rfl, hvs⟩
      | emp _ ad cap => exact (h1 rfl ad cap).run w _ ⟨rfl, hvs⟩
      | ro => exact (h1 rfl _ _).run w _ ⟨rfl, hvs⟩
theorem callZ_mk {P : Program} {m : Nat} {g : FuncId} {avs : List AV} {K : Kr} {top : Nat} {k : AV → Kr → Nat → Prop} {args : List A0} {res : AV} {Kc : Wx.Kr} {tc : Nat} (zlow : All2 (lowV (kb K)) avs args) (h : Con P g args (fun x K t => x = res ∧ K = Kc ∧ t = tc)) (zk : k (res.ren (top + ·)) (upk (shK top Kc) ++ K) (top + tc)) : CallZ P m (.fn g []) avs K top k :=
  callZ_con zlow h (by rintro _ _ _ ⟨rfl, rfl, rfl⟩; exact zk)
theorem conZ_mz {P : Program} {g : FuncId} {avs : List AV} {K : Kr} {top : Nat} {k : Eff → Prop} {args : List A0} {res : AV} {Kc : Wx.Kr} {tc : Nat} (zlow : All2 (lowV (kb K)) avs args) (h : Con P g args (fun x K t => x = res ∧ K = Kc ∧ t = tc)) (zk : k ⟨res.ren (top + ·), avs.flatMap AV.refs, upk (shK top Kc), top + tc⟩) : ConZ P (.fn g []) avs K top k :=
  conZ_mk zlow h zk
/-! ### Cells, asx they freeze -/
section
variable {j : Nat} {o : Option Blk}
end
/-! ### Slices changed in place: what is left when rows go, come, or are taken out (slices.Delete, DeleteFunc, append) -/
theorem frz_oslw {α : Type} {K : Nat → Option Blk} {l : List α} {f : α → List Ce} {g : α → List RT} {rows : List (List Ce)} {j n sz : Nat} {ty : TypeId} {bx : Bool} {c : Option Nat} (h : K j = some ⟨rows, sz, ty, bx⟩) (hn : n = l.length) (hr : rows.take n = l.map f) (hf : ∀ x, (f x).map RT.ofT = (g x).map some) : frzC K (.osl j 0 n c) (.ro true sz (l.map g)) := by
  simp only [frzC, h]
  exact ⟨_, rfl, by simp [hn], by rw [List.drop_zero, hr, List.map_map, List.map_map]; exact List.map_congr_left fun x _ => hf x⟩
theorem del_rows {α : Type} {f : α → List Ce} {A : List α} {i m : Nat} {Z : List (List Ce)} (hi : i < A.length) (hm : m = A.length) : List.take (i - 0 + (m - (i + 1))) (lay (lay (A.map f) (i - 0) (List.take (m - (i + 1)) (List.drop (0 + (i + 1)) (A.map f)))) (0 + (A.length - 1)) Z) = (A.eraseIdx i).map f := by
  subst hm
  rw [List.eraseIdx_eq_take_drop_succ, List.map_append, List.map_take, List.map_drop]
  have hS : List.take (A.length - (i + 1)) (List.drop (0 + (i + 1)) (A.map f)) = (A.map f).drop (i + 1) := by rw [Nat.zero_add]; exact List.take_of_length_le (by simp)
  rw [hS]
  generalize hM : A.map f = M
  have hl : M.length = A.length := by rw [← hM, List.length_map]
  rw [show i - 0 + (A.length - (i + 1)) = A.length - 1 by omega, show 0 + (A.length - 1) = A.length - 1 by omega, Nat.sub_zero]
  unfold lay
  rw [List.take_left' (by simp; omega), ← List.append_assoc, List.take_left' (by simp; omega)]
theorem del_end {α : Type} {f : α → List Ce} {A : List α} {i : Nat} {Z : List (List Ce)} (hi : i + 1 = A.length) : List.take (i - 0 + 0) (lay (lay (A.map f) (i - 0) []) (0 + (A.length - 1)) Z) = (A.eraseIdx i).map f := by
  rw [List.eraseIdx_eq_take_drop_succ, List.map_append, List.map_take, List.map_drop]
  generalize hM : A.map f = M
  have hl : M.length = A.length := by rw [← hM, List.length_map]
  rw [show i - 0 + 0 = i by omega, show 0 + (A.length - 1) = i by omega, Nat.sub_zero, List.drop_eq_nil_of_le (by omega), List.append_nil]
  unfold lay
  rw [List.take_left' (by simp; omega), List.take_left' (by simp; omega)]
theorem slN_lo {x : Int} {len : Nat} {cap : Option Nat} {A : Nat → Nat → Prop} (l : Nat) (e : x = (l : Int)) (h1 : l ≤ len) (k : A l len) : slN (some x) none len cap A := ⟨l, len, e, rfl, h1, .inl (Nat.le_refl _), k⟩
theorem slN_lhc {x y : Int} {len : Nat} {cap : Option Nat} {A : Nat → Nat → Prop} (l h : Nat) (e : x = (l : Int)) (e2 : y = (h : Int)) (h1 : l ≤ h) (h2 : ∃ c, cap = some c ∧ h ≤ c) (k : A l h) : slN (some x) (some y) len cap A := ⟨l, h, e, e2, h1, .inr h2, k⟩
theorem Imp.oslc {i q n : Nat} {c : Option Nat} : Imp (.osl i q n c) (.osl i q n none) := fun _ _ _ h => by
  obtain ⟨p, c', h1, h2, h3, h4, _⟩ := h
  exact ⟨p, c', h1, h2, h3, h4, fun c0 e => by cases e⟩
end Go.Proofs.Ytehhmkdghgabaaa.Wx.Z
/-
  The third layer: slices.overlaps at two slices of own memory that lie in two blocks; own slices whose capacity is unknown, with the row behind their end; calls in drawn regions that hand back one own block, however they come to it.
-/
namespace Go.Proofs.Ytehhmkdghgabaaa.Wx.Z
open Go Go.RowKit
set_option linter.unusedVariables false
theorem callZ_ovl {P : Program} {T : Tab} (hT : TabOk P T) {m : Nat} {g : FuncId} {tS tR e : TypeId} {ti : TI} {sz bt : Nat} {i q n j q' n' : Nat} {c c' : Option Nat} {bi bj : Blk} {K : Kr} {top : Nat} {k : AV → Kr → Nat → Prop} (fn : Func)
    (hf : P.funcs[g]? = some fn) (hname : (fn.name == "runtime.NumGoroutine") = false) (hb : fn.body.isNone = true) (hn : Extern.findNext fn = none) (he : Extern.find fn = some (Extern.SlicesOverlaps.overlaps #[tS, tS] #[tR]))
    (ht : tyGet T tS = some ti) (hel : ti.elem = some (e, sz, bt)) (hi : kz K i = some (.b bi)) (hj : kz K j = some (.b bj)) (hne : i ≠ j) (hbj : 0 < bj.rows.length) (hsz : 0 < bj.sz)
    (h : k (.val (.bool false)) K top) : CallZ P m (.fn g []) [.c (.osl i q n c), .c (.osl j q' n' c')] K top k := by
  refine ⟨fun W I R w v vs hw hd hm hvs hv => ?_⟩
  obtain ⟨us, hus, rfl⟩ : ∃ us, All2 (Pt.rel I) [] us ∧ v = .func (.func g) #[] us.toArray := hv
  cases us with
  | cons _ _ => exact hus.elim
  | nil =>
    cases vs with
    | nil => exact hvs.elim
    | cons v1 vs => cases vs with
      | nil => exact hvs.2.elim
      | cons v2 vs => cases vs with
        | cons _ _ => exact hvs.2.2.elim
        | nil =>
          obtain ⟨p1, c1, hp1, rfl, _⟩ := (show ∃ p c', I i = some p ∧ v1 = .slice (some ⟨p.b, q * p.sz, none⟩) n c' ∧ n ≤ c' ∧ q + c' ≤ p.tot ∧ ∀ c0, c = some c0 → c' = c0 from hvs.1)
          obtain ⟨p2, c2, hp2, rfl, _⟩ := (show ∃ p c'', I j = some p ∧ v2 = .slice (some ⟨p.b, q' * p.sz, none⟩) n' c'' ∧ n' ≤ c'' ∧ q' + c'' ≤ p.tot ∧ ∀ c0, c' = some c0 → c'' = c0 from hvs.2.1)
          have ki : Y.blkOf (ky K) i = some bi := by unfold Y.blkOf; rw [ky_of hi]; rfl
          have kj : Y.blkOf (ky K) j = some bj := by unfold Y.blkOf; rw [ky_of hj]; rfl
          obtain ⟨r1, hr1, b1⟩ := hw.wd.blk i bi ki
          obtain ⟨r2, hr2, b2⟩ := hw.wd.blk j bj kj
          rw [hp1] at hr1; cases hr1
          rw [hp2] at hr2; cases hr2
          have hap : p1.b ≠ p2.b := fun e9 => hne (hw.wd.inj i j bi bj p1 p2 ki kj hp1 hp2 e9)
          obtain ⟨cs1, m1, s1, _⟩ := b1.mem
          obtain ⟨cs2, m2, s2, _⟩ := b2.mem
          obtain ⟨hu, inf, z, hinf, hz, _⟩ := tiOf_elem (hT _ _ ht) hel
          have hso : ∀ w, (Go.sizeOf e).run P w = .ok inf.size w := fun w => by simp [sizeOf, typeInfo, hinf]
          have hk2 : cs2.size ≠ 0 := by
            rw [s2, b2.sz]
            have h1 := b2.fit
            exact Nat.ne_of_gt (Nat.mul_pos (by omega) hsz)
          have hrun := Go.Lib.run_overlaps_apart (P := P) w tS tR e hu inf.size hso ⟨p1.b, q * p1.sz, none⟩ ⟨p2.b, q' * p2.sz, none⟩ n c1 n' c2 hap _ _ _ _
            (show w.shape? p1.b = some (bi.ty, cs1.size) by unfold World.shape?; rw [m1]) (show w.shape? p2.b = some (bj.ty, cs2.size) by unfold World.shape?; rw [m2]) hk2
            (frozen_of_row w p1.b _ _ _ m1) (frozen_of_row w p1.b _ _ _ m1)
          refine .inr ⟨g, .bool false, _, _, _, _, _, _, rfl, rfl, ?_, .bool false, .val (.bool false), K, top, I, R, rfl, hw, hd, Nat.le_refl _, fun _ _ => rfl, RExt.refl _, rfl, h⟩
          show (callFunc g #[_, _]).run P w = _
          rw [run_callFunc_extern hf hname hb hn he]
          rw [hrun]; rfl
theorem reblk {W : Wo} {K : Kr} {I : IM} {R : RM} {w : World} (h : Y.Wz W (ky K) I R w) {i : Nat} {b b' : Blk} {p : Loc} (hb : kz K i = some (.b b)) (hp : I i = some p) (hk : Bk I R b' p w) : Y.Wz W (ky ((i, some (.b b')) :: K)) I R w := by
  rw [ky_cons]
  have hbi : Y.blkOf (ky K) i = some b := by unfold Y.blkOf; rw [ky_of hb]; rfl
  have hkey : ∀ {j : Nat} {x : Blk}, Y.blkOf (Y.upd (ky K) i (some (Y.Ob.b b'))) j = some x → (j = i ∧ x = b') ∨ (j ≠ i ∧ Y.blkOf (ky K) j = some x) := fun {j x} hx => by
    unfold Y.blkOf Y.upd at hx
    by_cases e : j = i
    · rw [if_pos e] at hx
      simp only [Option.some.injEq] at hx
      exact .inl ⟨e, hx.symm⟩
    · rw [if_neg e] at hx
      exact .inr ⟨e, hx⟩
  have hany : ∀ {j : Nat} {x : Blk}, Y.blkOf (Y.upd (ky K) i (some (Y.Ob.b b'))) j = some x → ∃ y, Y.blkOf (ky K) j = some y := fun {j x} hx => by
    rcases hkey hx with ⟨rfl, _⟩ | ⟨_, h2⟩
    · exact ⟨b, hbi⟩
    · exact ⟨x, h2⟩
  have hobs : ∀ {j : Nat} {o : Y.Ob}, Y.upd (ky K) i (some (Y.Ob.b b')) j = some o → o.nb = true → ky K j = some o := fun {j o} ho hn => by
    unfold Y.upd at ho
    by_cases e : j = i
    · rw [if_pos e] at ho; cases ho; cases hn
    · rw [if_neg e] at ho; exact ho
  refine ⟨⟨?_, ?_, ?_, h.wd.ro, ?_, h.wd.fresh, h.wd.less, h.wd.below, h.wd.out, h.wd.qz⟩, fun j o hj hn => h.ob j o (hobs hj hn) hn, fun a c oa oc p q ha hc hna hnc => h.inj a c oa oc p q (hobs ha hna) (hobs hc hnc) hna hnc⟩
  · intro j x hx
    rcases hkey hx with ⟨rfl, rfl⟩ | ⟨_, h2⟩
    · exact ⟨p, hp, hk⟩
    · exact h.wd.blk j x h2
  · intro j l bj bl pj pl hj hl
    obtain ⟨y1, h1⟩ := hany hj
    obtain ⟨y2, h2⟩ := hany hl
    exact h.wd.inj j l y1 y2 pj pl h1 h2
  · intro j x pj hj
    obtain ⟨y1, h1⟩ := hany hj
    exact h.wd.base j y1 pj h1
  · intro j x pj f o hj
    obtain ⟨y1, h1⟩ := hany hj
    exact h.wd.apart j y1 pj f o h1
theorem vals_rel {I : IM} {R : RM} {l : List Value} {k : Nat} {c : Ce} (h : (l.map Ce.v)[k]? = some c) : ∃ u, l[k]? = some u ∧ c.rel I R u := by
  rw [List.getElem?_map] at h
  cases hl : l[k]? with
  | none => rw [hl] at h; cases h
  | some u => rw [hl] at h; cases h; exact ⟨u, rfl, rfl⟩
theorem callZ_capS {P : Program} {m i n top : Nat} {f : Ce} {asx : List AV} {K : Kr} {k : AV → Kr → Nat → Prop} {b : Blk} (hb : kz K i = some (.b b)) (hn : b.rows.length = n)
    (h : ∀ c, n ≤ c → (¬ n + 1 ≤ c → CallZ P m f (.c (.osl i 0 n (some c)) :: asx) K top k) ∧ (n + 1 ≤ c → ∀ g : List Value, g.length = b.sz → CallZ P m f (.c (.osl i 0 n (some c)) :: asx) ((i, some (.b ⟨b.rows ++ [g.map Ce.v], b.sz, b.ty, b.bx⟩)) :: K) top k)) :
    CallZ P m f (.c (.osl i 0 n none) :: asx) K top k := by
  refine ⟨fun W I R w v vs hw hd hm hvs hv => ?_⟩
  cases vs with
  | nil => exact hvs.elim
  | cons u us =>
    obtain ⟨hu, hus⟩ := hvs
    obtain ⟨p, c', hp, hux, h1, h2, _⟩ : (Ce.osl i 0 n none).rel I R u := hu
    have hu' : (Ce.osl i 0 n (some c')).rel I R u := ⟨p, c', hp, hux, h1, h2, fun c hc => Option.some.inj hc⟩
    by_cases hc : n + 1 ≤ c'
    · have hbi : Y.blkOf (ky K) i = some b := by unfold Y.blkOf; rw [ky_of hb]; rfl
      obtain ⟨p', hp', B⟩ := hw.wd.blk i b hbi
      rw [hp] at hp'; cases hp'
      obtain ⟨cs, m1, m2, m3⟩ := B.mem
      have hsz := B.sz
      have hcs : n * b.sz + b.sz ≤ cs.size := by
        rw [m2, hsz]
        have : (n + 1) * b.sz ≤ p.tot * b.sz := Nat.mul_le_mul_right _ (by omega)
        rw [Nat.add_mul, Nat.one_mul] at this
        exact this
      have hg : ((cs.toList.drop (n * b.sz)).take b.sz).length = b.sz := by
        rw [List.length_take, List.length_drop, Array.length_toList]; omega
      refine ((h c' h1).2 hc _ hg).run W I R w v (u :: us) (reblk hw hb hp ⟨hsz, ?_, B.few, ?_, cs, m1, m2, ?_⟩) hd hm ⟨hu', hus⟩ hv
      · simp only [List.length_append, List.length_cons, List.length_nil, hn]; omega
      · intro r hr
        rcases List.mem_append.1 hr with hr | hr
        · exact B.row r hr
        · simp only [List.mem_singleton] at hr; subst hr; rw [List.length_map]; exact hg
      · intro q r kk c hq hk
        by_cases hqn : q < n
        · rw [List.getElem?_append_left (by omega)] at hq
          exact m3 q r kk c hq hk
        · rw [List.getElem?_append_right (by omega)] at hq
          have hq0 : q - b.rows.length = 0 := by
            have := (List.getElem?_eq_some_iff.1 hq).1; simp at this; omega
          rw [hq0] at hq
          simp only [List.getElem?_cons_zero, Option.some.injEq] at hq
          subst hq
          obtain ⟨u2, hu2, hr2⟩ := vals_rel (I := I) (R := R) hk
          refine ⟨u2, ?_, hr2⟩
          have hkl : kk < b.sz := by
            have := (List.getElem?_eq_some_iff.1 hu2).1; rw [hg] at this; exact this
          rw [List.getElem?_take_of_lt hkl, List.getElem?_drop] at hu2
          rw [show q * p.sz + kk = n * b.sz + kk by rw [hsz, show q = n by omega], ← Array.getElem?_toList]
          exact hu2
    · exact ((h c' h1).1 hc).run W I R w v (u :: us) hw hd hm ⟨hu', hus⟩ hv
theorem callZ_capn {P : Program} {m i n top : Nat} {f : Ce} {asx : List AV} {K : Kr} {k : AV → Kr → Nat → Prop} (h : ∀ c, n ≤ c → CallZ P m f (.c (.osl i 0 n (some c)) :: asx) K top k) : CallZ P m f (.c (.osl i 0 n none) :: asx) K top k := by
  refine ⟨fun W I R w v vs hw hd hm hvs hv => ?_⟩
  cases vs with
  | nil => exact hvs.elim
  | cons u us =>
    obtain ⟨hu, hus⟩ := hvs
    obtain ⟨p, c', hp, hux, h1, h2, _⟩ : (Ce.osl i 0 n none).rel I R u := hu
    exact (h c' h1).run W I R w v (u :: us) hw hd hm ⟨⟨p, c', hp, hux, h1, h2, fun c hc => Option.some.inj hc⟩, hus⟩ hv
end Go.Proofs.Ytehhmkdghgabaaa.Wx.Z
/-
  A call in a drawn region whose argument is an own row of slices: each cell is told by what its own block holds.
-/
namespace Go.Proofs.Ytehhmkdghgabaaa.Wx.Z
open Go Go.RowKit
set_option linter.unusedVariables false
end Go.Proofs.Ytehhmkdghgabaaa.Wx.Z
/-
  Calls in place, forgetting what they have made; calls of closures that share blocks of the caller's.
-/
namespace Go.Proofs.Ytehhmkdghgabaaa.Wx.Z
open Go Go.RowKit
set_option linter.unusedVariables false
end Go.Proofs.Ytehhmkdghgabaaa.Wx.Z
/-
  slices.Insert and slices.Delete of own rows: what the rows are behind them; blocks and lengths of a call's arguments by another account.
-/
namespace Go.Proofs.Ytehhmkdghgabaaa.Wx.Z
open Go Go.RowKit
set_option linter.unusedVariables false
theorem slN_hc {y : Int} {len : Nat} {cap : Option Nat} {A : Nat → Nat → Prop} (h : Nat) (e2 : y = (h : Int)) (h2 : ∃ c, cap = some c ∧ h ≤ c) (k : A 0 h) : slN none (some y) len cap A := ⟨0, h, rfl, e2, Nat.zero_le _, .inr h2, k⟩
theorem g_le {α : Type} {f : α → List Ce} {l : List α} {R : List (List Ce)} {m : Nat} (h : R = l.map f) (hm : m ≤ l.length) : m ≤ R.length := by subst h; rw [List.length_map]; exact hm
theorem gS_eq {a : Nat} {X : List (List Ce)} {v : List Ce} (ha : 1 ≤ a) (hX : List.take 1 (List.drop 0 X) = [v]) : List.take (Nat.min 1 a) (List.take 1 (List.drop 0 X)) = [v] := by rw [hX, show Nat.min 1 a = 1 from Nat.min_eq_left ha]; rfl
theorem gS_len {a : Nat} {X : List (List Ce)} : (List.take a (List.take 1 X)).length ≤ 1 := by simp; omega
theorem gT_eq {α : Type} {f : α → List Ce} {l : List α} {i a b : Nat} {R : List (List Ce)} (h : R = l.map f) (ha : l.length - i ≤ a) (hb : l.length - i ≤ b) : List.take a (List.take b (List.drop (0 + i) R)) = (l.map f).drop i := by
  subst h
  rw [Nat.zero_add, List.take_of_length_le (i := b) (by simp; omega), List.take_of_length_le (by simp; omega)]
theorem g_ins {α : Type} {f : α → List Ce} {l : List α} {i k : Nat} {R S T : List (List Ce)} {z : List Ce} {v : α} (h : R = l.map f) (hi : i < l.length) (hk : k = l.length + 1 - i) (hS : S = [f v]) (hT : T = (l.map f).drop i) : lay (lay (List.take (i - 0) R ++ List.replicate k z) (0 + i) S) (0 + (i + 1)) T = (l.take i ++ v :: l.drop i).map f := by
  subst h hk hS hT
  rw [List.map_append, List.map_cons, List.map_take, List.map_drop]
  generalize hM : l.map f = M
  have hl : M.length = l.length := by rw [← hM, List.length_map]
  rw [Nat.zero_add, Nat.zero_add, Nat.sub_zero]
  have h1 : (M.take i).length = i := by simp; omega
  have h2 : (M.drop i).length = l.length - i := by simp; omega
  generalize M.take i = A at *
  generalize M.drop i = B at *
  have e1 : lay (A ++ List.replicate (l.length + 1 - i) z) i [f v] = (A ++ [f v]) ++ List.replicate (l.length - i) z := by
    unfold lay
    rw [List.take_left' h1, show l.length + 1 - i = (l.length - i) + 1 by omega, List.replicate_succ, show A ++ z :: List.replicate (l.length - i) z = (A ++ [z]) ++ List.replicate (l.length - i) z by simp, List.drop_left' (by simp [h1])]
    exact (List.append_assoc _ _ _).symm
  rw [e1]
  unfold lay
  rw [List.take_left' (by simp [h1]), List.drop_eq_nil_of_le (by simp [h1, h2]; omega)]
  simp
theorem g_insp {α : Type} {f : α → List Ce} {l : List α} {i : Nat} {S T : List (List Ce)} {g : List Ce} {v : α} (hi : i < l.length) (hS : S = [f v]) (hT : T = (l.map f).drop i) : lay (lay (l.map f ++ [g]) (0 + (i + 1)) T) (0 + i) S = (l.take i ++ v :: l.drop i).map f := by
  subst hS hT
  rw [List.map_append, List.map_cons, List.map_take, List.map_drop]
  generalize hM : l.map f = M
  have hl : M.length = l.length := by rw [← hM, List.length_map]
  rw [Nat.zero_add, Nat.zero_add]
  have h2 : (M.drop i).length = l.length - i := by simp; omega
  have e1 : lay (M ++ [g]) (i + 1) (M.drop i) = M.take (i + 1) ++ M.drop i := by
    unfold lay
    have e0 : (M ++ [g]).drop (i + 1 + (M.drop i).length) = [] := List.drop_eq_nil_of_le (by rw [h2, List.length_append, hl]; simp; omega)
    rw [List.take_append_of_le_length (by omega), e0, List.append_nil]
  rw [e1]
  show List.take i (M.take (i + 1) ++ M.drop i) ++ ([f v] ++ List.drop (i + 1) (M.take (i + 1) ++ M.drop i)) = _
  have h4 : (M.take (i + 1)).length = i + 1 := by simp; omega
  rw [List.take_append_of_le_length (by omega), List.take_take, Nat.min_eq_left (by omega), List.drop_left' h4]
  rfl
theorem gT_eqp {α : Type} {f : α → List Ce} {l : List α} {i a b : Nat} {g : List Ce} (hi : i ≤ l.length) (h : (a = l.length - i ∧ l.length - i ≤ b) ∨ (l.length - i ≤ a ∧ b = l.length - i)) : List.take a (List.take b (List.drop (0 + i) (l.map f ++ [g]))) = (l.map f).drop i := by
  have h2 : ((l.map f).drop i).length = l.length - i := by simp
  rw [Nat.zero_add, List.drop_append_of_le_length (by simp; omega), List.take_take, show min a b = ((l.map f).drop i).length by omega, List.take_left]
theorem g_fit {α : Type} {f : α → List Ce} {l : List α} {i q : Nat} {R : List (List Ce)} {z : List Ce} (h : R = l.map f) (hi : i < l.length) (hq : q ≤ l.length + 1) : q ≤ (List.take (i - 0) R ++ List.replicate (l.length + 1 - i) z).length := by subst h; simp; omega
theorem g_fit2 {α : Type} {f : α → List Ce} {l : List α} {i q : Nat} {R S : List (List Ce)} {z : List Ce} (h : R = l.map f) (hi : i < l.length) (hq : q ≤ l.length + 1) (hS : S.length ≤ 1) : q ≤ (lay (List.take (i - 0) R ++ List.replicate (l.length + 1 - i) z) (0 + i) S).length := by
  rw [lay_length (by subst h; simp; omega)]; exact g_fit h hi hq
theorem g_one {α : Type} {f : α → List Ce} {l : List α} {m k : Nat} {R : List (List Ce)} (hf : ∀ x, ∀ c ∈ f x, c.single = true) (h : R = l.map f) : ∀ r ∈ List.take m (List.drop k R), ∀ c ∈ r, c.single = true := fun r hr => by
  subst h
  obtain ⟨x, _, rfl⟩ := List.mem_map.1 (List.mem_of_mem_drop (List.mem_of_mem_take hr))
  exact hf x
theorem g_len {α : Type} {f : α → List Ce} {l : List α} {m i : Nat} {R : List (List Ce)} (h : R = l.map f) (hm : m + i ≤ l.length) : (List.take m (List.drop (0 + i) R)).length = m := by subst h; simp; omega
theorem g_onep {α : Type} {f : α → List Ce} {l : List α} {a m k : Nat} {g : List Ce} (hf : ∀ x, ∀ c ∈ f x, c.single = true) (ha : a + k ≤ l.length) : ∀ r ∈ List.take a (List.take m (List.drop k (l.map f ++ [g]))), ∀ c ∈ r, c.single = true := fun r hr => by
  rw [List.drop_append_of_le_length (by rw [List.length_map]; omega), List.take_take, List.take_append_of_le_length (by simp; omega)] at hr
  obtain ⟨x, _, rfl⟩ := List.mem_map.1 (List.mem_of_mem_drop (List.mem_of_mem_take hr))
  exact hf x
theorem g_lenp {α : Type} {f : α → List Ce} {l : List α} {m k : Nat} {g : List Ce} (hm : m + k ≤ l.length + 1) : (List.take m (List.drop k (l.map f ++ [g]))).length = m := by simp; omega
theorem g_fitp {α : Type} {f : α → List Ce} {l : List α} {q : Nat} {g : List Ce} (hq : q ≤ l.length + 1) : q ≤ (l.map f ++ [g]).length := by simp; omega
theorem g_fitp2 {α : Type} {f : α → List Ce} {l : List α} {q k : Nat} {g : List Ce} {S : List (List Ce)} (hq : q ≤ l.length + 1) (hk : k + S.length ≤ l.length + 1) : q ≤ (lay (l.map f ++ [g]) k S).length := by rw [lay_length (by simp; omega)]; exact g_fitp hq
theorem g_fitk {α : Type} {k a b N : Nat} {X : List α} (h : k + b ≤ N) : k + (List.take (Nat.min a b) X).length ≤ N := by
  have h2 : (List.take (Nat.min a b) X).length ≤ b := Nat.le_trans (by rw [List.length_take]; exact Nat.min_le_left _ _) (Nat.min_le_right a b)
  omega
theorem g_min {a b k N : Nat} (h : b + k ≤ N) : Nat.min a b + k ≤ N := Nat.le_trans (Nat.add_le_add_right (Nat.min_le_right a b) k) h
theorem g_clr {α : Type} {f : α → List Ce} {l : List α} {q m : Nat} {R S : List (List Ce)} (h : R = l.map f) (hq : q + S.length ≤ l.length) (hm : m ≤ l.length) : m ≤ (lay R q S).length := by
  subst h; rw [lay_length (by rw [List.length_map]; exact hq), List.length_map]; exact hm
theorem del_full {α : Type} {f : α → List Ce} {A : List α} {i m : Nat} {R : List (List Ce)} {z : α} {Zr : List (List Ce)} (h : R = A.map f) (hi : i < A.length) (hm : m = A.length) (hz : Zr = [f z]) : lay (lay R (i - 0) (List.take (m - (i + 1)) (List.drop (0 + (i + 1)) R))) (0 + (m - 1)) Zr = (A.eraseIdx i ++ [z]).map f := by
  subst h hm hz
  rw [List.map_append, List.eraseIdx_eq_take_drop_succ, List.map_append, List.map_take, List.map_drop]
  generalize hM : A.map f = M
  have hl : M.length = A.length := by rw [← hM, List.length_map]
  rw [Nat.zero_add, Nat.zero_add, Nat.sub_zero]
  have h1 : (M.take i).length = i := by rw [List.length_take]; omega
  have h2 : (M.drop (i + 1)).length = A.length - (i + 1) := by rw [List.length_drop]; omega
  rw [List.take_of_length_le (i := A.length - (i + 1)) (by omega)]
  have e1 : lay M i (M.drop (i + 1)) = (M.take i ++ M.drop (i + 1)) ++ M.drop (A.length - 1) := by
    unfold lay
    rw [h2, show i + (A.length - (i + 1)) = A.length - 1 by omega, List.append_assoc]
  have h3 : (M.take i ++ M.drop (i + 1)).length = A.length - 1 := by rw [List.length_append]; omega
  rw [e1]
  have e2 : List.drop (A.length - 1 + [f z].length) ((M.take i ++ M.drop (i + 1)) ++ M.drop (A.length - 1)) = [] := List.drop_eq_nil_of_le (by rw [List.length_append, h3, List.length_drop, List.length_singleton]; omega)
  unfold lay
  rw [List.take_left' h3, e2]
  simp
theorem del_full0 {α : Type} {f : α → List Ce} {A : List α} {i m : Nat} {R : List (List Ce)} {z : α} {Zr : List (List Ce)} (h : R = A.map f) (hi : i + 1 = A.length) (hm : m = A.length) (hz : Zr = [f z]) : lay (lay R (i - 0) []) (0 + (m - 1)) Zr = (A.eraseIdx i ++ [z]).map f := by
  have h9 := del_full (i := i) (m := m) h (by omega) hm hz
  rw [show m - (i + 1) = 0 by omega, List.take_zero] at h9
  exact h9
theorem g_app {α : Type} {f : α → List Ce} {l : List α} {n : Nat} {S : List (List Ce)} {v : α} (hn : n = l.length) (hS : S = [f v]) : List.take n (l.map f) ++ S = (l ++ [v]).map f := by
  subst hn hS; rw [List.take_of_length_le (by simp)]; simp
theorem g_appr {α : Type} {f : α → List Ce} {l : List α} {n : Nat} {S : List (List Ce)} {g : List Ce} {v : α} (hn : n = l.length) (hS : S = [f v]) : lay (l.map f ++ [g]) n S = (l ++ [v]).map f := by
  subst hn hS
  unfold lay
  rw [List.take_left' (by simp), List.drop_eq_nil_of_le (by simp)]; simp
theorem callZ_rw {P : Program} {m top : Nat} {c : Ce} {avs : List AV} {K : Kr} {k : AV → Kr → Nat → Prop} (B : Nat) {rows : List (List Ce)} (rows' : List (List Ce)) {sz : Nat} {ty : TypeId} {bx : Bool} (hB : kz K B = some (.b ⟨rows, sz, ty, bx⟩)) (h : rows = rows')
    (kk : CallZ P m c avs ((B, some (.b ⟨rows', sz, ty, bx⟩)) :: K) top k) : CallZ P m c avs K top k := by
  subst h
  have e : ky ((B, some (.b ⟨rows, sz, ty, bx⟩)) :: K) = ky K := funext fun j => by
    rw [ky_cons]
    unfold Y.upd
    by_cases hj : j = B
    · subst hj; rw [if_pos rfl]; exact (ky_of hB).symm
    · rw [if_neg hj]
  exact ⟨fun W I R w v vs hw => kk.run W I R w v vs (by rw [e]; exact hw)⟩
theorem kz_hit {B : Nat} {o : Option Ob} {K : Kr} : kz ((B, o) :: K) B = o := by
  have e : Nat.beq B B = true := Nat.beq_refl B
  simp only [kz]
  rw [e]
theorem callZ_rwcap {P : Program} {m i n top : Nat} {f : Ce} {asx : List AV} {K : Kr} {k : AV → Kr → Nat → Prop} {rows : List (List Ce)} (rows' : List (List Ce)) {sz : Nat} {ty : TypeId} {bx : Bool} (hB : kz K i = some (.b ⟨rows, sz, ty, bx⟩)) (hr : rows = rows') (hn : rows'.length = n)
    (h : ∀ c, n ≤ c → (¬ n + 1 ≤ c → CallZ P m f (.c (.osl i 0 n (some c)) :: asx) ((i, some (.b ⟨rows', sz, ty, bx⟩)) :: K) top k) ∧ (n + 1 ≤ c → ∀ g : List Value, g.length = sz → CallZ P m f (.c (.osl i 0 n (some c)) :: asx) ((i, some (.b ⟨rows' ++ [g.map Ce.v], sz, ty, bx⟩)) :: (i, some (.b ⟨rows', sz, ty, bx⟩)) :: K) top k)) :
    CallZ P m f (.c (.osl i 0 n none) :: asx) K top k := by
  refine callZ_rw i rows' hB hr ?_
  exact callZ_capS (b := ⟨rows', sz, ty, bx⟩) kz_hit hn h
theorem callZ_rwcapn {P : Program} {m i n top : Nat} {f : Ce} {asx : List AV} {K : Kr} {k : AV → Kr → Nat → Prop} {rows : List (List Ce)} (rows' : List (List Ce)) {sz : Nat} {ty : TypeId} {bx : Bool} (hB : kz K i = some (.b ⟨rows, sz, ty, bx⟩)) (hr : rows = rows')
    (h : ∀ c, n ≤ c → CallZ P m f (.c (.osl i 0 n (some c)) :: asx) ((i, some (.b ⟨rows', sz, ty, bx⟩)) :: K) top k) : CallZ P m f (.c (.osl i 0 n none) :: asx) K top k :=
  callZ_rw i rows' hB hr (callZ_capn h)
theorem callZ_tell {P : Program} {m top B q n : Nat} {cap : Option Nat} {c : Ce} {asx : List AV} {K : Kr} {k : AV → Kr → Nat → Prop} {rows : List (List Ce)} (rows' : List (List Ce)) (n' : Nat) {sz : Nat} {ty : TypeId} {bx : Bool} (hB : kz K B = some (.b ⟨rows, sz, ty, bx⟩)) (h : rows = rows') (hn : n = n')
    (kk : CallZ P m c (.c (.osl B q n' cap) :: asx) ((B, some (.b ⟨rows', sz, ty, bx⟩)) :: K) top k) : CallZ P m c (.c (.osl B q n cap) :: asx) K top k := by
  subst hn
  exact callZ_rw B rows' hB h kk
end Go.Proofs.Ytehhmkdghgabaaa.Wx.Z
/-
  A result's block of which only the first rows are told.
-/
namespace Go.Proofs.Ytehhmkdghgabaaa.Wx.Z
open Go Go.RowKit
set_option linter.unusedVariables false
theorem _root_.Go.Proofs.Ytehhmkdghgabaaa.Wx.Wd.cut1 {W : Wo} {I : IM} {R : RM} {w : World} {i sz : Nat} {ty : TypeId} {bx : Bool} {rows tl : List (List Ce)} (h : Wd W (kg [(i, some ⟨rows ++ tl, sz, ty, bx⟩)]) I R w) : Wd W (kg [(i, some ⟨rows, sz, ty, bx⟩)]) I R w := by
  have key : ∀ {j : Nat} {b : Blk}, kg [(i, some ⟨rows, sz, ty, bx⟩)] j = some b → b = ⟨rows, sz, ty, bx⟩ ∧ kg [(i, some ⟨rows ++ tl, sz, ty, bx⟩)] j = some ⟨rows ++ tl, sz, ty, bx⟩ := fun {j b} hb => by
    simp only [kg] at hb ⊢
    cases he : Nat.beq i j with
    | true => rw [he] at hb; cases hb; exact ⟨rfl, rfl⟩
    | false => rw [he] at hb; cases hb
  refine ⟨fun j b hb => ?_, fun j k bj bk p q hj hk => ?_, fun j b p hb => ?_, h.ro, fun j b p f o hb => ?_, h.fresh, h.less, h.below, h.out, h.qz⟩
  · obtain ⟨rfl, h2⟩ := key hb
    obtain ⟨p, hp, hB⟩ := h.blk _ _ h2
    refine ⟨p, hp, hB.sz, Nat.le_trans (by simp) hB.fit, hB.few, fun r hr => hB.row r (List.mem_append_left _ hr), ?_⟩
    obtain ⟨cs, m1, m2, m3⟩ := hB.mem
    refine ⟨cs, m1, m2, fun q r kk c hq hk2 => m3 q r kk c ?_ hk2⟩
    rw [List.getElem?_append_left (List.getElem?_eq_some_iff.1 hq).1]; exact hq
  · exact h.inj j k _ _ p q (key hj).2 (key hk).2
  · exact h.base j _ p (key hb).2
  · exact h.apart j _ p f o (key hb).2
theorem con_cut1 {P : Program} {g : FuncId} {args : List A0} {X : AV} {sz : Nat} {ty : TypeId} {bx : Bool} {rows : List (List Ce)} (h : Con P g args (fun rx rK rt => ∃ tl, rx = X ∧ rK = [(0, some ⟨rows ++ tl, sz, ty, bx⟩)] ∧ rt = 1)) : Con P g args (fun rx rK rt => rx = X ∧ rK = [(0, some ⟨rows, sz, ty, bx⟩)] ∧ rt = 1) :=
  ⟨h.fn, fun w vs hv => (h.run w vs hv).mono fun e w2 ⟨v, x, Kc, tc, I, Rf, h1, h2, h3, h4, h5, tl, h6, h7, h8⟩ => by
    subst h7
    exact ⟨v, x, _, tc, I, Rf, h1, h2.cut1, h3, (fun p hp => by rw [List.mem_singleton.1 hp]; exact (h4 (0, some ⟨rows ++ tl, sz, ty, bx⟩) (List.mem_singleton.2 rfl) : 0 < tc)), h5, h6, rfl, h8⟩⟩
end Go.Proofs.Ytehhmkdghgabaaa.Wx.Z
/-
  The second layer, with an oracle: calls of functions that are told by contracts.
-/
namespace Go.Proofs.Ytehhmkdghgabaaa.Wx.Y
open Go Go.RowKit
set_option linter.unusedVariables false
def callS (C : CallFn) (FT : FTab) (T : Tab) (lf : Nat) : CallFn := fun c avs K top =>
  match c with
    | .yl j => roundE (fun n j c s => codeE (C) T n lf (some j) c s) j avs K top
    | .fn g cap => match ftGet FT g with
      | some fn => match fn.body with
        | some c => match Nat.ble (avs ++ capA cap).length fn.ntmps, Nat.ble (avs ++ capA cap).length big with
          | true, true => match codeE (C) T fn.ntmps lf none c ⟨argE 0 (avs ++ capA cap), K, top, []⟩ with
            | some (.normal, s) => match resE T s fn.results.toList with
              | some xs => some ⟨retV xs, s.K, s.top, s.log⟩
              | none => none
            | some (.ret, s) => match resE T s fn.results.toList with
              | some xs => some ⟨retV xs, s.K, s.top, s.log⟩
              | none => none
            | _ => none
          | _, _ => none
        | none => none
      | none => none
    | .mf g cap => match ftGet FT g with
      | some fn => match fn.body with
        | some c => match Nat.ble (capA cap ++ avs).length fn.ntmps, Nat.ble (capA cap ++ avs).length big with
          | true, true => match codeE (C) T fn.ntmps lf none c ⟨argE 0 (capA cap ++ avs), K, top, []⟩ with
            | some (.normal, s) => match resE T s fn.results.toList with
              | some xs => some ⟨retV xs, s.K, s.top, s.log⟩
              | none => none
            | some (.ret, s) => match resE T s fn.results.toList with
              | some xs => some ⟨retV xs, s.K, s.top, s.log⟩
              | none => none
            | _ => none
          | _, _ => none
        | none => none
      | none => none
    | _ => none
theorem callS_sound {P : Program} {C : CallFn} {FT : FTab} {T : Tab} (hF : FtOk P FT) (hT : TabOk P T) (hmix : P.follows .mixedOrders = true) {lf : Nat} (hC : CallsOk P C) : CallsOk P (callS C FT T lf) := fun c avs K top r h => by
  unfold callS at h
  split at h
  · rename_i j
    exact round_core (fun n j c s e s' h => codeE_sound hT hmix (hC) c s e s' h) h
  · rename_i g cap
    split at h
    · rename_i fn hfn
      obtain ⟨hf, hfb⟩ := hF _ _ hfn
      split at h
      · rename_i c hc
        split at h
        · rename_i hle hbig
          have hle' : (avs ++ capA cap).length ≤ fn.ntmps := Nat.le_of_ble_eq_true hle
          have hbig' : (avs ++ capA cap).length ≤ big := Nat.le_of_ble_eq_true hbig
          have key : ∀ (e : Exit) (s : ES) (xs : List A0), (e = .normal ∨ e = .ret) → codeE (C) T fn.ntmps lf none c ⟨argE 0 (avs ++ capA cap), K, top, []⟩ = some (e, s) → resE T s fn.results.toList = some xs →
              CallE P (.fn g cap) avs K.get top (retV xs) s.K.get s.top ∧ ∀ j, j ∉ s.log → s.K.get j = K.get j := by
            intro e s xs he hco hxs
            obtain ⟨a1, a2, a3⟩ := codeE_sound hT hmix (hC) c _ _ _ hco
            refine ⟨⟨a1, fun W I R w v vs hw hd hvs hv => ?_⟩, fun j hj => (a2 j hj).2⟩
            obtain ⟨us, hus, rfl⟩ : ∃ us, All2 (Pt.rel I) cap us ∧ v = .func (.func g) #[] us.toArray := hv
            have hall := hvs.append (capA_rel (R := R) hus)
            refine .inl ⟨g, #[], us.toArray, rfl, hfb, ?_⟩
            rw [Array.empty_append]
            have hargs : vs.toArray ++ us.toArray = (vs ++ us).toArray := by simp
            rw [hargs]
            refine fr_calls (r := none) (n := 0) (callsIn_of_wp_marks hf hc trivial (wpIn_mono (a3 W I R _ w none rfl (st_argE hall hw (by rw [← hall.length]; exact hle') hbig') hd) ?_))
            rintro e' a' w' ⟨rfl, I', R', k1, k2, k3, k4⟩
            have fin : LeavesInM (fr none) 0 P fn a'.tmps (fun e w' => ∃ u I' R', e = .returned u ∧ Wz W s.K.get I' R' w' ∧ (∀ j, s.top ≤ j → I' j = none) ∧ (∀ j, j < top → I' j = I j) ∧ RExt R R' ∧ (retV xs).rel I' R' u) a'.defers .returning w' := by
              refine leaves_marks _ _ k1.mks k1.wz fun w2 hw2 => ?_
              obtain ⟨v, g1, g2⟩ := resE_results hT (⟨k1.size, (trivial : Mk W (⟨a'.tmps, []⟩ : Act).defers w2), fun t x hx => k1.fr t x hx, hw2⟩ : St fn.ntmps W s.F.get s.K.get I' R' ⟨a'.tmps, []⟩ w2) hxs
              exact ⟨v, g1, v, I', R', rfl, hw2, k2, k3, k4, g2⟩
            rcases he with rfl | rfl
            · exact fin
            · exact fin
          split at h
          · rename_i s hco
            split at h
            · rename_i xs hxs
              simp only [Option.some.injEq] at h
              subst h
              exact key _ _ _ (.inl rfl) hco hxs
            · cases h
          · rename_i s hco
            split at h
            · rename_i xs hxs
              simp only [Option.some.injEq] at h
              subst h
              exact key _ _ _ (.inr rfl) hco hxs
            · cases h
          · cases h
        · cases h
      · cases h
    · cases h
  · rename_i g cap
    split at h
    · rename_i fn hfn
      obtain ⟨hf, hfb⟩ := hF _ _ hfn
      split at h
      · rename_i c hc
        split at h
        · rename_i hle hbig
          have hle' : (capA cap ++ avs).length ≤ fn.ntmps := Nat.le_of_ble_eq_true hle
          have hbig' : (capA cap ++ avs).length ≤ big := Nat.le_of_ble_eq_true hbig
          have key : ∀ (e : Exit) (s : ES) (xs : List A0), (e = .normal ∨ e = .ret) → codeE (C) T fn.ntmps lf none c ⟨argE 0 (capA cap ++ avs), K, top, []⟩ = some (e, s) → resE T s fn.results.toList = some xs →
              CallE P (.mf g cap) avs K.get top (retV xs) s.K.get s.top ∧ ∀ j, j ∉ s.log → s.K.get j = K.get j := by
            intro e s xs he hco hxs
            obtain ⟨a1, a2, a3⟩ := codeE_sound hT hmix (hC) c _ _ _ hco
            refine ⟨⟨a1, fun W I R w v vs hw hd hvs hv => ?_⟩, fun j hj => (a2 j hj).2⟩
            obtain ⟨us, hus, rfl⟩ : ∃ us, All2 (Pt.rel I) cap us ∧ v = .func (.func g) us.toArray #[] := hv
            have hall := (capA_rel (R := R) hus).append hvs
            refine .inl ⟨g, us.toArray, #[], rfl, hfb, ?_⟩
            have hargs : us.toArray ++ vs.toArray ++ #[] = (us ++ vs).toArray := by simp
            rw [hargs]
            refine fr_calls (r := none) (n := 0) (callsIn_of_wp_marks hf hc trivial (wpIn_mono (a3 W I R _ w none rfl (st_argE hall hw (by rw [← hall.length]; exact hle') hbig') hd) ?_))
            rintro e' a' w' ⟨rfl, I', R', k1, k2, k3, k4⟩
            have fin : LeavesInM (fr none) 0 P fn a'.tmps (fun e w' => ∃ u I' R', e = .returned u ∧ Wz W s.K.get I' R' w' ∧ (∀ j, s.top ≤ j → I' j = none) ∧ (∀ j, j < top → I' j = I j) ∧ RExt R R' ∧ (retV xs).rel I' R' u) a'.defers .returning w' := by
              refine leaves_marks _ _ k1.mks k1.wz fun w2 hw2 => ?_
              obtain ⟨v, g1, g2⟩ := resE_results hT (⟨k1.size, (trivial : Mk W (⟨a'.tmps, []⟩ : Act).defers w2), fun t x hx => k1.fr t x hx, hw2⟩ : St fn.ntmps W s.F.get s.K.get I' R' ⟨a'.tmps, []⟩ w2) hxs
              exact ⟨v, g1, v, I', R', rfl, hw2, k2, k3, k4, g2⟩
            rcases he with rfl | rfl
            · exact fin
            · exact fin
          split at h
          · rename_i s hco
            split at h
            · rename_i xs hxs
              simp only [Option.some.injEq] at h
              subst h
              exact key _ _ _ (.inl rfl) hco hxs
            · cases h
          · rename_i s hco
            split at h
            · rename_i xs hxs
              simp only [Option.some.injEq] at h
              subst h
              exact key _ _ _ (.inr rfl) hco hxs
            · cases h
          · cases h
        · cases h
      · cases h
    · cases h
  · cases h
def callO (O : CallFn) (FT : FTab) (T : Tab) (lf : Nat) : Nat → CallFn
  | 0 => O
  | d + 1 => fun c avs K top => match O c avs K top with
    | some r => some r
    | none => callS (callO O FT T lf d) FT T lf c avs K top
theorem callO_sound {P : Program} {O : CallFn} {FT : FTab} {T : Tab} (hF : FtOk P FT) (hT : TabOk P T) (hmix : P.follows .mixedOrders = true) (hO : CallsOk P O) {lf : Nat} : ∀ (d : Nat), CallsOk P (callO O FT T lf d)
  | 0 => hO
  | d + 1 => fun c avs K top r h => by
    unfold callO at h
    split at h
    · rename_i r' hr
      cases h
      exact hO _ _ _ _ _ hr
    · exact callS_sound hF hT hmix (callO_sound hF hT hmix hO d) _ _ _ _ _ h
theorem con_runO {P : Program} {O : CallFn} {FT : FTab} {T : Tab} (hF : FtOk P FT) (hT : TabOk P T) (hmix : P.follows .mixedOrders = true) (hO : CallsOk P O) (lf d : Nat) {g : FuncId} (hfn : fnB P g = true) (h : isT (callO O FT T lf d (.fn g []) [] .e 0) = true) : Con P g [] (fun x K t => x = .val (.bool true) ∧ K = [] ∧ t = 0) := by
  obtain ⟨K, top, log, hr⟩ := isT_spec h
  obtain ⟨⟨h1, h2⟩, _⟩ := callO_sound hF hT hmix hO d _ _ _ _ _ hr
  refine ⟨hfn, fun w vs hvs => ?_⟩
  have hvs0 : vs = [] := by cases vs with
    | nil => rfl
    | cons => exact hvs.elim
  subst hvs0
  have hw : Wz (Wo.of w) (Bt.e : Bt Ob).get (fun _ => none) (fun _ _ _ => none) w := by
    have he : blkOf (Bt.e : Bt Ob).get = fun _ => none := rfl
    refine ⟨?_, fun i o h => (by cases h), fun i j oi oj p q h => (by cases h)⟩
    rw [he]
    exact ⟨fun i b h => (by cases h), fun i j bi bj p q h => (by cases h), fun i b p h => (by cases h), fun f b o u h => (by cases h), fun i b p f o h => (by cases h), fun b o u h => (by cases h), fun b o u h => (by cases h), .refl _, fun _ _ _ _ _ h => h, fun _ h => h.elim⟩
  have := h2 (Wo.of w) (fun _ => none) (fun _ _ _ => none) w (.func (.func g) #[] #[]) [] hw (fun _ _ => rfl) trivial ⟨[], trivial, rfl⟩
  obtain ⟨g', fs', us', hv, hb, hcalls⟩ := this.resolve_right (fun ⟨_, _, _, _, _, hv, _⟩ => by cases hv)
  simp only [Value.func.injEq, Fn.func.injEq] at hv
  obtain ⟨rfl, rfl, rfl⟩ := hv
  rw [Array.empty_append] at hcalls
  rw [show ([] : List Value).toArray ++ #[] = ([] : List Value).toArray by simp] at hcalls
  refine hcalls.mono ?_
  rintro e w' ⟨v, I', R', rfl, k1, k2, k3, k4, k5⟩
  refine ⟨v, .val (.bool true), [], 0, fun _ => none, fun _ _ => none, rfl, ?_, fun _ _ => rfl, (fun p hp => by cases hp), k5, rfl, rfl, rfl⟩
  exact ⟨fun i b h => (by simp [kg] at h), fun i j bi bj p q h => (by simp [kg] at h), fun i b p h => (by simp [kg] at h), fun f b o u h => (by cases h), fun i b p f o h => (by simp [kg] at h), fun b o u h => (by cases h), fun b o u h => (by cases h), k1.wd.below, fun _ _ _ _ _ h => h, fun _ h => h.elim⟩
theorem con_callE {P : Program} {g : FuncId} {avs : List AV} {args : List A0} {res : AV} {K : Nat → Option Ob} {top : Nat} (hl : All2 (lowV (blkOf K)) avs args) (h : Con P g args (fun x K t => x = res ∧ K = [] ∧ t = 0)) (hres : res.ren (top + ·) = res) : CallE P (.fn g []) avs K top res K top := by
  refine ⟨Nat.le_refl _, fun W I R w v vs hw hd hvs hv => ?_⟩
  obtain ⟨hfn, hrun⟩ := con_eff (K0 := blkOf K) (top := top) h hl
  obtain ⟨us, hus, rfl⟩ : ∃ us, All2 (Pt.rel I) [] us ∧ v = .func (.func g) #[] us.toArray := hv
  refine .inl ⟨g, #[], us.toArray, rfl, hfn, ?_⟩
  rw [Array.empty_append]
  refine (hrun (stpB W (blkOf K) I R w) (blkOf K) I R w vs us (wd_step hw.wd) hvs hus (fun i hi => rfl) (fun j h1 h2 => absurd h2 (by first | (simp; done) | omega | (simp; omega)))).mono ?_
  rintro e' w' ⟨u, I', R', rfl, h1, h2, h3, h4, h5⟩
  have hI : ∀ j, I' j = I j := fun j => h3 j (by first | (simp; done) | omega | (simp; omega))
  refine ⟨u, I', R', rfl, ?_, fun j hj => by rw [hI]; exact hd j hj, fun j _ => hI j, h4, hres ▸ h5⟩
  have := hw.onK (kw := []) h2 h4 h1
  exact this
end Go.Proofs.Ytehhmkdghgabaaa.Wx.Y
/-
  The evaluator's oracles: rows of own slices, or read-only ones, decoded.
-/
namespace Go.Proofs.Ytehhmkdghgabaaa.Wx
open Go Go.RowKit
set_option linter.unusedVariables false
namespace Y
def decAll {α : Type} (d : List Ce → Option α) : List (List Ce) → Option (List α)
  | [] => some []
  | r :: rs => match d r, decAll d rs with
    | some x, some xs => some (x :: xs)
    | _, _ => none
theorem decAll_map {α : Type} {d : List Ce → Option α} {en : α → List RT} (hd : ∀ r x, d r = some x → r.map RT.of = (en x).map some) : ∀ {rs : List (List Ce)} {xs : List α}, decAll d rs = some xs → rs.map (List.map RT.of) = (xs.map en).map (List.map some)
  | [], xs, h => by simp only [decAll, Option.some.injEq] at h; subst h; rfl
  | r :: rs, xs, h => by
    simp only [decAll] at h
    split at h
    · rename_i x ys h1 h2
      simp only [Option.some.injEq] at h
      subst h
      simp only [List.map_cons, hd r x h1, decAll_map hd h2]
    · cases h
def rowsD {α : Type} (sz mx : Nat) (d : List Ce → Option α) (K : Nat → Option Ob) : Ce → Option (List α)
  | .v (.slice none 0 0) => some []
  | .osl i q n _ => match K i with
    | some (.b b) => match Nat.beq b.sz sz, decAll d ((b.rows.drop q).take n) with
      | true, some xs => match Nat.beq xs.length n, Nat.ble xs.length mx with
        | true, true => some xs
        | _, _ => none
      | _, _ => none
    | _ => none
  | _ => none
theorem rowsD_low {α : Type} {sz mx : Nat} {d : List Ce → Option α} {en : α → List RT} (hd : ∀ r x, d r = some x → r.map RT.of = (en x).map some) {K : Nat → Option Ob} {c : Ce} {xs : List α} (h : rowsD sz mx d K c = some xs) : lowC (blkOf K) c (.ro false sz (xs.map en)) ∧ xs.length ≤ mx := by
  unfold rowsD at h
  split at h
  · simp only [Option.some.injEq] at h
    subst h
    exact ⟨.inr ⟨sz, rfl⟩, by simp⟩
  · rename_i i q n _
    split at h
    · rename_i b hb
      split at h
      · rename_i ys hsz hys
        split at h
        · rename_i hn hle
          simp only [Option.some.injEq] at h
          subst h
          refine ⟨?_, Nat.le_of_ble_eq_true hle⟩
          have hk : blkOf K i = some b := by unfold blkOf; rw [hb]
          show match blkOf K i with
            | some b => ∃ rows, Ce.ro false sz (ys.map en) = .ro false b.sz rows ∧ rows.length = n ∧ ((b.rows.drop q).take n).map (List.map RT.of) = rows.map (List.map some)
            | none => False
          rw [hk]
          exact ⟨ys.map en, by rw [Nat.eq_of_beq_eq_true hsz], by rw [List.length_map]; exact Nat.eq_of_beq_eq_true hn, decAll_map hd hys⟩
        · cases h
      · cases h
    · cases h
  · cases h
def decI64 : List Ce → Option Int
  | [.v (.int .i64 a)] => some a
  | _ => none
theorem decI64_ok (r : List Ce) (x : Int) (h : decI64 r = some x) : r.map RT.of = [some (RT.v (.int .i64 x))] := by
  unfold decI64 at h
  split at h
  · simp only [Option.some.injEq] at h; subst h; rfl
  · cases h
end Y
end Go.Proofs.Ytehhmkdghgabaaa.Wx
