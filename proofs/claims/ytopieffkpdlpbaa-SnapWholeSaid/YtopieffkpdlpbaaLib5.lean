import Derived.Test.YtopieffkpdlpbaaLib4
import Derived.Shelf.SlSortCmp.WholeK
set_option linter.unusedVariables false
set_option linter.unusedSimpArgs false
namespace Go.Proofs.Ytopieffkpdlpbaa.Wx.Z
open Go Go.RowKit
theorem setCells_mapK (b : Nat) : ∀ (vs : List Value) (o : Nat) (w : World), w.setCells b o vs = Go.Sort.mapBlock w b (fun c => (spl c.toList o vs).toArray)
 | [], o, w => by
  rw [World.setCells]
  exact (Go.Sort.mapBlock_id w b _ (fun c _ _ _ => by simp [spl])).symm
 | v :: r, o, w => by
  rw [World.setCells, setCells_mapK b r (o + 1), Go.Sort.setCell_eq, Go.Sort.mapBlock_mapBlock]
  congr 1
  funext c
  simp [spl]
theorem putRow_setCellsK {w : World} {b : Nat} {cs : Array Value} {ty : TypeId} {fz : Nat × Nat} (hm : w.heap[b]? = some (.cells cs ty fz)) (F : List Value) (hl : F.length ≤ cs.size) : Go.Sort.putRow id w b 0 F.toArray = w.setCells b 0 F := by
 rw [setCells_mapK, Go.Sort.putRow]
 refine Go.Sort.mapBlock_congr w b _ _ (fun c e fr hc => ?_)
 rw [hm] at hc
 cases hc
 apply Array.ext_getElem?
 intro k
 simp only [Go.Sort.putCells, Array.getElem?_mapIdx, List.getElem?_toArray]
 rw [spl_get _ _ _ _ (by simpa using hl)]
 by_cases hk : k < F.length
 ·have hk2 : k < cs.size := by omega
  simp [hk, hk2]
 ·cases hcs : cs[k]? with
  | none => simp [hk, hcs]
  | some y => simp [hk, hcs]
theorem aheadZ {W : Wo} {K : Nat → Option Y.Ob} {I : IM} {R : RM} {w : World} (h : Y.Wz W K I R w) : ∀ n, Y.Wz W K I R (Go.Sort.ahead w n)
 | 0 => h
 | n + 1 => by rw [← Go.Sort.ahead_drew]; exact (aheadZ h n).drew
theorem bel_grown (w : World) (os : Array Obj) : Bel w.heap.size w (Go.Sort.grow w os) :=
 ⟨⟨rfl, rfl, rfl, by simp, fun k hk => Go.Sort.heap_grow_old w os hk⟩, Nat.le_refl _⟩
section
variable {α : Type} {enc : α → List Value} {k : Nat}
theorem flat_getK (hk : ∀ x, (enc x).length = k) : ∀ (zs : List α) (t : Nat), t < zs.length * k → (zs.flatMap enc)[t]? = (zs[t / k]?).bind fun x => (enc x)[t % k]?
 | [], t, h => by simp at h
 | x :: zs, t, h => by
  have k0 : 0 < k := by rcases Nat.eq_zero_or_pos k with e | e; · subst e; simp at h
                        · exact e
  rw [List.flatMap_cons]
  by_cases ht : t < k
  ·rw [List.getElem?_append_left (by rw [hk]; exact ht), Nat.div_eq_of_lt ht, Nat.mod_eq_of_lt ht]; rfl
  ·have e1 : t / k = (t - k) / k + 1 := by rw [Nat.div_eq t k, if_pos ⟨k0, by omega⟩]
   have e2 : t % k = (t - k) % k := Nat.mod_eq_sub_mod (by omega)
   rw [List.getElem?_append_right (by rw [hk]; omega), hk, flat_getK hk zs (t - k) (by rw [List.length_cons, Nat.add_mul, Nat.one_mul] at h; omega), e1, e2, List.getElem?_cons_succ]
theorem flat_lenK (hk : ∀ x, (enc x).length = k) : ∀ (zs : List α), (zs.flatMap enc).length = zs.length * k
 | [] => by simp
 | x :: zs => by rw [List.flatMap_cons, List.length_append, hk, flat_lenK hk zs, List.length_cons, Nat.add_mul, Nat.one_mul, Nat.add_comm]
theorem flatK_eq [Inhabited α] (hk : ∀ x, (enc x).length = k) (zs : List α) : Go.Sort.flatK enc k zs.toArray = (zs.flatMap enc).toArray := by
 refine Go.Sort.ext_get! (by rw [Go.Sort.size_flatK]; simp only [List.size_toArray]; exact (flat_lenK hk zs).symm) fun t ht => ?_
 rw [Go.Sort.size_flatK, List.size_toArray] at ht
 rw [Go.Sort.get_flatK _ _ _ _ (by simpa using ht)]
 have k0 : 0 < k := by rcases Nat.eq_zero_or_pos k with e | e; · subst e; simp at ht
                       · exact e
 have hq : t / k < zs.length := Nat.div_lt_of_lt_mul (by rw [Nat.mul_comm]; exact ht)
 have h1 := flat_getK hk zs t ht
 have h2 : zs[t / k]? = some zs[t / k] := List.getElem?_eq_getElem hq
 have hm : t % k < (enc zs[t / k]).length := by rw [hk]; exact Nat.mod_lt _ k0
 rw [h2] at h1
 simp only [Option.bind_some] at h1
 rw [List.getElem?_eq_getElem hm] at h1
 simp only [getElem!_def, List.getElem?_toArray]
 rw [h1, h2]
 simp only [List.getElem?_eq_getElem hm]
theorem rel_flatK {f : α → List Ce} (hf : ∀ x, f x = (enc x).map Ce.v) {I : IM} {R : RM} : ∀ (zs : List α), All2 (Ce.rel I R) (zs.map f).flatten (zs.flatMap enc)
 | [] => trivial
 | z :: zs => by
  have h1 : ∀ l : List Value, All2 (Ce.rel I R) (l.map Ce.v) l := fun l => by
   induction l with
   | nil => trivial
   | cons v l ih => exact ⟨rfl, ih⟩
  rw [List.map_cons, List.flatten_cons, List.flatMap_cons, hf z]
  exact All2.append (h1 _) (rel_flatK hf zs)
theorem wz_rowK [Inhabited α] {f : α → List Ce} (hk : ∀ x, (enc x).length = k) (hf : ∀ x, f x = (enc x).map Ce.v) {W : Wo} {K : Kr} {I : IM} {R : RM} {w : World} (hw : Y.Wz W (ky K) I R w) {i : Nat} {b : Blk} {p : Loc} (hb : kz K i = some (.b b)) (hp : I i = some p) (hsz : b.sz = k) {zs zs' : List α} {rest : List (List Ce)} (hr : b.rows = zs.map f ++ rest) (hl : zs'.length = zs.length) (n : Nat) (os : Array Obj) :
  Y.Wz W (ky ((i, some (.b ⟨zs'.map f ++ rest, b.sz, b.ty, b.bx⟩)) :: K)) I R (Go.Proofs.sortWorldK enc k w p.b 0 n zs'.toArray os) := by
 have hw1 := aheadZ hw n
 have hbi : Y.blkOf (ky K) i = some b := by unfold Y.blkOf; rw [ky_of hb]; rfl
 obtain ⟨p', hp', hkb⟩ := hw1.wd.blk i b hbi
 rw [hp] at hp'; cases hp'
 obtain ⟨cs, hm, hcs, _⟩ := hkb.mem
 have hfit := hkb.fit
 have hps := hkb.sz
 have hlen : (zs'.flatMap enc).length ≤ cs.size := by
  rw [hcs, hps, hsz, flat_lenK hk]
  rw [hr] at hfit
  simp at hfit
  exact Nat.mul_le_mul_right _ (by omega)
 unfold Go.Proofs.sortWorldK Go.Sort.putRowK
 rw [flatK_eq hk, putRow_setCellsK hm _ hlen]
 have h0 := Wd.lay (q := 0) (src := zs'.map f) (us := zs'.flatMap enc) (Y.wd_step hw1.wd) hbi hp (by rw [hr]; simp; omega) (fun r hr => by
  obtain ⟨z, _, rfl⟩ := List.mem_map.1 hr; rw [hsz, hf, List.length_map, hk]) (by rw [flat_lenK hk, hsz, List.length_map]) (rel_flatK hf zs')
 rw [Nat.zero_mul] at h0
 have h1 := hw1.onK (.refl _) (.refl _) h0
 have e : Wx.lay b.rows 0 (zs'.map f) = zs'.map f ++ rest := by
  rw [hr]; unfold Wx.lay
  simp only [List.take_zero, List.nil_append, List.length_map, Nat.zero_add]
  congr 1
  rw [List.drop_append, List.drop_eq_nil_of_le (by simp; omega)]
  simp [hl]
 rw [e] at h1
 rw [← ky_up] at h1
 exact Y.Wz.grow h1 (bel_grown _ os)
theorem holds_rowK [Inhabited α] {f : α → List Ce} (hk : ∀ x, (enc x).length = k) (hf : ∀ x, f x = (enc x).map Ce.v) {W : Wo} {K : Kr} {I : IM} {R : RM} {w : World} (hw : Y.Wz W (ky K) I R w) {i : Nat} {b : Blk} {p : Loc} (hb : kz K i = some (.b b)) (hp : I i = some p) (hsz : b.sz = k) {zs : List α} {rest : List (List Ce)} (hr : b.rows = zs.map f ++ rest) : Go.Sort.HoldsK enc k w p.b 0 zs.toArray := by
 have hbi : Y.blkOf (ky K) i = some b := by unfold Y.blkOf; rw [ky_of hb]; rfl
 obtain ⟨p', hp', hkb⟩ := hw.wd.blk i b hbi
 rw [hp] at hp'; cases hp'
 obtain ⟨cs, hm, hcs, hc⟩ := hkb.mem
 have hps := hkb.sz
 unfold Go.Sort.HoldsK
 rw [flatK_eq hk]
 intro j hj
 rw [List.size_toArray, flat_lenK hk] at hj
 have k0 : 0 < k := by rcases Nat.eq_zero_or_pos k with e | e; · subst e; simp at hj
                       · exact e
 have hq : j / k < zs.length := Nat.div_lt_of_lt_mul (by rw [Nat.mul_comm]; exact hj)
 have hmod : j % k < (enc zs[j / k]).length := by rw [hk]; exact Nat.mod_lt _ k0
 have h1 : b.rows[j / k]? = some (f zs[j / k]) := by rw [hr, List.getElem?_append_left (by simpa using hq)]; simp [hq]
 have h2 : (f zs[j / k])[j % k]? = some (Ce.v (enc zs[j / k])[j % k]) := by rw [hf, List.getElem?_map, List.getElem?_eq_getElem hmod]; rfl
 obtain ⟨u, hu, hru⟩ := hc _ _ _ _ h1 h2
 have hu2 : u = (enc zs[j / k])[j % k] := hru
 subst hu2
 have hjj : j / k * p.sz + j % k = j := by rw [hps, hsz, Nat.mul_comm]; exact Nat.div_add_mod j k
 rw [hjj] at hu
 have h3 := flat_getK hk zs j hj
 rw [List.getElem?_eq_getElem hq] at h3
 simp only [Option.bind_some, List.getElem?_eq_getElem hmod] at h3
 refine ⟨?_, ?_⟩
 ·unfold World.cell?
  simp only [hm, Nat.zero_add]
  simp only [getElem!_def, List.getElem?_toArray, h3, id]
  simpa using hu
 ·exact frozen_of_row w p.b _ _ _ hm
end
theorem bel_grow {w w' : World} (h : Bel w.heap.size w w') : ∃ q os, w' = Go.Sort.grow (w.drewN q) os := by
 refine ⟨w'.drawn - w.drawn, (w'.heap.toList.drop w.heap.size).toArray, ?_⟩
 have hh : w'.heap = w.heap ++ (w'.heap.toList.drop w.heap.size).toArray := by
  apply Array.ext_getElem?
  intro i
  by_cases hi : i < w.heap.size
  ·rw [h.block i hi, Array.getElem?_append_left hi]
  ·rw [Array.getElem?_append_right (by omega), (List.getElem?_toArray : (w'.heap.toList.drop w.heap.size).toArray[i - w.heap.size]? = _), List.getElem?_drop, show w.heap.size + (i - w.heap.size) = i by omega, Array.getElem?_toList]
 have hd : w'.drawn = w.drawn + (w'.drawn - w.drawn) := by have := h.drawn; omega
 have h1 := h.os
 have h2 := h.tape
 have h3 := h.output
 unfold Go.Sort.grow World.drewN
 cases w'
 simp only at *
 subst h1 h2 h3
 simp only [World.mk.injEq, and_true, true_and]
 exact ⟨hh, hd⟩
theorem con_cmp {P : Program} {g : FuncId} {α : Type} [Inhabited α] {enc : α → List Value} {k : Nat} {cf : α → α → Int} {blk off size : Nat} {w : World} (h : ∀ x y : α, Con P g [.agg ((enc x).map Ce.v), .agg ((enc y).map Ce.v)] (fun rx rK rt => rx = .val (.int .i64 (cf x y)) ∧ rK = [] ∧ rt = 0)) : Go.Proofs.CmpLays P g #[] enc k cf blk off size w := by
 intro m os dk _ x y
 have hr : ∀ (I : IM) (R : RM) (l : List Value), All2 (Ce.rel I R) (l.map Ce.v) l := fun I R l => by
  induction l with
  | nil => trivial
  | cons v l ih => exact ⟨rfl, ih⟩
 rw [Array.append_empty]
 refine Calls.mono ((h x y).run _ [.agg (enc x).toArray, .agg (enc y).toArray] ⟨⟨_, rfl, hr _ _ _⟩, ⟨_, rfl, hr _ _ _⟩, trivial⟩) ?_
 rintro e w' ⟨v, rx, Kc, tc, I, Rf, rfl, hw, _, _, hx, rfl, _, _⟩
 have hv : v = .int .i64 (cf x y) := hx
 subst hv
 exact ⟨rfl, bel_grow hw.below.below⟩
theorem callZ_sortK {P : Program} {m : Nat} {g cl : FuncId} {i n : Nat} {c : Option Nat} {b : Blk} {K : Kr} {top : Nat} {k : AV → Kr → Nat → Prop} {α : Type} [Inhabited α] {enc : α → List Value} {kk : Nat} (hfn : fnB P g = true) (f : α → List Ce) (lt : α → α → Bool) (zs : List α) (rest : List (List Ce)) (hk : ∀ x, (enc x).length = kk) (hf : ∀ x, f x = (enc x).map Ce.v)
  (hb : kz K i = some (.b b)) (hsz : b.sz = kk) (hr : b.rows = zs.map f ++ rest) (hn : n = zs.length)
  (C : ∀ blk cap w, Go.Sort.HoldsK enc kk w blk 0 zs.toArray → blk < w.heap.size → Calls P g #[.slice (some ⟨blk, 0, none⟩) zs.toArray.size cap, .func (.func cl) #[] #[]] w fun e w' => e = .returned (.tuple #[]) ∧ ∃ d' n os, Go.Sort.PermIn 0 zs.toArray.size zs.toArray d' ∧ Go.Sort.SortedIn lt 0 zs.toArray.size d' ∧ w' = Go.Proofs.sortWorldK enc kk w blk 0 n d' os)
  (hkk : ∀ zs' : List α, zs'.Perm zs → zs'.Pairwise (fun x y => lt y x = false) → k (.tup []) ((i, some (.b ⟨zs'.map f ++ rest, b.sz, b.ty, b.bx⟩)) :: K) top) : CallZ P m (.fn g []) [.c (.osl i 0 n c), .c (.fn cl [])] K top k := by
 refine ⟨fun W I R w v vs hw hd hm hvs hv => ?_⟩
 obtain ⟨us, hus, rfl⟩ : ∃ us, All2 (Pt.rel I) [] us ∧ v = .func (.func g) #[] us.toArray := hv
 cases us with
 | cons _ _ => exact hus.elim
 | nil =>
  cases vs with
  | nil => exact hvs.elim
  | cons v1 vs => cases vs with
   | nil => exact hvs.2.elim
   | cons v2 vs => cases vs with
    | cons _ _ => exact hvs.2.2.elim
    | nil =>
     obtain ⟨p, cap, hp, rfl, hc1, hc2, hc3⟩ := (show ∃ p c', I i = some p ∧ v1 = .slice (some ⟨p.b, 0 * p.sz, none⟩) n c' ∧ n ≤ c' ∧ 0 + c' ≤ p.tot ∧ ∀ c0, c = some c0 → c' = c0 from hvs.1)
     obtain ⟨us2, hus2, rfl⟩ : ∃ us, All2 (Pt.rel I) [] us ∧ v2 = .func (.func cl) #[] us.toArray := hvs.2.1
     cases us2 with
     | cons _ _ => exact hus2.elim
     | nil =>
      refine .inl (.inl ⟨g, #[], #[], rfl, hfn, ?_⟩)
      rw [Nat.zero_mul]
      subst hn
      have hbi : Y.blkOf (ky K) i = some b := by unfold Y.blkOf; rw [ky_of hb]; rfl
      refine Calls.mono (C p.b cap w (holds_rowK hk hf hw hb hp hsz hr) (hw.wd.lt hbi hp)) ?_
      rintro e w' ⟨rfl, d', n', os, hperm, hsort, rfl⟩
      obtain ⟨p1, _, p3⟩ := hperm
      have hd2 : d'.toList.toArray = d' := by simp
      have hP : d'.toList.Perm zs := by
       have e1 : d'.extract 0 zs.toArray.size = d' := by rw [← p1]; simp
       have e2 : zs.toArray.extract 0 zs.toArray.size = zs.toArray := by simp
       rw [e1, e2] at p3
       simpa using p3
      have hS : d'.toList.Pairwise (fun x y => lt y x = false) := by
       rw [List.pairwise_iff_getElem]
       intro a bq ha hbq hab
       have := hsort a bq (Nat.zero_le _) hab (by rw [← p1]; simpa using hbq)
       rw [getElem!_pos d' bq (by simpa using hbq), getElem!_pos d' a (by simpa using ha)] at this
       simpa using this
      refine ⟨_, .tup [], _, top, I, R, rfl, ?_, hd, Nat.le_refl _, fun _ _ => rfl, .refl _, ⟨[], rfl, trivial⟩, hkk d'.toList hP hS⟩
      rw [← hd2]
      simpa using wz_rowK hk hf hw hb hp hsz hr (by simpa using p1) n' os
end Go.Proofs.Ytopieffkpdlpbaa.Wx.Z
namespace Go.Proofs.Ytopieffkpdlpbaa.Wx.Z
open Go Go.RowKit Wx
theorem con_fz {P : Program} {g : FuncId} {args : List A0} {xs : List A0} (ys : List A0) {K0 : Wx.Kr} {t0 : Nat} (h : Con P g args (fun x K t => x = retV xs ∧ K = K0 ∧ t = t0)) (hy : All2 (frzA (kg K0)) xs ys) : Con P g args (fun x K t => x = retV ys ∧ K = [] ∧ t = 0) := by
 refine ⟨h.fn, fun w vs hvs => (h.run w vs hvs).mono ?_⟩
 rintro e w' ⟨v, x, Kc, tc, I, Rf, rfl, hw, hI, hK, hx, rfl, rfl, rfl⟩
 obtain ⟨g1, g2⟩ := retV_frz hw hy hx
 have g3 := (fz_all hw).1
 have g4 := (g3.weak (s := ⟨[], [], tc⟩) (K0 := []) (l := []) List.nodup_nil trivial hI).own (fun j b h => by simp [kg] at h)
 refine ⟨v, _, [], 0, _, fzR (Wo.of w) (fun _ => Rf) w' true, rfl, g4, fun j _ => ?_, by simp, fzV_rel g2 g1, rfl, rfl, rfl⟩
 simp only [rn, List.getElem?_nil]
 exact hI _ (Nat.le_add_right _ _)
end Go.Proofs.Ytopieffkpdlpbaa.Wx.Z
namespace Go.Proofs.Ytopieffkpdlpbaa.Wx.Y
open Go Go.RowKit
def callS (C : CallFn) (FT : FTab) (T : Tab) (lf : Nat) : CallFn := fun c avs K top =>
 match c with
  | .yl j => roundE (fun n j c s => codeE (C) T n lf (some j) c s) j avs K top
  | .fn g cap => match ftGet FT g with
   | some fn => match fn.body with
    | some c => match Nat.ble (avs ++ capA cap).length fn.ntmps, Nat.ble (avs ++ capA cap).length big with
     | true, true => match codeE (C) T fn.ntmps lf none c ⟨argE 0 (avs ++ capA cap), K, top, []⟩ with
      | some (.normal, s) => match resE T s fn.results.toList with
       | some xs => some ⟨retV xs, s.K, s.top, s.log⟩
       | none => none
      | some (.ret, s) => match resE T s fn.results.toList with
       | some xs => some ⟨retV xs, s.K, s.top, s.log⟩
       | none => none
      | _ => none
     | _, _ => none
    | none => none
   | none => none
  | .mf g cap => match ftGet FT g with
   | some fn => match fn.body with
    | some c => match Nat.ble (capA cap ++ avs).length fn.ntmps, Nat.ble (capA cap ++ avs).length big with
     | true, true => match codeE (C) T fn.ntmps lf none c ⟨argE 0 (capA cap ++ avs), K, top, []⟩ with
      | some (.normal, s) => match resE T s fn.results.toList with
       | some xs => some ⟨retV xs, s.K, s.top, s.log⟩
       | none => none
      | some (.ret, s) => match resE T s fn.results.toList with
       | some xs => some ⟨retV xs, s.K, s.top, s.log⟩
       | none => none
      | _ => none
     | _, _ => none
    | none => none
   | none => none
  | _ => none
theorem callS_sound {P : Program} {C : CallFn} {FT : FTab} {T : Tab} (hF : FtOk P FT) (hT : TabOk P T) (hmix : P.follows .mixedOrders = true) {lf : Nat} (hC : CallsOk P C) : CallsOk P (callS C FT T lf) := fun c avs K top r h => by
 unfold callS at h
 split at h
 ·rename_i j
  exact round_core (fun n j c s e s' h => codeE_sound hT hmix (hC) c s e s' h) h
 ·rename_i g cap
  split at h
  ·rename_i fn hfn
   obtain ⟨hf, hfb⟩ := hF _ _ hfn
   split at h
   ·rename_i c hc
    split at h
    ·rename_i hle hbig
     have hle' : (avs ++ capA cap).length ≤ fn.ntmps := Nat.le_of_ble_eq_true hle
     have hbig' : (avs ++ capA cap).length ≤ big := Nat.le_of_ble_eq_true hbig
     have key : ∀ (e : Exit) (s : ES) (xs : List A0), (e = .normal ∨ e = .ret) → codeE (C) T fn.ntmps lf none c ⟨argE 0 (avs ++ capA cap), K, top, []⟩ = some (e, s) → resE T s fn.results.toList = some xs →
       CallE P (.fn g cap) avs K.get top (retV xs) s.K.get s.top ∧ ∀ j, j ∉ s.log → s.K.get j = K.get j := by
      intro e s xs he hco hxs
      obtain ⟨a1, a2, a3⟩ := codeE_sound hT hmix (hC) c _ _ _ hco
      refine ⟨⟨a1, fun W I R w v vs hw hd hvs hv => ?_⟩, fun j hj => (a2 j hj).2⟩
      obtain ⟨us, hus, rfl⟩ : ∃ us, All2 (Pt.rel I) cap us ∧ v = .func (.func g) #[] us.toArray := hv
      have hall := hvs.append (capA_rel (R := R) hus)
      refine .inl ⟨g, #[], us.toArray, rfl, hfb, ?_⟩
      rw [Array.empty_append]
      have hargs : vs.toArray ++ us.toArray = (vs ++ us).toArray := by simp
      rw [hargs]
      refine fr_calls (r := none) (n := 0) (callsIn_of_wp_marks hf hc trivial (wpIn_mono (a3 W I R _ w none rfl (st_argE hall hw (by rw [← hall.length]; exact hle') hbig') hd) ?_))
      rintro e' a' w' ⟨rfl, I', R', k1, k2, k3, k4⟩
      have fin : LeavesInM (fr none) 0 P fn a'.tmps (fun e w' => ∃ u I' R', e = .returned u ∧ Wz W s.K.get I' R' w' ∧ (∀ j, s.top ≤ j → I' j = none) ∧ (∀ j, j < top → I' j = I j) ∧ RExt R R' ∧ (retV xs).rel I' R' u) a'.defers .returning w' := by
       refine leaves_marks _ _ k1.mks k1.wz fun w2 hw2 => ?_
       obtain ⟨v, g1, g2⟩ := resE_results hT (⟨k1.size, (trivial : Mk W (⟨a'.tmps, []⟩ : Act).defers w2), fun t x hx => k1.fr t x hx, hw2⟩ : St fn.ntmps W s.F.get s.K.get I' R' ⟨a'.tmps, []⟩ w2) hxs
       exact ⟨v, g1, v, I', R', rfl, hw2, k2, k3, k4, g2⟩
      rcases he with rfl | rfl
      ·exact fin
      ·exact fin
     split at h
     ·rename_i s hco
      split at h
      ·rename_i xs hxs
       simp only [Option.some.injEq] at h
       subst h
       exact key _ _ _ (.inl rfl) hco hxs
      ·cases h
     ·rename_i s hco
      split at h
      ·rename_i xs hxs
       simp only [Option.some.injEq] at h
       subst h
       exact key _ _ _ (.inr rfl) hco hxs
      ·cases h
     ·cases h
    ·cases h
   ·cases h
  ·cases h
 ·rename_i g cap
  split at h
  ·rename_i fn hfn
   obtain ⟨hf, hfb⟩ := hF _ _ hfn
   split at h
   ·rename_i c hc
    split at h
    ·rename_i hle hbig
     have hle' : (capA cap ++ avs).length ≤ fn.ntmps := Nat.le_of_ble_eq_true hle
     have hbig' : (capA cap ++ avs).length ≤ big := Nat.le_of_ble_eq_true hbig
     have key : ∀ (e : Exit) (s : ES) (xs : List A0), (e = .normal ∨ e = .ret) → codeE (C) T fn.ntmps lf none c ⟨argE 0 (capA cap ++ avs), K, top, []⟩ = some (e, s) → resE T s fn.results.toList = some xs →
       CallE P (.mf g cap) avs K.get top (retV xs) s.K.get s.top ∧ ∀ j, j ∉ s.log → s.K.get j = K.get j := by
      intro e s xs he hco hxs
      obtain ⟨a1, a2, a3⟩ := codeE_sound hT hmix (hC) c _ _ _ hco
      refine ⟨⟨a1, fun W I R w v vs hw hd hvs hv => ?_⟩, fun j hj => (a2 j hj).2⟩
      obtain ⟨us, hus, rfl⟩ : ∃ us, All2 (Pt.rel I) cap us ∧ v = .func (.func g) us.toArray #[] := hv
      have hall := (capA_rel (R := R) hus).append hvs
      refine .inl ⟨g, us.toArray, #[], rfl, hfb, ?_⟩
      have hargs : us.toArray ++ vs.toArray ++ #[] = (us ++ vs).toArray := by simp
      rw [hargs]
      refine fr_calls (r := none) (n := 0) (callsIn_of_wp_marks hf hc trivial (wpIn_mono (a3 W I R _ w none rfl (st_argE hall hw (by rw [← hall.length]; exact hle') hbig') hd) ?_))
      rintro e' a' w' ⟨rfl, I', R', k1, k2, k3, k4⟩
      have fin : LeavesInM (fr none) 0 P fn a'.tmps (fun e w' => ∃ u I' R', e = .returned u ∧ Wz W s.K.get I' R' w' ∧ (∀ j, s.top ≤ j → I' j = none) ∧ (∀ j, j < top → I' j = I j) ∧ RExt R R' ∧ (retV xs).rel I' R' u) a'.defers .returning w' := by
       refine leaves_marks _ _ k1.mks k1.wz fun w2 hw2 => ?_
       obtain ⟨v, g1, g2⟩ := resE_results hT (⟨k1.size, (trivial : Mk W (⟨a'.tmps, []⟩ : Act).defers w2), fun t x hx => k1.fr t x hx, hw2⟩ : St fn.ntmps W s.F.get s.K.get I' R' ⟨a'.tmps, []⟩ w2) hxs
       exact ⟨v, g1, v, I', R', rfl, hw2, k2, k3, k4, g2⟩
      rcases he with rfl | rfl
      ·exact fin
      ·exact fin
     split at h
     ·rename_i s hco
      split at h
      ·rename_i xs hxs
       simp only [Option.some.injEq] at h
       subst h
       exact key _ _ _ (.inl rfl) hco hxs
      ·cases h
     ·rename_i s hco
      split at h
      ·rename_i xs hxs
       simp only [Option.some.injEq] at h
       subst h
       exact key _ _ _ (.inr rfl) hco hxs
      ·cases h
     ·cases h
    ·cases h
   ·cases h
  ·cases h
 ·cases h
def callO (O : CallFn) (FT : FTab) (T : Tab) (lf : Nat) : Nat → CallFn
 | 0 => O
 | d + 1 => fun c avs K top => match O c avs K top with
  | some r => some r
  | none => callS (callO O FT T lf d) FT T lf c avs K top
theorem callO_sound {P : Program} {O : CallFn} {FT : FTab} {T : Tab} (hF : FtOk P FT) (hT : TabOk P T) (hmix : P.follows .mixedOrders = true) (hO : CallsOk P O) {lf : Nat} : ∀ (d : Nat), CallsOk P (callO O FT T lf d)
 | 0 => hO
 | d + 1 => fun c avs K top r h => by
  unfold callO at h
  split at h
  ·rename_i r' hr
   cases h
   exact hO _ _ _ _ _ hr
  ·exact callS_sound hF hT hmix (callO_sound hF hT hmix hO d) _ _ _ _ _ h
theorem con_runO {P : Program} {O : CallFn} {FT : FTab} {T : Tab} (hF : FtOk P FT) (hT : TabOk P T) (hmix : P.follows .mixedOrders = true) (hO : CallsOk P O) (lf d : Nat) {g : FuncId} (hfn : fnB P g = true) (h : isT (callO O FT T lf d (.fn g []) [] .e 0) = true) : Con P g [] (fun x K t => x = .val (.bool true) ∧ K = [] ∧ t = 0) := by
 obtain ⟨K, top, log, hr⟩ := isT_spec h
 obtain ⟨⟨h1, h2⟩, _⟩ := callO_sound hF hT hmix hO d _ _ _ _ _ hr
 refine ⟨hfn, fun w vs hvs => ?_⟩
 have hvs0 : vs = [] := by cases vs with
  | nil => rfl
  | cons => exact hvs.elim
 subst hvs0
 have hw : Wz (Wo.of w) (Bt.e : Bt Ob).get (fun _ => none) (fun _ _ _ => none) w := by
  have he : blkOf (Bt.e : Bt Ob).get = fun _ => none := rfl
  refine ⟨?_, fun i o h => (by cases h), fun i j oi oj p q h => (by cases h)⟩
  rw [he]
  exact ⟨fun i b h => (by cases h), fun i j bi bj p q h => (by cases h), fun i b p h => (by cases h), fun f b o u h => (by cases h), fun i b p f o h => (by cases h), fun b o u h => (by cases h), fun b o u h => (by cases h), .refl _, fun _ _ _ _ _ h => h, fun _ h => h.elim⟩
 have := h2 (Wo.of w) (fun _ => none) (fun _ _ _ => none) w (.func (.func g) #[] #[]) [] hw (fun _ _ => rfl) trivial ⟨[], trivial, rfl⟩
 obtain ⟨g', fs', us', hv, hb, hcalls⟩ := this.resolve_right (fun ⟨_, _, _, _, _, hv, _⟩ => by cases hv)
 simp only [Value.func.injEq, Fn.func.injEq] at hv
 obtain ⟨rfl, rfl, rfl⟩ := hv
 rw [Array.empty_append] at hcalls
 rw [show ([] : List Value).toArray ++ #[] = ([] : List Value).toArray by simp] at hcalls
 refine hcalls.mono ?_
 rintro e w' ⟨v, I', R', rfl, k1, k2, k3, k4, k5⟩
 refine ⟨v, .val (.bool true), [], 0, fun _ => none, fun _ _ => none, rfl, ?_, fun _ _ => rfl, (fun p hp => by cases hp), k5, rfl, rfl, rfl⟩
 exact ⟨fun i b h => (by simp [kg] at h), fun i j bi bj p q h => (by simp [kg] at h), fun i b p h => (by simp [kg] at h), fun f b o u h => (by cases h), fun i b p f o h => (by simp [kg] at h), fun b o u h => (by cases h), fun b o u h => (by cases h), k1.wd.below, fun _ _ _ _ _ h => h, fun _ h => h.elim⟩
theorem con_callE {P : Program} {g : FuncId} {avs : List AV} {args : List A0} {res : AV} {K : Nat → Option Ob} {top : Nat} (hl : All2 (lowV (blkOf K)) avs args) (h : Con P g args (fun x K t => x = res ∧ K = [] ∧ t = 0)) (hres : res.ren (top + ·) = res) : CallE P (.fn g []) avs K top res K top := by
 refine ⟨Nat.le_refl _, fun W I R w v vs hw hd hvs hv => ?_⟩
 obtain ⟨hfn, hrun⟩ := con_eff (K0 := blkOf K) (top := top) h hl
 obtain ⟨us, hus, rfl⟩ : ∃ us, All2 (Pt.rel I) [] us ∧ v = .func (.func g) #[] us.toArray := hv
 refine .inl ⟨g, #[], us.toArray, rfl, hfn, ?_⟩
 rw [Array.empty_append]
 refine (hrun (stpB W (blkOf K) I R w) (blkOf K) I R w vs us (wd_step hw.wd) hvs hus (fun i hi => rfl) (fun j h1 h2 => absurd h2 (by first | (simp; done) | omega | (simp; omega)))).mono ?_
 rintro e' w' ⟨u, I', R', rfl, h1, h2, h3, h4, h5⟩
 have hI : ∀ j, I' j = I j := fun j => h3 j (by first | (simp; done) | omega | (simp; omega))
 refine ⟨u, I', R', rfl, ?_, fun j hj => by rw [hI]; exact hd j hj, fun j _ => hI j, h4, hres ▸ h5⟩
 have := hw.onK (kw := []) h2 h4 h1
 exact this
end Go.Proofs.Ytopieffkpdlpbaa.Wx.Y
namespace Go.Proofs.Ytopieffkpdlpbaa.Wx
open Go Go.RowKit
namespace Y
def decAll {α : Type} (d : List Ce → Option α) : List (List Ce) → Option (List α)
 | [] => some []
 | r :: rs => match d r, decAll d rs with
  | some x, some xs => some (x :: xs)
  | _, _ => none
theorem decAll_map {α : Type} {d : List Ce → Option α} {en : α → List RT} (hd : ∀ r x, d r = some x → r.map RT.of = (en x).map some) : ∀ {rs : List (List Ce)} {xs : List α}, decAll d rs = some xs → rs.map (List.map RT.of) = (xs.map en).map (List.map some)
 | [], xs, h => by simp only [decAll, Option.some.injEq] at h; subst h; rfl
 | r :: rs, xs, h => by
  simp only [decAll] at h
  split at h
  ·rename_i x ys h1 h2
   simp only [Option.some.injEq] at h
   subst h
   simp only [List.map_cons, hd r x h1, decAll_map hd h2]
  ·cases h
def rowsD {α : Type} (sz mx : Nat) (d : List Ce → Option α) (K : Nat → Option Ob) : Ce → Option (List α)
 | .v (.slice none 0 0) => some []
 | .osl i q n _ => match K i with
  | some (.b b) => match Nat.beq b.sz sz, decAll d ((b.rows.drop q).take n) with
   | true, some xs => match Nat.beq xs.length n, Nat.ble xs.length mx with
    | true, true => some xs
    | _, _ => none
   | _, _ => none
  | _ => none
 | _ => none
theorem rowsD_low {α : Type} {sz mx : Nat} {d : List Ce → Option α} {en : α → List RT} (hd : ∀ r x, d r = some x → r.map RT.of = (en x).map some) {K : Nat → Option Ob} {c : Ce} {xs : List α} (h : rowsD sz mx d K c = some xs) : lowC (blkOf K) c (.ro false sz (xs.map en)) ∧ xs.length ≤ mx := by
 unfold rowsD at h
 split at h
 ·simp only [Option.some.injEq] at h
  subst h
  exact ⟨.inr ⟨sz, rfl⟩, by simp⟩
 ·rename_i i q n _
  split at h
  ·rename_i b hb
   split at h
   ·rename_i ys hsz hys
    split at h
    ·rename_i hn hle
     simp only [Option.some.injEq] at h
     subst h
     refine ⟨?_, Nat.le_of_ble_eq_true hle⟩
     have hk : blkOf K i = some b := by unfold blkOf; rw [hb]
     show match blkOf K i with
      | some b => ∃ rows, Ce.ro false sz (ys.map en) = .ro false b.sz rows ∧ rows.length = n ∧ ((b.rows.drop q).take n).map (List.map RT.of) = rows.map (List.map some)
      | none => False
     rw [hk]
     exact ⟨ys.map en, by rw [Nat.eq_of_beq_eq_true hsz], by rw [List.length_map]; exact Nat.eq_of_beq_eq_true hn, decAll_map hd hys⟩
    ·cases h
   ·cases h
  ·cases h
 ·cases h
end Y
end Go.Proofs.Ytopieffkpdlpbaa.Wx
