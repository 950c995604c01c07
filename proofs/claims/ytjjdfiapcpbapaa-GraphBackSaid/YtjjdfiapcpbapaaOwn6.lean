import Derived.Shelf.Sort.Plain
import Derived.Ground.Names2Prog
import Derived.Shelf.Slices.CompactI
import Derived.Test.YtjjdfiapcpbapaaProg
import Derived.Test.YtjjdfiapcpbapaaLib3
import Derived.Test.YtjjdfiapcpbapaaLib5
import Derived.Test.YtjjdfiapcpbapaaLib4
/-
  The library's contracts for slices.Sort and slices.Compact at rows of integers, laid at this program.
-/
namespace Go.Proofs
open Go.Shelf
def Try.lays189_ren : Go.Shelf.Ren := ⟨fun | 189 => 29 | 125 => 50 | 257 => 49 | 128 => 70 | 129 => 71 | 294 => 61 | 295 => 62 | 296 => 63 | 297 => 64 | 298 => 65 | 299 => 66 | 216 => 67 | 300 => 68 | 301 => 69 | 328 => 75 | 329 => 76 | 330 => 77 | 331 => 78 | 332 => 79 | 215 => 80 | 343 => 84 | n => n, fun | 28 => 32 | 3 => 3 | 46 => 52 | 0 => 0 | 51 => 99 | 53 => 66 | 4 => 4 | 183 => 92 | 182 => 91 | 131 => 96 | 5 => 5 | 9 => 9 | 218 => 104 | 222 => 107 | 228 => 112 | 229 => 113 | n => n, fun | n => n⟩
theorem Try.lays189 : Go.Proofs.Lays.n189 Try.prog Try.lays189_ren := {
  mixed := by kernel_rfl
  f125 := Try.func50.trans (congrArg some (by kernel_rfl))
  f128 := Try.func70.trans (congrArg some (by kernel_rfl))
  f129 := Try.func71.trans (congrArg some (by kernel_rfl))
  f189 := Try.func29.trans (congrArg some (by kernel_rfl))
  f215 := Try.func80.trans (congrArg some (by kernel_rfl))
  f216 := Try.func67.trans (congrArg some (by kernel_rfl))
  f257 := Try.func49.trans (congrArg some (by kernel_rfl))
  f294 := Try.func61.trans (congrArg some (by kernel_rfl))
  f295 := Try.func62.trans (congrArg some (by kernel_rfl))
  f296 := Try.func63.trans (congrArg some (by kernel_rfl))
  f297 := Try.func64.trans (congrArg some (by kernel_rfl))
  f298 := Try.func65.trans (congrArg some (by kernel_rfl))
  f299 := Try.func66.trans (congrArg some (by kernel_rfl))
  f300 := Try.func68.trans (congrArg some (by kernel_rfl))
  f301 := Try.func69.trans (congrArg some (by kernel_rfl))
  f328 := Try.func75.trans (congrArg some (by kernel_rfl))
  f329 := Try.func76.trans (congrArg some (by kernel_rfl))
  f330 := Try.func77.trans (congrArg some (by kernel_rfl))
  f331 := Try.func78.trans (congrArg some (by kernel_rfl))
  f332 := Try.func79.trans (congrArg some (by kernel_rfl))
  f343 := Try.func84.trans (congrArg some (by kernel_rfl))
  t0 := Try.underlying0
  a0 := Try.isAgg0
  z0 := Try.sizeOf0
  v0 := Try.zeroValue0
  t3 := Try.underlying3
  a3 := Try.isAgg3
  z3 := Try.sizeOf3
  v3 := Try.zeroValue3
  t4 := Try.underlying4
  a4 := Try.isAgg4
  z4 := Try.sizeOf4
  v4 := Try.zeroValue4
  t5 := Try.underlying5
  a5 := Try.isAgg5
  z5 := Try.sizeOf5
  v5 := Try.zeroValue5
  t9 := Try.underlying9
  a9 := Try.isAgg9
  z9 := Try.sizeOf9
  v9 := Try.zeroValue9
  t28 := Try.underlying32
  a28 := Try.isAgg32
  z28 := Try.sizeOf32
  v28 := Try.zeroValue32
  t46 := Try.underlying52
  a46 := Try.isAgg52
  z46 := Try.sizeOf52
  v46 := Try.zeroValue52
  t51 := Try.underlying99
  a51 := Try.isAgg99
  z51 := Try.sizeOf99
  v51 := Try.zeroValue99
  t53 := Try.underlying66
  a53 := Try.isAgg66
  z53 := Try.sizeOf66
  v53 := Try.zeroValue66
  t131 := Try.underlying96
  a131 := Try.isAgg96
  z131 := Try.sizeOf96
  v131 := Try.zeroValue96
  t182 := Try.underlying91
  a182 := Try.isAgg91
  z182 := Try.sizeOf91
  v182 := Try.zeroValue91
  t183 := Try.underlying92
  a183 := Try.isAgg92
  z183 := Try.sizeOf92
  v183 := Try.zeroValue92
  t218 := Try.underlying104
  a218 := Try.isAgg104
  z218 := Try.sizeOf104
  v218 := Try.zeroValue104
  t222 := Try.underlying107
  a222 := Try.isAgg107
  z222 := Try.sizeOf107
  v222 := Try.zeroValue107
  t228 := Try.underlying112
  a228 := Try.isAgg112
  z228 := Try.sizeOf112
  v228 := Try.zeroValue112
  t229 := Try.underlying113
  a229 := Try.isAgg113
  z229 := Try.sizeOf113
  v229 := Try.zeroValue113 }
open Go.Sort Go.RowKit in
theorem Try.slices_Sort_int (blk off cap : Nat) (zs : List Int) (w : World) (hH : Holds (Value.int .i64) w blk off zs.toArray) (hblk : blk < w.heap.size) (hsz : zs.length < 4611686018427387904) :
    Calls Try.prog 29 #[.slice (some ⟨blk, off, none⟩) zs.length cap] w fun e w' =>
      e = .returned (.tuple #[]) ∧ ∃ n os, w' = grow (putRow (Value.int .i64) (Sort.ahead w n) blk off (zs.mergeSort fun x y => decide (x ≤ y)).toArray) os := Any.slices_Sort_int Try.lays189 blk off cap zs w hH hblk hsz
def Try.laysNm220_ren : Go.Shelf.Ren := ⟨fun | 20 => 73 | n => n, fun | 22 => 32 | 3 => 3 | 4 => 4 | 0 => 0 | n => n, fun | n => n⟩
theorem Try.laysNm220 : Go.Proofs.Lays2.n20 Try.prog Try.laysNm220_ren := {
  mixed := by kernel_rfl
  f20 := Try.func73.trans (congrArg some (by kernel_rfl))
  t0 := Try.underlying0
  a0 := Try.isAgg0
  z0 := Try.sizeOf0
  v0 := Try.zeroValue0
  t3 := Try.underlying3
  a3 := Try.isAgg3
  z3 := Try.sizeOf3
  v3 := Try.zeroValue3
  t4 := Try.underlying4
  a4 := Try.isAgg4
  z4 := Try.sizeOf4
  v4 := Try.zeroValue4
  t22 := Try.underlying32
  a22 := Try.isAgg32
  z22 := Try.sizeOf32
  v22 := Try.zeroValue32
  i3 := by kernel_rfl }
open Go.RowKit Go.Lib Go.Sort in
theorem Try.slices_Compact_int (blk off cap : Nat) (zs : List Int) (w : World) (hH : Holds (Value.int .i64) w blk off zs.toArray) (hsz : zs.length ≤ 9223372036854775807) (hcap : zs.length ≤ cap) :
    Calls Try.prog 73 #[.slice (some ⟨blk, off, none⟩) zs.length cap] w fun e w' => e = .returned (.slice (some ⟨blk, off, none⟩) (Lib.compact zs).length cap) ∧ ∃ q, w' = putRow (Value.int .i64) (Sort.ahead w q) blk off (Lib.compact zs ++ List.replicate (zs.length - (Lib.compact zs).length) 0).toArray := Any.slices_Compact_int Try.laysNm220 blk off cap zs w hH hsz hcap
end Go.Proofs
namespace Go.Proofs.Ytjjdfiapcpbapaa
open Go Go.RowKit Wx
set_option linter.unusedVariables false
set_option linter.unusedSimpArgs false
set_option maxHeartbeats 4000000
/-- Rising, each once, and just what stands in l. -/
def IsNorm (out l : List Int) : Prop := out.Pairwise (· < ·) ∧ ∀ x, x ∈ out ↔ x ∈ l
theorem norm_uniq : ∀ {a b : List Int}, a.Pairwise (· < ·) → b.Pairwise (· < ·) → (∀ x, x ∈ a ↔ x ∈ b) → a = b
  | [], [], _, _, _ => rfl
  | [], y :: b, _, _, h => absurd ((h y).2 (by simp)) (by simp)
  | x :: a, [], _, _, h => absurd ((h x).1 (by simp)) (by simp)
  | x :: a, y :: b, ha, hb, h => by
    rw [List.pairwise_cons] at ha hb
    have e : x = y := by
      have h1 := (h x).1 (by simp)
      have h2 := (h y).2 (by simp)
      rcases List.mem_cons.1 h1 with h1 | h1
      · exact h1
      · rcases List.mem_cons.1 h2 with h2 | h2
        · exact h2.symm
        · have g1 := hb.1 x h1
          have g2 := ha.1 y h2
          omega
    subst e
    congr 1
    refine norm_uniq ha.2 hb.2 fun z => ⟨fun hz => ?_, fun hz => ?_⟩
    · have h1 := (h z).1 (by simp [hz])
      rcases List.mem_cons.1 h1 with h1 | h1
      · have := ha.1 z hz; omega
      · exact h1
    · have h1 := (h z).2 (by simp [hz])
      rcases List.mem_cons.1 h1 with h1 | h1
      · have := hb.1 z hz; omega
      · exact h1
theorem IsNorm.uniq {a b l m : List Int} (ha : IsNorm a l) (hb : IsNorm b m) (h : ∀ x, x ∈ l ↔ x ∈ m) : a = b := norm_uniq ha.1 hb.1 fun x => (ha.2 x).trans ((h x).trans (hb.2 x).symm)
/-- The library's way: sorted, then each run once. -/
def joinR (l : List Int) : List Int := Go.Lib.compact (l.mergeSort fun x y => decide (x ≤ y))
theorem compactUpTo_norm (d : Array Int) (hs : ∀ i j, i ≤ j → j < d.size → d[i]! ≤ d[j]!) : ∀ m, m ≤ d.size → (Go.Lib.compactUpTo d m).Pairwise (· < ·) ∧ (∀ x, x ∈ Go.Lib.compactUpTo d m ↔ ∃ j, j < m ∧ d[j]! = x)
  | 0, _ => by simp [Go.Lib.compactUpTo]
  | m + 1, hm => by
    obtain ⟨h1, h2⟩ := compactUpTo_norm d hs m (by omega)
    rw [Go.Lib.compactUpTo_succ]
    by_cases hk : Go.Lib.keeps d m = true
    · rw [if_pos hk]
      refine ⟨List.pairwise_append.2 ⟨h1, by simp, fun a ha b hb => ?_⟩, fun x => ?_⟩
      · obtain ⟨j, hj, rfl⟩ := (h2 a).1 ha
        have hb' : b = d[m]! := by simpa using hb
        subst hb'
        have hm0 : d[m]! ≠ d[m - 1]! := by
          unfold Go.Lib.keeps at hk
          have := of_decide_eq_true hk
          omega
        have g1 := hs j (m - 1) (by omega) (by omega)
        have g2 := hs (m - 1) m (by omega) (by omega)
        omega
      · rw [List.mem_append, h2]
        constructor
        · rintro (⟨j, hj, rfl⟩ | h)
          · exact ⟨j, by omega, rfl⟩
          · exact ⟨m, by omega, (List.mem_singleton.1 h).symm⟩
        · rintro ⟨j, hj, rfl⟩
          by_cases e : j = m
          · subst e; right; simp
          · left; exact ⟨j, by omega, rfl⟩
    · rw [if_neg hk, List.append_nil]
      refine ⟨h1, fun x => ?_⟩
      rw [h2]
      constructor
      · rintro ⟨j, hj, rfl⟩; exact ⟨j, by omega, rfl⟩
      · rintro ⟨j, hj, rfl⟩
        by_cases e : j = m
        · subst e
          have hk' : ¬ (j = 0 ∨ d[j]! ≠ d[j - 1]!) := by
            intro h; exact hk (decide_eq_true h)
          refine ⟨j - 1, by omega, ?_⟩
          by_cases hq : d[j]! = d[j - 1]!
          · exact hq.symm
          · exact absurd (.inr hq) hk'
        · exact ⟨j, by omega, rfl⟩
theorem joinR_norm (l : List Int) : IsNorm (joinR l) l := by
  have hso : (l.mergeSort fun x y => decide (x ≤ y)).Pairwise (fun x y : Int => x ≤ y) := by
    have := List.pairwise_mergeSort (le := fun x y : Int => decide (x ≤ y)) (fun a b c h1 h2 => by simp at *; omega) (fun a b => by simp; omega) l
    exact this.imp fun h => by simpa using h
  have hs : ∀ i j, i ≤ j → j < (l.mergeSort fun x y => decide (x ≤ y)).toArray.size → (l.mergeSort fun x y => decide (x ≤ y)).toArray[i]! ≤ (l.mergeSort fun x y => decide (x ≤ y)).toArray[j]! := by
    intro i j hij hj
    rw [getElem!_pos _ i (by omega), getElem!_pos _ j hj]
    by_cases e : i = j
    · subst e; exact Int.le_refl _
    · have := List.pairwise_iff_getElem.1 hso i j (by simp at hj ⊢; omega) (by simpa using hj) (by omega)
      simpa using this
  obtain ⟨h1, h2⟩ := compactUpTo_norm _ hs (l.mergeSort fun x y => decide (x ≤ y)).toArray.size (Nat.le_refl _)
  refine ⟨by simpa [joinR, Go.Lib.compact] using h1, fun x => ?_⟩
  have h3 := h2 x
  have e : joinR l = Go.Lib.compactUpTo (l.mergeSort fun x y => decide (x ≤ y)).toArray (l.mergeSort fun x y => decide (x ≤ y)).toArray.size := by simp [joinR, Go.Lib.compact]
  rw [e, h3]
  constructor
  · rintro ⟨j, hj, rfl⟩
    rw [getElem!_pos _ j hj]
    have : (l.mergeSort fun x y => decide (x ≤ y))[j]'(by simpa using hj) ∈ l.mergeSort fun x y => decide (x ≤ y) := List.getElem_mem _
    exact (List.mem_mergeSort).1 (by simpa only [List.getElem_toArray] using this)
  · intro hx
    have hx' : x ∈ l.mergeSort fun x y => decide (x ≤ y) := by simpa using hx
    obtain ⟨j, hj, rfl⟩ := List.getElem_of_mem hx'
    refine ⟨j, by simpa using hj, ?_⟩
    rw [getElem!_pos _ j (by simpa using hj)]
    simp
/-- A number more among rising ones, as the document has it: what stands, and whether it has come. -/
def withS (n : Int) (s : List Int × Bool) (x : Int) : List Int × Bool :=
  ((if s.2 = false ∧ n ≤ x then s.1 ++ [n] else s.1) ++ (if x = n then [] else [x]), s.2 || decide (n ≤ x))
def withF (n : Int) (l : List Int) : List Int × Bool := l.foldl (withS n) ([], false)
def withR (l : List Int) (n : Int) : List Int := let s := withF n l; if s.2 then s.1 else s.1 ++ [n]
theorem withF_snoc (n : Int) (l : List Int) (x : Int) : withF n (l ++ [x]) = withS n (withF n l) x := by unfold withF; rw [List.foldl_append]; rfl
theorem withF_norm (n : Int) : ∀ (l r : List Int), (l ++ r).Pairwise (· < ·) → (withF n l).1.Pairwise (· < ·) ∧ ((withF n l).2 = true ↔ ∃ x ∈ l, n ≤ x) ∧ (∀ x, x ∈ (withF n l).1 ↔ (x ∈ l ∧ x ≠ n) ∨ (x = n ∧ (withF n l).2 = true)) := by
  intro l0
  obtain ⟨l1, rfl⟩ : ∃ m : List Int, l0 = m.reverse := ⟨l0.reverse, by simp⟩
  induction l1 with
  | nil => intro r _; simp [withF]
  | cons x m ih =>
    intro r hp
    rw [List.reverse_cons] at hp ⊢
    generalize m.reverse = l at *
    rw [List.append_assoc] at hp
    obtain ⟨h1, h2, h3⟩ := ih ([x] ++ r) hp
    have hlx : ∀ y ∈ l, y < x := fun y hy => (List.pairwise_append.1 hp).2.2 y hy x (by simp)
    rw [withF_snoc]
    generalize withF n l = s at *
    obtain ⟨o, d⟩ := s
    simp only at h1 h2 h3
    unfold withS
    simp only
    by_cases hn : n ≤ x
    · cases d with
      | false =>
        have hno : ∀ y ∈ l, ¬ n ≤ y := fun y hy hny => by have := h2.2 ⟨y, hy, hny⟩; simp at this
        have ho : ∀ y, y ∈ o ↔ y ∈ l := fun y => by
          rw [h3]
          constructor
          · rintro (h | h)
            · exact h.1
            · simp at h
          · intro h; refine .inl ⟨h, ?_⟩; have := hno y h; omega
        refine ⟨?_, by simp [hn], ?_⟩
        · simp only [hn, and_self, if_true]
          rw [List.append_assoc]
          refine List.pairwise_append.2 ⟨h1, ?_, ?_⟩
          · by_cases e : x = n
            · simp [e]
            · simp [e]; omega
          · intro a ha b hb
            have hal := (ho a).1 ha
            have g1 := hno a hal
            have g2 := hlx a hal
            by_cases e : x = n
            · simp [e] at hb; omega
            · simp [e] at hb; omega
        · intro y
          by_cases e : x = n
          · subst e
            simp only [hn, and_self, if_true, List.append_nil, List.mem_append, List.mem_singleton, ho]
            constructor
            · rintro (h | h)
              · left; exact ⟨.inl h, by have := hlx y h; omega⟩
              · right; simp [h]
            · rintro (⟨h | h, h4⟩ | h)
              · exact .inl h
              · exact absurd h h4
              · exact .inr h.1
          · simp only [hn, and_self, if_true, if_neg e, List.mem_append, List.mem_singleton, ho]
            constructor
            · rintro ((h | h) | h)
              · left; exact ⟨.inl h, by have := hno y h; omega⟩
              · right; simp [h]
              · left; subst h; exact ⟨.inr rfl, e⟩
            · rintro (⟨h | h, h4⟩ | h)
              · exact .inl (.inl h)
              · exact .inr h
              · exact .inl (.inr h.1)
      | true =>
        obtain ⟨z, hz, hnz⟩ := h2.1 rfl
        have hxn : x ≠ n := by have := hlx z hz; omega
        refine ⟨?_, by simp [hn], ?_⟩
        · simp only [Bool.true_eq_false, false_and, if_false, if_neg hxn]
          refine List.pairwise_append.2 ⟨h1, by simp, fun a ha b hb => ?_⟩
          have hb' : b = x := by simpa using hb
          subst hb'
          rcases (h3 a).1 ha with h | h
          · exact hlx a h.1
          · have := hlx z hz; omega
        · intro y
          simp only [Bool.true_eq_false, false_and, if_false, if_neg hxn, List.mem_append, List.mem_singleton, h3]
          constructor
          · rintro ((h | h) | h)
            · exact .inl ⟨.inl h.1, h.2⟩
            · right; simp [h.1]
            · subst h; exact .inl ⟨.inr rfl, hxn⟩
          · rintro (⟨h | h, h4⟩ | h)
            · exact .inl (.inl ⟨h, h4⟩)
            · exact .inr h
            · exact .inl (.inr ⟨h.1, trivial⟩)
    · have hd : d = false := by
        cases d with
        | false => rfl
        | true => obtain ⟨z, hz, hnz⟩ := h2.1 rfl; have := hlx z hz; omega
      subst hd
      have hxn : x ≠ n := by omega
      have hno : ∀ y ∈ l, ¬ n ≤ y := fun y hy hny => by have := h2.2 ⟨y, hy, hny⟩; simp at this
      refine ⟨?_, ?_, ?_⟩
      · simp only [hn, and_false, if_false, if_neg hxn]
        refine List.pairwise_append.2 ⟨h1, by simp, fun a ha b hb => ?_⟩
        have hb' : b = x := by simpa using hb
        subst hb'
        rcases (h3 a).1 ha with h | h
        · exact hlx a h.1
        · simp at h
      · simp only [hn, decide_false, Bool.or_false, Bool.false_eq_true, List.mem_append, List.mem_singleton, false_iff]
        rintro ⟨y, hy | hy, hny⟩
        · exact hno y hy hny
        · subst hy; exact hn hny
      · intro y
        simp only [hn, and_false, if_false, if_neg hxn, List.mem_append, List.mem_singleton, h3, decide_false, Bool.or_false, Bool.false_eq_true, or_false]
        constructor
        · rintro (h | h)
          · exact ⟨.inl h.1, h.2⟩
          · subst h; exact ⟨.inr rfl, hxn⟩
        · rintro ⟨h | h, h4⟩
          · exact .inl ⟨h, h4⟩
          · exact .inr h
theorem withR_norm {l : List Int} (h : l.Pairwise (· < ·)) (n : Int) : IsNorm (withR l n) (l ++ [n]) := by
  obtain ⟨h1, h2, h3⟩ := withF_norm n l [] (by simpa using h)
  unfold withR
  generalize withF n l = s at *
  obtain ⟨o, d⟩ := s
  cases d with
  | true =>
    simp only [if_true]
    refine ⟨h1, fun x => ?_⟩
    rw [h3]
    simp only [and_true, List.mem_append, List.mem_singleton]
    constructor
    · rintro (h | h)
      · exact .inl h.1
      · exact .inr h
    · rintro (h | h)
      · by_cases e : x = n
        · exact .inr e
        · exact .inl ⟨h, e⟩
      · exact .inr h
  | false =>
    have hno : ∀ y ∈ l, ¬ n ≤ y := fun y hy hny => by have := h2.2 ⟨y, hy, hny⟩; simp at this
    simp only [Bool.false_eq_true, if_false]
    refine ⟨List.pairwise_append.2 ⟨h1, by simp, fun a ha b hb => ?_⟩, fun x => ?_⟩
    · have hb' : b = n := by simpa using hb
      subst hb'
      rcases (h3 a).1 ha with h | h
      · have := hno a h.1; omega
      · simp at h
    · simp only [List.mem_append, List.mem_singleton, h3, Bool.false_eq_true, and_false, or_false]
      constructor
      · rintro (h | h)
        · exact .inl h.1
        · exact .inr h
      · rintro (h | h)
        · left; exact ⟨h, by have := hno x h; omega⟩
        · exact .inr h
theorem foldR_norm : ∀ (s : List Int) {acc : List Int}, acc.Pairwise (· < ·) → IsNorm (s.foldl withR acc) (acc ++ s)
  | [], acc, h => ⟨h, fun x => by simp⟩
  | n :: s, acc, h => by
    have h1 := withR_norm h n
    have h2 := foldR_norm s h1.1
    refine ⟨h2.1, fun x => ?_⟩
    rw [List.foldl_cons, h2.2]
    simp only [List.mem_append, h1.2, List.mem_cons, List.not_mem_nil, or_false]
    constructor
    · rintro ((h | h) | h)
      · exact .inl h
      · exact .inr (.inl h)
      · exact .inr (.inr h)
    · rintro (h | h | h)
      · exact .inl (.inl h)
      · exact .inl (.inr h)
      · exact .inr h
theorem joinR_fold {acc : List Int} (h : acc.Pairwise (· < ·)) (s : List Int) : joinR (acc ++ s) = s.foldl withR acc := (joinR_norm _).uniq (foldR_norm s h) fun _ => Iff.rfl
/-- Rising numbers below a limit are not many. -/
theorem rise_few : ∀ (l : List Int) (a n : Int), l.Pairwise (· < ·) → (∀ x ∈ l, a ≤ x ∧ x < n) → (l.length : Int) ≤ max 0 (n - a)
  | [], a, n, _, _ => by simp; omega
  | x :: l, a, n, h, hb => by
    rw [List.pairwise_cons] at h
    have h1 := hb x (by simp)
    have h2 := rise_few l (x + 1) n h.2 fun y hy => ⟨by have := h.1 y hy; omega, (hb y (by simp [hy])).2⟩
    simp only [List.length_cons]
    omega
structure Op where
  tag : Int
  wid : Int
  ins : List Int
  a : Int
  b : Int
deriving DecidableEq
abbrev eI (z : Int) : List RT := [RT.v (.int .i64 z)]
abbrev cI (z : Int) : List Ce := [Ce.v (.int .i64 z)]
abbrev eR (l : List Int) : List RT := [RT.ro 1 (l.map eI)]
abbrev eO (x : Op) : List RT := [RT.v (.int .i64 x.tag), RT.v (.int .i64 x.wid), RT.ro 1 (x.ins.map eI), RT.v (.int .i64 x.a), RT.v (.int .i64 x.b)]
theorem flat_snoc {l : List (List Int)} {k : Nat} {r : List Int} (h : l[k]? = some r) : (l.take (k + 1)).flatten = (l.take k).flatten ++ r := by rw [take_snoc h, List.flatten_append]; simp
theorem flat_le {l : List (List Int)} (k : Nat) : (l.take k).flatten.length ≤ l.flatten.length := by
  have := List.take_append_drop k l
  conv => rhs; rw [← this, List.flatten_append, List.length_append]
  omega
end Go.Proofs.Ytjjdfiapcpbapaa
namespace Go.Proofs.Ytjjdfiapcpbapaa
open Go Go.RowKit Wx
set_option linter.unusedVariables false
set_option linter.unusedSimpArgs false
set_option maxHeartbeats 4000000
abbrev eB (z : Int) : List RT := [RT.v (.int .u8 z)]
abbrev cB (z : Int) : List Ce := [Ce.v (.int .u8 z)]
/-- The lowest bytes of a number, the highest of these first. -/
def be : Nat → Int → List Int
  | 0, _ => []
  | n + 1, x => be n (x / 256) ++ [x % 256]
theorem be_len : ∀ {n : Nat} {x : Int}, (be n x).length = n
  | 0, _ => rfl
  | n + 1, x => by rw [be, List.length_append, be_len]; rfl
/-- The number of bytes. -/
def numR (l : List Int) : Int := l.foldl (fun x b => x * 256 + b) 0
theorem numR_snoc {l : List Int} {b : Int} : numR (l ++ [b]) = numR l * 256 + b := by unfold numR; rw [List.foldl_append]; rfl
def isB (l : List Int) : Prop := ∀ b ∈ l, 0 ≤ b ∧ b ≤ 255
theorem numR_lt : ∀ {n : Nat} {l : List Int}, l.length = n → isB l → 0 ≤ numR l ∧ numR l < 256 ^ n
  | 0, l, h, _ => by rw [List.length_eq_zero_iff.1 h]; decide
  | n + 1, l, h, hb => by
    rcases List.eq_nil_or_concat l with e | ⟨l', b, e⟩
    · subst e; simp at h
    · rw [List.concat_eq_append] at e
      subst e
      have h1 := numR_lt (n := n) (l := l') (by simpa using h) (fun x hx => hb x (List.mem_append_left _ hx))
      have h2 := hb b (by simp)
      rw [numR_snoc, Int.pow_succ]
      omega
theorem numR_be : ∀ {n : Nat} {x : Int}, 0 ≤ x → x < 256 ^ n → numR (be n x) = x
  | 0, x, h, h2 => by simp at h2; show (0 : Int) = x; omega
  | n + 1, x, h, h2 => by
    rw [Int.pow_succ] at h2
    rw [be, numR_snoc, numR_be (Int.ediv_nonneg h (by decide)) (by omega)]; omega
theorem be_isB : ∀ {n : Nat} {x : Int}, isB (be n x)
  | 0, _ => by intro b hb; cases hb
  | n + 1, x => by
    intro b hb
    rw [be] at hb
    rcases List.mem_append.1 hb with h | h
    · exact be_isB b h
    · rw [List.mem_singleton.1 h]; omega
theorem be_numR : ∀ {n : Nat} {l : List Int}, l.length = n → isB l → be n (numR l) = l
  | 0, l, h, _ => by rw [List.length_eq_zero_iff.1 h]; rfl
  | n + 1, l, h, hb => by
    rcases List.eq_nil_or_concat l with e | ⟨l', b, e⟩
    · subst e; simp at h
    · rw [List.concat_eq_append] at e
      subst e
      have h2 := hb b (by simp)
      rw [be, numR_snoc, show (numR l' * 256 + b) / 256 = numR l' by omega, show (numR l' * 256 + b) % 256 = b by omega, be_numR (by simpa using h) (fun x hx => hb x (List.mem_append_left _ hx))]
theorem u8_mod (z : Int) : IntKind.u8.wrap z = z % 256 := by
  simp [IntKind.wrap, IntKind.bits, IntKind.signed]
theorem wr_mod8 {z : Int} {A : Int → Prop} (h : A (z % 256)) : wr .u8 z A := ⟨_, u8_mod z, h⟩
theorem u64_mod (z : Int) : IntKind.u64.wrap z = z % 18446744073709551616 := by
  simp [IntKind.wrap, IntKind.bits, IntKind.signed]
theorem u64_rng (z : Int) : 0 ≤ IntKind.u64.wrap z ∧ IntKind.u64.wrap z < 18446744073709551616 := by rw [u64_mod]; omega
theorem i64_u64 {z : Int} (h : -9223372036854775808 ≤ z ∧ z ≤ 9223372036854775807) : IntKind.i64.wrap (IntKind.u64.wrap z) = z := by
  rw [u64_mod]
  simp [IntKind.wrap, IntKind.bits, IntKind.signed]
  omega
theorem u64_i64 {z : Int} (h : 0 ≤ z ∧ z < 18446744073709551616) : IntKind.u64.wrap (IntKind.i64.wrap z) = z := by
  rw [u64_mod]
  simp [IntKind.wrap, IntKind.bits, IntKind.signed]
  omega
theorem or256 {x b : Int} (h : 0 ≤ x ∧ x < 72057594037927936) (hb : 0 ≤ b ∧ b ≤ 255) : IntKind.u64.wrap ((BitVec.ofInt IntKind.u64.bits (IntKind.u64.wrap (x * 2 ^ 8)) ||| BitVec.ofInt IntKind.u64.bits (IntKind.u64.wrap b)).toNat : Int) = x * 256 + b := by
  obtain ⟨n, rfl⟩ := Int.eq_ofNat_of_zero_le h.1
  obtain ⟨c, rfl⟩ := Int.eq_ofNat_of_zero_le hb.1
  rw [u64_mod, u64_mod, u64_mod]
  have a1 : ((n : Int) * 2 ^ 8) % 18446744073709551616 = ((n * 256 : Nat) : Int) := by omega
  have a2 : (c : Int) % 18446744073709551616 = ((c : Nat) : Int) := by omega
  rw [a1, a2]
  show ((BitVec.ofInt 64 ((n * 256 : Nat) : Int) ||| BitVec.ofInt 64 (c : Int)).toNat : Int) % 18446744073709551616 = _
  rw [BitVec.toNat_or]
  have e1 : (BitVec.ofInt 64 ((n * 256 : Nat) : Int)).toNat = n * 256 := by simp [BitVec.toNat_ofInt]; omega
  have e2 : (BitVec.ofInt 64 (c : Int)).toNat = c := by simp [BitVec.toNat_ofInt]; omega
  have e3 : n * 256 ||| c = n * 256 + c := by
    rw [show n * 256 = n <<< 8 by rw [Nat.shiftLeft_eq]]
    exact (Nat.shiftLeft_add_eq_or_of_lt (by omega) n).symm
  rw [e1, e2, e3]
  omega
/-- A row of bytes that is filled from its end. -/
theorem put_set {b T : List Int} {m : Nat} {z : Int} : ((b ++ List.replicate (m + 1) 0 ++ T).map cB).set (0 + (b.length + m)) (cB z) = (b ++ List.replicate m 0 ++ (z :: T)).map cB := by
  rw [Nat.zero_add, List.replicate_succ', show b ++ (List.replicate m (0 : Int) ++ [0]) ++ T = (b ++ List.replicate m 0) ++ 0 :: T by simp, List.map_append, List.map_cons, Z.set_mid (by simp)]
  simp
theorem put_lay {b : List Int} {n k : Nat} {fl : Bool} (hk : b.length ≤ k) : lay (List.replicate (b.length + n) (cB 0)) 0 (List.take k ((b.map eB).map (List.map (RT.ce fl)))) = (b ++ List.replicate n 0 ++ []).map cB := by
  rw [List.take_of_length_le (by simpa using hk)]
  have h1 : ((b.map eB).map (List.map (RT.ce fl))) = b.map cB := map_ce fun _ => rfl
  rw [h1, List.append_nil, List.map_append, List.map_replicate]
  unfold lay
  simp
theorem mkN_any {lz cz : Int} (l : Nat) {bt : Nat} {A : Nat → Nat → Prop} (e1 : lz = (l : Int)) (e2 : cz = (l : Int)) (h2 : l ≤ maxLen) (h3 : bt * l ≤ 140737488355328) (k : A l l) : mkN lz cz bt A := ⟨l, l, e1, e2, Nat.le_refl _, h2, h3, k⟩
theorem put_row {b T : List Int} {m : Nat} : ((b ++ List.replicate (m + 1) 0 ++ T).map cB)[0 + (b.length + m)]? = some (cB 0) := by
  rw [Nat.zero_add, List.replicate_succ', show b ++ (List.replicate m (0 : Int) ++ [0]) ++ T = (b ++ List.replicate m 0) ++ 0 :: T by simp, List.map_append, List.map_cons, Z.get_mid (by simp)]
theorem vN_shr8 {p : Int} {A : Int → Prop} (hp : 0 ≤ p) (h : A (p / 256)) : vN (p.fdiv (2 ^ (min (Int.toNat 8) IntKind.u64.bits))) A := ⟨_, Int.fdiv_eq_ediv_of_nonneg _ (by decide), h⟩
theorem ren_cB {l : List Int} {r : Nat → Nat} : (l.map cB).map (List.map (Ce.ren r)) = l.map cB := ren_map fun _ => rfl
end Go.Proofs.Ytjjdfiapcpbapaa
namespace Go.Proofs.Ytjjdfiapcpbapaa
open Go Go.RowKit Wx
set_option linter.unusedVariables false
set_option linter.unusedSimpArgs false
set_option maxHeartbeats 4000000
theorem putO_con (b : List Int) (x : Int) (n : Nat) (hb : b.length ≤ 1099511627776) (hn : n ≤ 8) (hx : 0 ≤ x ∧ x < 18446744073709551616) : Con Try.prog 56 [.one (.ro false 1 (b.map eB)), .one (.v (.int .u64 x)), .one (.v (.int .i64 (n : Int)))] (fun rx rK rt => rx = .c (.osl 0 0 (b.length + n) (some (b.length + n))) ∧ rK = [(0, some ⟨(b ++ be n x).map cB, 1, 5, false⟩)] ∧ rt = 1) := by
  refine Z.con_ofZ tabOk 34 Try.f56 _ Try.func56 (by kernel_rfl) rfl rfl rfl rfl ?_
  repeat' ((conv => whnf); first
    | ((with_reducible refine mkN_any (b.length + n) ?_ ?_ ?_ ?_ ?_); (iterate 4 (focus ((try simp only [LN] at *) <;> omega))))
    | ((with_reducible refine cpyN.mk ?_ ?_ ?_ ?_); (focus (first | (simp; done))); (focus (first | exact one_map2 (fun _ => rfl))); (focus ((try simp only [LN] at *) <;> omega)))
    | with_reducible refine wr_i64 (by first | omega | (simp only [LN] at *; omega)) ?_)
  all_goals (try (conv => whnf))
  all_goals try (show Nat.ble _ _ = true; rfl)
  all_goals try (exfalso; rename_i hz; cases hz; done)
  all_goals try (exfalso; (try simp only [LN] at *) <;> omega)
  refine Z.loopK tabOk (fun zq : Nat × Int × List Int => [(18, .val (.int .i64 (zq.1 : Int))), (1, .val (.int .u64 zq.2.1))]) (fun zq : Nat × Int × List Int => ([(0, some (Z.Ob.b ⟨(b ++ List.replicate (n - zq.1) 0 ++ zq.2.2).map cB, 1, 5, false⟩))] : Z.Kr)) (fun zq => zq.1 ≤ n ∧ zq.2.2.length = zq.1 ∧ be (n - zq.1) zq.2.1 ++ zq.2.2 = be n x ∧ 0 ≤ zq.2.1 ∧ zq.2.1 < 18446744073709551616) (fun zq => n - zq.1) (0, x, []) 1 [(7, _), (17, _)] ⟨rfl, rfl, trivial⟩ [] trivial ?_ ?_ rfl rfl ⟨Nat.zero_le _, rfl, by simp, hx⟩ ?_
  · repeat' (first | exact trivial | apply And.intro | exact ⟨_, rfl, Z.Imp.refl _⟩)
  · repeat' (first | exact trivial | (intro b hb; cases hb; refine ⟨_, rfl, ⟨rfl, rfl, rfl⟩, Z.imp_eq ?_⟩; first | rfl | exact put_lay (by simp) | exact (put_lay (by simp)).trans (by simp); done) | apply And.intro)
  rintro ⟨i, y, T⟩ HINV
  dsimp only at HINV ⊢
  obtain ⟨HI, HT, HB, hy⟩ := HINV
  have hlr : (b ++ List.replicate (n - i) 0 ++ T).length = b.length + n := by simp; omega
  by_cases hi : i < n
  · obtain ⟨m, hm⟩ : ∃ m, n - i = m + 1 := ⟨n - i - 1, by omega⟩
    rw [hm] at hlr HB ⊢
    rw [be, List.append_assoc] at HB
    repeat' ((conv => whnf); first
      | (with_reducible refine spB_dec ?_ ?_ <;> intro _ <;> (try (exfalso; first | contradiction | omega | (rename_i hz; refine hz ?_; simp; done) | (rename_i hz; simp at hz; done) | (simp only [LN] at *; omega))))
      | (with_reducible refine vN_shr8 (by omega) ?_)
      | ((with_reducible refine ixN_mk (b.length + m) ?_ ?_ ?_); (focus (first | ((try simp only [LN] at *) <;> omega))); (focus ((try simp only [LN] at *) <;> omega)))
      | ((with_reducible refine rowN_mk (cB 0) ?_ ?_); (focus (exact put_row)))
      | with_reducible first | refine wr_mod8 ?_
      | ((with_reducible refine eqN_mk2 ?_ ?_); (focus rfl))
      | with_reducible refine wr_i64 (by first | omega | (simp only [LN] at *; omega)) ?_)
    all_goals (try (conv => whnf))
    all_goals try (show Nat.ble _ _ = true; rfl)
    all_goals try (exfalso; rename_i hz; cases hz; done)
    all_goals try (exfalso; (try simp only [LN] at *) <;> omega)
    all_goals first
      | ((refine Z.rnd_rw 0 ((b ++ List.replicate (n - (i + 1)) 0 ++ (y % 256) :: T).map cB) rfl rfl ?_ ?_); (focus (rw [show n - (i + 1) = m by omega]; exact put_set)); ((refine Z.rndK ((i + 1, y / 256, (y % 256) :: T)) (fun s => [0]) rfl rfl rfl rfl ?_ ?_ ?_ ?_); (focus (repeat' (first | exact trivial | exact rfl | apply And.intro))); (focus (repeat' (first | exact trivial | exact Z.blk_sub rfl rfl (ren_map fun _ => rfl) | apply And.intro))); (focus (exact ⟨by (try dsimp only); omega, by (try dsimp only); rw [List.length_cons, HT], by (try dsimp only); rw [show n - (i + 1) = m by omega]; exact HB, by (try dsimp only); omega⟩)); ((try dsimp only); omega)))
  have hil : i = n := by omega
  subst hil
  rw [Nat.sub_self, be, List.nil_append] at HB
  subst HB
  repeat' ((conv => whnf); first
    | (with_reducible refine spB_dec ?_ ?_ <;> intro _ <;> (try (exfalso; first | contradiction | omega | (rename_i hz; refine hz ?_; simp; done) | (rename_i hz; simp at hz; done) | (simp only [LN] at *; omega)))))
  all_goals (try (conv => whnf))
  all_goals try (show Nat.ble _ _ = true; rfl)
  all_goals try (exfalso; rename_i hz; cases hz; done)
  all_goals try (exfalso; (try simp only [LN] at *) <;> omega)
  all_goals first
    | (refine ret1b 0 (.c (.osl 0 0 (b.length + i) (some (b.length + i)))) ((b ++ be i x).map cB) 1 5 false _ rfl rfl rfl ?_ ren_cB rfl (own_map fun _ => rfl) ⟨rfl, rfl, rfl⟩; simp)

theorem putO8_con (b : List Int) (x : Int) (hb : b.length ≤ 1099511627776) (hx : 0 ≤ x ∧ x < 18446744073709551616) : Con Try.prog 56 [.one (.ro false 1 (b.map eB)), .one (.v (.int .u64 x)), .one (.v (.int .i64 8))] (fun rx rK rt => rx = .c (.osl 0 0 (b.length + 8) (some (b.length + 8))) ∧ rK = [(0, some ⟨(b ++ be 8 x).map cB, 1, 5, false⟩)] ∧ rt = 1) := putO_con b x 8 hb (by decide) hx
theorem putO64_con (b : List Int) (x : Int) (hb : b.length ≤ 1099511627776) (hx : 0 ≤ x ∧ x < 18446744073709551616) : Con Try.prog 42 [.one (.ro false 1 (b.map eB)), .one (.v (.int .u64 x))] (fun rx rK rt => rx = .c (.osl 0 0 (b.length + 8) (some (b.length + 8))) ∧ rK = [(0, some ⟨(b ++ be 8 x).map cB, 1, 5, false⟩)] ∧ rt = 1) := by
  refine Z.con_ofZ tabOk 8 Try.f42 _ Try.func42 (by kernel_rfl) rfl rfl rfl rfl ?_
  repeat' ((conv => whnf); first
    | ((first | (with_reducible apply Z.callZ_mk ?_ (putO8_con _ _ ?_ ?_) ?_)); (rotate_left 2); (focus ((repeat' (first | exact trivial | exact rfl | apply And.intro)); done)); (iterate 2 (focus (first | assumption)))))
  all_goals (try (conv => whnf))
  all_goals try (show Nat.ble _ _ = true; rfl)
  all_goals try (exfalso; rename_i hz; cases hz; done)
  all_goals try (exfalso; (try simp only [LN] at *) <;> omega)
  all_goals first
    | (refine ret1b 0 (.c (.osl 0 0 (b.length + 8) (some (b.length + 8)))) ((b ++ be 8 x).map cB) 1 5 false _ rfl rfl rfl ren_cB ren_cB rfl (own_map fun _ => rfl) ⟨rfl, rfl, rfl⟩)

end Go.Proofs.Ytjjdfiapcpbapaa
namespace Go.Proofs.Ytjjdfiapcpbapaa
open Go Go.RowKit Wx
set_option linter.unusedVariables false
set_option linter.unusedSimpArgs false
set_option maxHeartbeats 4000000
theorem concat_con (rows : List (List Int)) (hab : rows.flatten.length ≤ 100000) (hrl : rows.length ≤ 100000) (h0 : 0 < rows.flatten.length) : Con Try.prog 72 [.one (.ro false 1 (rows.map eR))] (fun rx rK rt => rx = .c (.osl 0 0 rows.flatten.length none) ∧ rK = [(0, some ⟨rows.flatten.map cI, 1, 3, false⟩)] ∧ rt = 1) := by
  refine Z.con_ofZ tabOk 36 Try.f72 _ Try.func72 (by kernel_rfl) rfl rfl rfl rfl ?_
  repeat' ((conv => whnf); first
    | with_reducible first | refine spB_t ?_)
  all_goals (try (conv => whnf))
  all_goals try (show Nat.ble _ _ = true; rfl)
  all_goals try (exfalso; rename_i hz; cases hz; done)
  all_goals try (exfalso; (try simp only [LN] at *) <;> omega)
  refine Z.loopK tabOk (fun zq : Nat => [(11, .val (.int .i64 (zq : Int))), (3, .val (.int .i64 (((rows.take zq).flatten.length : Nat) : Int)))]) (fun zq : Nat => ([] : Z.Kr)) (fun zq => zq ≤ rows.length) (fun zq => rows.length - zq) 0 0 [(0, _), (9, _), (10, _)] ⟨rfl, rfl, rfl, trivial⟩ [] trivial ?_ ?_ rfl rfl (Nat.zero_le _) ?_
  · repeat' (first | exact trivial | apply And.intro | exact ⟨_, rfl, Z.Imp.refl _⟩)
  · repeat' (first | exact trivial)
  rintro k HINV
  (try dsimp only at HINV); (try dsimp only)
  by_cases hi : k < rows.length
  · obtain ⟨r, hr⟩ := getElem?_some' (xs := rows) (i := k) hi
    have hf := flat_snoc hr
    have hle := flat_le (l := rows) (k + 1)
    have hz : (((rows.take k).flatten.length : Nat) : Int) + (((r.map eI).length : Nat) : Int) = (((rows.take (k + 1)).flatten.length : Nat) : Int) := by rw [hf, List.length_append, List.length_map]; omega
    repeat' ((conv => whnf); first
      | (with_reducible refine spB_dec ?_ ?_ <;> intro _ <;> (try (exfalso; first | contradiction | omega | (rename_i hz; refine hz ?_; simp; done) | (rename_i hz; simp at hz; done) | (simp only [LN] at *; omega))))
      | with_reducible first | refine Z.rowN_known hr ?_
      | ((with_reducible apply ixN_litp); (focus (exact rfl)); (focus ((try simp only [LN] at *) <;> omega)))
      | with_reducible refine wr_i64 (by first | omega | (simp only [LN] at *; omega)) ?_)
    all_goals (try (conv => whnf))
    all_goals try (show Nat.ble _ _ = true; rfl)
    all_goals try (exfalso; rename_i hz; cases hz; done)
    all_goals try (exfalso; (try simp only [LN] at *) <;> omega)
    all_goals first
      | ((refine Z.rndK ((k + 1)) (fun s => []) rfl rfl rfl rfl ?_ ?_ ?_ ?_); (focus (repeat' (first | exact trivial | exact congrArg (fun z : Int => some (AV.val (.int .i64 z))) hz | exact rfl | apply And.intro))); (focus (repeat' (first | exact trivial))); (focus (((try dsimp only); omega))); ((try dsimp only); omega))
  have hil : k = rows.length := by omega
  subst hil
  rw [List.take_length]
  repeat' ((conv => whnf); first
    | (with_reducible refine spB_dec ?_ ?_ <;> intro _ <;> (try (exfalso; first | contradiction | omega | (rename_i hz; refine hz ?_; simp; done) | (rename_i hz; simp at hz; done) | (simp only [LN] at *; omega))))
    | ((with_reducible refine slN_hi 0 ?_ ?_ ?_); (focus rfl); (focus (exact Nat.zero_le _)))
    | ((with_reducible refine apz0N_mk (rows.flatten.length) ?_ ?_ ?_ ?_ ?_); (iterate 4 (focus ((try simp only [LN] at *) <;> omega))))
    | with_reducible refine wr_i64 (by first | omega | (simp only [LN] at *; omega)) ?_
    | with_reducible first | refine Z.callZ_in tabOk 27 Try.f81 _ Try.func81 (by kernel_rfl) rfl rfl rfl ?_
    | ((with_reducible apply ex_and); exact rfl))
  all_goals (try (conv => whnf))
  all_goals try (show Nat.ble _ _ = true; rfl)
  all_goals try (exfalso; rename_i hz; cases hz; done)
  all_goals try (exfalso; (try simp only [LN] at *) <;> omega)
  refine Z.loopK tabOk (fun zq : Nat => [(27, .val (.int .i64 (zq : Int))), (6, .c (.osl 0 0 (rows.take zq).flatten.length none))]) (fun zq : Nat => ([(0, some (Z.Ob.b ⟨(rows.take zq).flatten.map cI ++ (bif zq == 0 then List.replicate rows.flatten.length [Ce.v (.int .i64 0)] else []), 1, 3, false⟩))] : Z.Kr)) (fun zq => zq ≤ rows.length) (fun zq => rows.length - zq) 0 1 [(25, _), (26, _)] ⟨rfl, rfl, trivial⟩ [] trivial ?_ ?_ rfl rfl (Nat.zero_le _) ?_
  · repeat' (first | exact trivial | apply And.intro | exact ⟨_, rfl, Z.Imp.refl _⟩)
  · repeat' (first | exact trivial | exact (fun b hb => ⟨b, hb, Z.ImpO.refl b⟩) | apply And.intro)
  rintro k HINV
  (try dsimp only at HINV); (try dsimp only)
  by_cases hi2 : k < rows.length
  · obtain ⟨r, hr⟩ := getElem?_some' (xs := rows) (i := k) hi2
    have hf := flat_snoc hr
    have hle := flat_le (l := rows) (k + 1)
    have hfl : (rows.take k).flatten.length + (r.map eI).length = (rows.take (k + 1)).flatten.length := by rw [hf, List.length_append, List.length_map]
    have HB : List.take (rows.take k).flatten.length ((rows.take k).flatten.map cI ++ (bif k == 0 then List.replicate rows.flatten.length [Ce.v (.int .i64 0)] else [])) ++ List.map (List.map (RT.ce false)) (List.map eI r) = (rows.take (k + 1)).flatten.map cI ++ [] := by
      rw [List.take_append_of_le_length (by rw [List.length_map]; exact Nat.le_refl _), List.take_of_length_le (by rw [List.length_map]; exact Nat.le_refl _), hf, List.map_append, List.map_map, List.append_nil]; rfl
    repeat' ((conv => whnf); first
      | (with_reducible refine spB_dec ?_ ?_ <;> intro _ <;> (try (exfalso; first | contradiction | omega | (rename_i hz; refine hz ?_; simp; done) | (rename_i hz; simp at hz; done) | (simp only [LN] at *; omega))))
      | with_reducible first | refine Z.rowN_known hr ?_
      | ((with_reducible apply ixN_litp); (focus (exact rfl)); (focus ((try simp only [LN] at *) <;> omega)))
      | with_reducible first | refine apdE_n ?_
      | ((with_reducible refine apdN.mk ?_ ?_ ?_ ?_ ?_ ?_); (focus (first | (simp; done))); (focus (first | exact one_map2 (fun _ => rfl))); (focus ((try simp only [LN] at *) <;> omega)); (focus ((try simp only [LN] at *) <;> omega)); (focus ((try simp only [LN] at *) <;> omega)))
      | with_reducible refine wr_i64 (by first | omega | (simp only [LN] at *; omega)) ?_)
    all_goals (try (conv => whnf))
    all_goals try (show Nat.ble _ _ = true; rfl)
    all_goals try (exfalso; rename_i hz; cases hz; done)
    all_goals try (exfalso; (try simp only [LN] at *) <;> omega)
    all_goals first
      | ((refine Z.rndK ((k + 1)) (fun s => [s.idAt 6]) rfl rfl rfl rfl ?_ ?_ ?_ ?_); (focus (repeat' (first | exact trivial | exact congrArg (fun n => some (AV.c (Ce.osl _ 0 n none))) hfl | exact rfl | apply And.intro))); (focus (repeat' (first | exact trivial | exact Z.blk_sub rfl HB (Z.ren_app (ren_map fun _ => rfl) rfl) | apply And.intro))); (focus (((try dsimp only); omega))); ((try dsimp only); omega))
  have hil2 : k = rows.length := by omega
  subst hil2
  rw [List.take_length]
  have HB2 : rows.flatten.map cI ++ (bif rows.length == 0 then List.replicate rows.flatten.length [Ce.v (.int .i64 0)] else []) = rows.flatten.map cI := by
    cases rows with
    | nil => simp at h0
    | cons r rs => simp
  repeat' ((conv => whnf); first
    | (with_reducible refine spB_dec ?_ ?_ <;> intro _ <;> (try (exfalso; first | contradiction | omega | (rename_i hz; refine hz ?_; simp; done) | (rename_i hz; simp at hz; done) | (simp only [LN] at *; omega)))))
  all_goals (try (conv => whnf))
  all_goals try (show Nat.ble _ _ = true; rfl)
  all_goals try (exfalso; rename_i hz; cases hz; done)
  all_goals try (exfalso; (try simp only [LN] at *) <;> omega)
  all_goals (refine ret1b 0 (.c (.osl 0 0 rows.flatten.length none)) (rows.flatten.map cI) 1 3 false _ rfl rfl (by rfl) HB2 (ren_map fun _ => rfl) rfl (own_map fun _ => rfl) ⟨rfl, rfl, rfl⟩)

end Go.Proofs.Ytjjdfiapcpbapaa
namespace Go.Proofs.Ytjjdfiapcpbapaa
open Go Go.RowKit Wx
set_option linter.unusedVariables false
set_option linter.unusedSimpArgs false
set_option maxHeartbeats 4000000
theorem concat_nil (rows : List (List Int)) (hno : ∀ r ∈ rows, r = []) (hrl : rows.length ≤ 100000) : Con Try.prog 72 [.one (.ro false 1 (rows.map eR))] (fun rx rK rt => rx = .val (.slice none 0 0) ∧ rK = [] ∧ rt = 0) := by
  refine Z.con_ofZ tabOk 36 Try.f72 _ Try.func72 (by kernel_rfl) rfl rfl rfl rfl ?_
  repeat' ((conv => whnf); first
    | with_reducible first | refine spB_t ?_)
  all_goals (try (conv => whnf))
  all_goals try (show Nat.ble _ _ = true; rfl)
  all_goals try (exfalso; rename_i hz; cases hz; done)
  all_goals try (exfalso; (try simp only [LN] at *) <;> omega)
  refine Z.loopK tabOk (fun zq : Nat => [(11, .val (.int .i64 (zq : Int))), (3, .val (.int .i64 0))]) (fun zq : Nat => ([] : Z.Kr)) (fun zq => zq ≤ rows.length) (fun zq => rows.length - zq) 0 0 [(0, _), (9, _), (10, _)] ⟨rfl, rfl, rfl, trivial⟩ [] trivial ?_ ?_ rfl rfl (Nat.zero_le _) ?_
  · repeat' (first | exact trivial | apply And.intro | exact ⟨_, rfl, Z.Imp.refl _⟩)
  · repeat' (first | exact trivial)
  rintro k HINV
  (try dsimp only at HINV); (try dsimp only)
  by_cases hi : k < rows.length
  · obtain ⟨r, hr⟩ := getElem?_some' (xs := rows) (i := k) hi
    have hr0 := hno r (List.mem_of_getElem? hr)
    subst hr0
    repeat' ((conv => whnf); first
      | with_reducible first | refine spB_no (by decide) ?_
      | (with_reducible refine spB_dec ?_ ?_ <;> intro _ <;> (try (exfalso; first | contradiction | omega | (rename_i hz; refine hz ?_; simp; done) | (rename_i hz; simp at hz; done) | (simp only [LN] at *; omega))))
      | with_reducible first | refine Z.rowN_known hr ?_
      | ((with_reducible apply ixN_litp); (focus (exact rfl)); (focus ((try simp only [LN] at *) <;> omega)))
      | with_reducible refine wr_i64 (by first | omega | (simp only [LN] at *; omega)) ?_)
    all_goals (try (conv => whnf))
    all_goals try (show Nat.ble _ _ = true; rfl)
    all_goals try (exfalso; rename_i hz; cases hz; done)
    all_goals try (exfalso; (try simp only [LN] at *) <;> omega)
    all_goals first
      | ((refine Z.rndK ((k + 1)) (fun s => []) rfl rfl rfl rfl ?_ ?_ ?_ ?_); (focus (repeat' (first | exact trivial | exact rfl | apply And.intro))); (focus (repeat' (first | exact trivial))); (focus (((try dsimp only); omega))); ((try dsimp only); omega))
  have hil : k = rows.length := by omega
  subst hil
  repeat' ((conv => whnf); first
    | ((with_reducible apply spB_cong); (focus (simp only [beq_self_eq_true, bne_self_eq_false, Bool.true_bne, Bool.false_bne, Bool.bne_true, Bool.bne_false, Bool.true_beq, Bool.false_beq, Bool.not_true, Bool.not_false, Bool.not_not, Int.reduceBEq, Int.reduceBNe, Int.reduceLE, Int.reduceLT, Int.reduceEq, decide_true, decide_false]; rfl)))
    | with_reducible first | refine spB_no (by decide) ?_
    | (with_reducible refine spB_dec ?_ ?_ <;> intro _ <;> (try (exfalso; first | contradiction | omega | (rename_i hz; refine hz ?_; simp; done) | (rename_i hz; simp at hz; done) | (simp only [LN] at *; omega))))
    | with_reducible refine wr_i64 (by first | omega | (simp only [LN] at *; omega)) ?_
    | with_reducible first | refine Z.callZ_in tabOk 27 Try.f81 _ Try.func81 (by kernel_rfl) rfl rfl rfl ?_
    | ((with_reducible apply ex_and); exact rfl))
  all_goals (try (conv => whnf))
  all_goals try (show Nat.ble _ _ = true; rfl)
  all_goals try (exfalso; rename_i hz; cases hz; done)
  all_goals try (exfalso; (try simp only [LN] at *) <;> omega)
  refine Z.loopK tabOk (fun zq : Nat => [(27, .val (.int .i64 (zq : Int)))]) (fun zq : Nat => ([] : Z.Kr)) (fun zq => zq ≤ rows.length) (fun zq => rows.length - zq) 0 0 [(6, _), (25, _), (26, _)] ⟨rfl, rfl, rfl, trivial⟩ [] trivial ?_ ?_ rfl rfl (Nat.zero_le _) ?_
  · repeat' (first | exact trivial | apply And.intro | exact ⟨_, rfl, Z.Imp.refl _⟩)
  · repeat' (first | exact trivial)
  rintro k HINV
  (try dsimp only at HINV); (try dsimp only)
  by_cases hi2 : k < rows.length
  · obtain ⟨r, hr⟩ := getElem?_some' (xs := rows) (i := k) hi2
    have hr0 := hno r (List.mem_of_getElem? hr)
    subst hr0
    repeat' ((conv => whnf); first
      | (with_reducible refine spB_dec ?_ ?_ <;> intro _ <;> (try (exfalso; first | contradiction | omega | (rename_i hz; refine hz ?_; simp; done) | (rename_i hz; simp at hz; done) | (simp only [LN] at *; omega))))
      | with_reducible first | refine Z.rowN_known hr ?_
      | ((with_reducible refine posE_nil ?_ ?_); (focus rfl))
      | ((with_reducible apply ixN_litp); (focus (exact rfl)); (focus ((try simp only [LN] at *) <;> omega)))
      | with_reducible refine wr_i64 (by first | omega | (simp only [LN] at *; omega)) ?_)
    all_goals (try (conv => whnf))
    all_goals try (show Nat.ble _ _ = true; rfl)
    all_goals try (exfalso; rename_i hz; cases hz; done)
    all_goals try (exfalso; (try simp only [LN] at *) <;> omega)
    all_goals first
      | ((refine Z.rndK ((k + 1)) (fun s => []) rfl rfl rfl rfl ?_ ?_ ?_ ?_); (focus (repeat' (first | exact trivial | exact rfl | apply And.intro))); (focus (repeat' (first | exact trivial))); (focus (((try dsimp only); omega))); ((try dsimp only); omega))
  have hil2 : k = rows.length := by omega
  subst hil2
  repeat' ((conv => whnf); first
    | (with_reducible refine spB_dec ?_ ?_ <;> intro _ <;> (try (exfalso; first | contradiction | omega | (rename_i hz; refine hz ?_; simp; done) | (rename_i hz; simp at hz; done) | (simp only [LN] at *; omega)))))
  all_goals (try (conv => whnf))
  all_goals try (show Nat.ble _ _ = true; rfl)
  all_goals try (exfalso; rename_i hz; cases hz; done)
  all_goals try (exfalso; (try simp only [LN] at *) <;> omega)
  all_goals first
    | (refine ret0 _ rfl _ rfl (fun _ => rfl) rfl ⟨?_, rfl, rfl⟩; rfl)

theorem compact_nil : Con Try.prog 73 [.one (.v (.slice none 0 0))] (fun rx rK rt => rx = .val (.slice none 0 0) ∧ rK = [] ∧ rt = 0) := Y.con_eval ftabOk tabOk mixOk 40 12 (by kernel_rfl) (by rfl) (by kernel_rfl)
theorem sort_nil   : Con Try.prog 29 [.one (.v (.slice none 0 0))] (fun rx rK rt => rx = .tup [] ∧ rK = [] ∧ rt = 0) := by
  refine Z.con_ofF tabOk 11 Try.f29 _ Try.func29 (by kernel_rfl) rfl rfl rfl rfl ?_
  repeat' ((conv => whnf); first
    | with_reducible first | refine spB_yes (by decide) ?_ | refine spB_no (by decide) ?_
    | with_reducible first | refine Z.loopZ_unroll tabOk 2 ?_
    | ((with_reducible refine sixN_mk 0 0 ?_ ?_ ?_); (focus rfl); (focus kernel_rfl))
    | with_reducible refine wr_i64 (by first | omega | (simp only [LN] at *; omega)) ?_
    | with_reducible refine wr_u64 (by omega) ?_
    | with_reducible refine wr_u8 (by omega) ?_
    | with_reducible first | refine wr_mk _ rfl ?_
    | with_reducible first | refine Z.callZ_in tabOk 134 Try.f49 _ Try.func49 (by kernel_rfl) rfl rfl rfl ?_ | refine Z.callZ_in tabOk 8 Try.f50 _ Try.func50 (by kernel_rfl) rfl rfl rfl ?_ | refine Z.callZ_in tabOk 25 Try.f71 _ Try.func71 (by kernel_rfl) rfl rfl rfl ?_ | refine Z.callZ_in tabOk 49 Try.f61 _ Try.func61 (by kernel_rfl) rfl rfl rfl ?_
    | ((with_reducible apply ex_and); exact rfl))
  all_goals (try (conv => whnf))
  all_goals try (show Nat.ble _ _ = true; rfl)
  all_goals try (exfalso; rename_i hz; cases hz; done)
  all_goals try (exfalso; (try simp only [LN] at *) <;> omega)
  all_goals first
    | ((first | (with_reducible apply Z.retF0)); (focus (exact rfl)); (repeat' (first | exact trivial)); (all_goals (try exact (fun _ => none))); all_goals (rfl))

end Go.Proofs.Ytjjdfiapcpbapaa
namespace Go.Proofs.Ytjjdfiapcpbapaa
open Go Go.RowKit Wx
set_option linter.unusedVariables false
set_option linter.unusedSimpArgs false
set_option maxHeartbeats 4000000
/-- slices.Sort, in place on an own row of integers. -/
theorem sort_z {m i n top : Nat} {c : Option Nat} {b : Blk} {K : Z.Kr} {k : AV → Z.Kr → Nat → Prop} (zs : List Int) (rest : List (List Ce)) (hb : Z.kz K i = some (.b b)) (hsz : b.sz = 1) (hr : b.rows = zs.map Z.cZ ++ rest) (hn : n = zs.length) (hs : zs.length < 4611686018427387904)
    (hk : k (.tup []) ((i, some (.b ⟨(zs.mergeSort fun x y => decide (x ≤ y)).map Z.cZ ++ rest, b.sz, b.ty, b.bx⟩)) :: K) top) : Z.CallZ Try.prog m (.fn 29 []) [.c (.osl i 0 n c)] K top k :=
  Z.callZ_row (by kernel_rfl) zs (zs.mergeSort fun x y => decide (x ≤ y)) rest (.tup []) (fun _ _ => .tuple #[]) hb hsz hr hn (by simp) (fun blk cap w hH hblk _ => Try.slices_Sort_int blk 0 cap zs w hH hblk hs) (fun _ _ _ _ _ _ _ _ => ⟨[], rfl, trivial⟩) hk
theorem compact_len (zs : List Int) : (Go.Lib.compact zs).length ≤ zs.length := by
  unfold Go.Lib.compact Go.Lib.compactUpTo
  rw [List.length_map]
  exact Nat.le_trans (List.length_filter_le _ _) (by simp)
/-- slices.Compact, in place on an own row of integers. -/
theorem compact_z {m i n top : Nat} {c : Option Nat} {b : Blk} {K : Z.Kr} {k : AV → Z.Kr → Nat → Prop} (zs : List Int) (rest : List (List Ce)) (hb : Z.kz K i = some (.b b)) (hsz : b.sz = 1) (hr : b.rows = zs.map Z.cZ ++ rest) (hn : n = zs.length) (hs : zs.length ≤ 9223372036854775807)
    (hk : k (.c (.osl i 0 (Go.Lib.compact zs).length c)) ((i, some (.b ⟨(Go.Lib.compact zs ++ List.replicate (zs.length - (Go.Lib.compact zs).length) 0).map Z.cZ ++ rest, b.sz, b.ty, b.bx⟩)) :: K) top) : Z.CallZ Try.prog m (.fn 73 []) [.c (.osl i 0 n c)] K top k :=
  Z.callZ_row (by kernel_rfl) zs (Go.Lib.compact zs ++ List.replicate (zs.length - (Go.Lib.compact zs).length) 0) rest (.c (.osl i 0 (Go.Lib.compact zs).length c)) (fun blk cap => .slice (some ⟨blk, 0, none⟩) (Go.Lib.compact zs).length cap) hb hsz hr hn (by have := compact_len zs; simp; omega)
    (fun blk cap w hH _ hcap => Calls.mono (Try.slices_Compact_int blk 0 cap zs w hH hs hcap) (by rintro e w' ⟨rfl, q, rfl⟩; exact ⟨rfl, q, #[], (Go.Sort.grow_empty _).symm⟩))
    (fun I R p cap hp h1 h2 h3 => ⟨p, cap, hp, by rw [Nat.zero_mul], by have := compact_len zs; omega, by omega, h3⟩) hk
theorem joined_con (rows : List (List Int)) (hab : rows.flatten.length ≤ 100000) (hrl : rows.length ≤ 100000) : Con Try.prog 55 [.one (.ro false 1 (rows.map eR))] (fun rx rK rt => rx = .c (.ro true 1 ((joinR rows.flatten).map eI)) ∧ rK = [] ∧ rt = 0) := by
  refine Z.con_ofF tabOk 10 Try.f55 _ Try.func55 (by kernel_rfl) rfl rfl rfl rfl ?_
  have hml : (rows.flatten.mergeSort fun x y => decide (x ≤ y)).length = rows.flatten.length := by simp
  by_cases h0 : 0 < rows.flatten.length
  · skip
    repeat' ((conv => whnf); first
      | ((refine sort_z (rows.flatten) [] rfl ?_ ?_ ?_ ?_ ?_); (focus rfl); (focus (exact (ren_map (l := rows.flatten) fun _ => rfl).trans (List.append_nil _).symm)); (focus rfl); (focus omega))
      | ((refine compact_z (rows.flatten.mergeSort fun x y => decide (x ≤ y)) [] rfl ?_ ?_ ?_ ?_ ?_); (focus rfl); (focus rfl); (focus (exact hml.symm)); (focus omega))
      | ((first | (with_reducible apply Z.callZ_mk ?_ (concat_con _ ?_ ?_ ?_) ?_)); (rotate_left 1); (focus ((repeat' (first | exact trivial | exact rfl | apply And.intro)); done)); (iterate 3 (focus (first | assumption)))))
    all_goals (try (conv => whnf))
    all_goals try (show Nat.ble _ _ = true; rfl)
    all_goals try (exfalso; rename_i hz; cases hz; done)
    all_goals try (exfalso; (try simp only [LN] at *) <;> omega)
    all_goals first
      | ((first | (with_reducible apply Z.retF1)); (focus (exact rfl)); (repeat' (first | exact trivial | (with_reducible apply Z.frz_one) | apply And.intro)); (all_goals (try exact (fun _ => none))); all_goals (first | (refine Z.frz_oslw (l := joinR rows.flatten) (f := cI) (ty := 3) (bx := false) rfl ?_ ?_ (fun _ => rfl); (focus (exact rfl)); (first | (simp [joinR]; done)))))
  · have hz : rows.flatten = [] := List.length_eq_zero_iff.1 (by omega)
    have hno : ∀ r ∈ rows, r = [] := fun r hr => List.eq_nil_iff_forall_not_mem.2 fun x hx => by
      have : x ∈ rows.flatten := List.mem_flatten.2 ⟨r, hr, hx⟩
      rw [hz] at this; simp at this
    have hj : joinR ([] : List Int) = [] := by simp [joinR, Go.Lib.compact, Go.Lib.compactUpTo]
    rw [hz, hj]
    clear hml h0
    repeat' ((conv => whnf); first
      | ((first | (with_reducible refine Z.callZ_mk ?_ (sort_nil) ?_) | (with_reducible refine Z.callZ_mk ?_ (compact_nil) ?_)); (focus ((repeat' (first | exact trivial | exact .inl rfl | apply And.intro)); done)))
      | ((first | (with_reducible apply Z.callZ_mk ?_ (concat_nil _ ?_ ?_) ?_)); (rotate_left 1); (focus ((repeat' (first | exact trivial | exact rfl | apply And.intro)); done)); (iterate 2 (focus (first | assumption)))))
    all_goals (try (conv => whnf))
    all_goals try (show Nat.ble _ _ = true; rfl)
    all_goals try (exfalso; rename_i hz; cases hz; done)
    all_goals try (exfalso; (try simp only [LN] at *) <;> omega)
    all_goals first
      | (refine Z.retF1 [.one (.v (.slice none 0 0))] (by rfl) ⟨?_, trivial⟩; exact Or.inr ⟨1, rfl⟩)

end Go.Proofs.Ytjjdfiapcpbapaa
namespace Go.Proofs.Ytjjdfiapcpbapaa
open Go Go.RowKit Wx
set_option linter.unusedVariables false
set_option linter.unusedSimpArgs false
set_option maxHeartbeats 4000000
def srcN (ops : List Op) : Nat → Int → List Int
  | 0, _ => []
  | n + 1, i => match ops[i.toNat]? with
    | none => []
    | some o => if o.tag = 1 then [o.a] else o.ins.foldl (fun acc x => (srcN ops n x).foldl withR acc) []
/-- Do numbers rise, none twice, above one and below another? -/
def rise (last lim : Int) : List Int → Bool
  | [] => true
  | x :: r => decide (last < x ∧ x < lim) && rise x lim r
def tagOk (o : Op) : Bool := decide ((o.tag = 1 ∧ o.ins.length = 0 ∧ 0 ≤ o.a ∧ o.a < 4 ∧ o.b = 0) ∨ (o.tag = 2 ∧ o.ins.length = 1) ∨ (o.tag = 3 ∧ o.ins.length = 1 ∧ 0 < o.a ∧ 0 ≤ o.b ∧ o.b < o.a) ∨ ((o.tag = 4 ∨ o.tag = 7) ∧ o.ins.length = 1 ∧ o.a = 0 ∧ o.b = 0) ∨ (o.tag = 5 ∧ o.ins.length = 1 ∧ 1 ≤ o.a ∧ o.a ≤ 8 ∧ o.b = 0) ∨ (o.tag = 6 ∧ 2 ≤ o.ins.length ∧ o.a = 0 ∧ o.b = 0))
def aloneR (o : Op) (i : Int) : Bool := decide (1 ≤ o.wid ∧ o.wid ≤ 3) && rise (-1) i o.ins && tagOk o
theorem rise_at {l : List Int} {k : Nat} {x last lim : Int} (h : l[k]? = some x) : rise last lim (l.drop k) = (decide (last < x ∧ x < lim) && rise x lim (l.drop (k + 1))) := by rw [drop_cons h]; rfl
theorem rise_iff : ∀ {l : List Int} {last lim : Int}, rise last lim l = true ↔ l.Pairwise (· < ·) ∧ ∀ x ∈ l, last < x ∧ x < lim
  | [], _, _ => by simp [rise]
  | x :: r, last, lim => by
    rw [rise, Bool.and_eq_true, decide_eq_true_eq, rise_iff, List.pairwise_cons]
    constructor
    · rintro ⟨⟨h1, h2⟩, h3, h4⟩
      exact ⟨⟨fun y hy => (h4 y hy).1, h3⟩, fun y hy => by
        rcases List.mem_cons.1 hy with rfl | hy
        · exact ⟨h1, h2⟩
        · have := h4 y hy; omega⟩
    · rintro ⟨⟨h1, h2⟩, h3⟩
      have := h3 x (by simp)
      exact ⟨this, h2, fun y hy => ⟨h1 y hy, (h3 y (by simp [hy])).2⟩⟩
/-- All operators below N may stand alone where they stand. -/
def Good (ops : List Op) (N : Nat) : Prop := ∀ (j : Nat) (o : Op), j < N → ops[j]? = some o → aloneR o (j : Int) = true
theorem alone_parts {o : Op} {i : Int} (h : aloneR o i = true) : (1 ≤ o.wid ∧ o.wid ≤ 3) ∧ o.ins.Pairwise (· < ·) ∧ (∀ x ∈ o.ins, 0 ≤ x ∧ x < i) ∧ tagOk o = true := by
  unfold aloneR at h
  rw [Bool.and_eq_true, Bool.and_eq_true, decide_eq_true_eq, rise_iff] at h
  exact ⟨h.1.1, h.1.2.1, fun x hx => by have := h.1.2.2 x hx; omega, h.2⟩
theorem Good.src {ops : List Op} {N j : Nat} {o : Op} (h : Good ops N) (hj : j < N) (ho : ops[j]? = some o) (ht : o.tag = 1) : 0 ≤ o.a ∧ o.a < 4 := by
  have h1 := (alone_parts (h j o hj ho)).2.2.2
  unfold tagOk at h1
  have := of_decide_eq_true h1
  omega
/-- Rising, and below 4. -/
def SOk (l : List Int) : Prop := l.Pairwise (· < ·) ∧ ∀ x ∈ l, 0 ≤ x ∧ x < 4
theorem SOk.len {l : List Int} (h : SOk l) : l.length ≤ 4 := by
  have := rise_few l 0 4 h.1 h.2
  omega
theorem SOk.fold {acc s : List Int} (ha : SOk acc) (hs : SOk s) : SOk (s.foldl withR acc) := by
  have h := foldR_norm s ha.1
  refine ⟨h.1, fun x hx => ?_⟩
  rcases List.mem_append.1 ((h.2 x).1 hx) with h1 | h1
  · exact ha.2 x h1
  · exact hs.2 x h1
theorem SOk.folds {F : Int → List Int} : ∀ (l : List Int) {acc : List Int}, SOk acc → (∀ x ∈ l, SOk (F x)) → SOk (l.foldl (fun a x => (F x).foldl withR a) acc)
  | [], _, h, _ => h
  | x :: l, acc, h, hf => SOk.folds l (h.fold (hf x (by simp))) fun y hy => hf y (by simp [hy])
theorem sok_nil : SOk [] := ⟨List.Pairwise.nil, fun x hx => by simp at hx⟩
theorem src_ok {ops : List Op} {N : Nat} (hg : Good ops N) : ∀ (n : Nat) (i : Int), 0 ≤ i → i < (N : Int) → SOk (srcN ops n i)
  | 0, _, _, _ => sok_nil
  | n + 1, i, h0, h1 => by
    rw [srcN]
    cases ho : ops[i.toNat]? with
    | none => exact sok_nil
    | some o =>
      simp only
      have hj : i.toNat < N := by omega
      by_cases ht : o.tag = 1
      · rw [if_pos ht]
        have := hg.src hj ho ht
        exact ⟨by simp, fun x hx => by simp at hx; omega⟩
      · rw [if_neg ht]
        refine SOk.folds _ sok_nil fun x hx => src_ok hg n x ?_ ?_
        · exact ((alone_parts (hg _ o hj ho)).2.2.1 x hx).1
        · have := ((alone_parts (hg _ o hj ho)).2.2.1 x hx).2; omega
/-- The sources of an operator. -/
def srcR (ops : List Op) (i : Int) : List Int := srcN ops (i.toNat + 1) i
theorem src_snoc {F : Int → List Int} {l : List Int} {k : Nat} {y : Int} (h : l[k]? = some y) : (l.take (k + 1)).foldl (fun acc x => (F x).foldl withR acc) [] = (F y).foldl withR ((l.take k).foldl (fun acc x => (F x).foldl withR acc) []) := by
  rw [take_snoc h, List.foldl_append]; rfl
theorem Good.ins {ops : List Op} {N j : Nat} {o : Op} (h : Good ops N) (hj : j < N) (ho : ops[j]? = some o) : o.ins.length ≤ j := by
  have h1 := alone_parts (h j o hj ho)
  have := rise_few o.ins 0 j h1.2.1 h1.2.2.1
  omega
theorem joinR_two {a b : List Int} (ha : a.Pairwise (· < ·)) : joinR ([a, b].flatten) = b.foldl withR a := by
  have := joinR_fold ha b
  simpa using this
abbrev KS (ops : List Op) : Z.Kr := [(0, some (Z.Ob.b ⟨[[.ro false 5 (ops.map eO)]], 1, 26, true⟩)), (1, some (Z.Ob.b ⟨[[.fn 54 [.own 0 0 0, .own 1 0 0]]], 1, 79, true⟩))]
theorem ks_dom {ops : List Op} : ∀ i o, Z.kz (KS ops) i = some o → i < 2 := by
  intro i o h
  match i with
  | 0 => decide
  | 1 => decide
  | i + 2 => cases h
theorem joined2_con (a b : List Int) (h : a.length + b.length ≤ 100000) : Con Try.prog 55 [.one (.ro false 1 [[RT.ro 1 (a.map eI)], [RT.ro 1 (b.map eI)]])] (fun rx rK rt => rx = .c (.ro true 1 ((joinR [a, b].flatten).map eI)) ∧ rK = [] ∧ rt = 0) := joined_con [a, b] (by simp; omega) (by simp)
theorem src_rec (ops : List Op) (N : Nat) (hN : N ≤ ops.length) (hl : ops.length ≤ 1000) (hg : Good ops N) : ∀ (n : Nat) (i : Int), 0 ≤ i → i < (n : Int) → i < (N : Int) → Z.CallZ Try.prog 2 (.fn 54 [.own 0 0 0, .own 1 0 0]) [.val (.int .i64 i)] (KS ops) 2 (fun x K' t' => x = .c (.ro true 1 ((srcN ops n i).map eI)) ∧ K' = KS ops ∧ t' = 2)
  | 0, i, h0, h1, _ => by exfalso; omega
  | n + 1, i, h0, h1, h2 => by
    refine Z.callZ_drop (Kd := KS ops) ?_
    refine Z.callZ_inG tabOk 35 Try.f54 _ Try.func54 (by kernel_rfl) rfl rfl rfl ?_
    obtain ⟨j, rfl⟩ : ∃ j : Nat, i = (j : Int) := ⟨i.toNat, by omega⟩
    obtain ⟨x, hx⟩ := getElem?_some' (xs := ops) (i := j) (by omega)
    have hwx := (alone_parts (hg j x (by omega) hx)).2.2.1
    have hinx := hg.ins (by omega) hx
    have hjl : j < ops.length := by omega
    have hs : srcN ops (n + 1) (j : Int) = if x.tag = 1 then [x.a] else x.ins.foldl (fun acc x => (srcN ops n x).foldl withR acc) [] := by
      rw [srcN, Int.toNat_natCast, hx]
    rw [hs]
    by_cases ht : x.tag = 1
    · rw [if_pos ht]
      repeat' ((conv => whnf); first
        | (with_reducible refine spB_beq ?_ ?_ <;> intro _ <;> (try (exfalso; first | contradiction | omega | (rename_i hz; refine hz ?_; simp; done) | (rename_i hz; simp at hz; done) | (simp only [LN] at *; omega))))
        | ((with_reducible refine ixN_mk (j) ?_ ?_ ?_); (focus (first | rfl)); (focus ((try simp only [LN] at *) <;> omega)))
        | with_reducible first | refine Z.rowN_known hx ?_)
      all_goals (try (conv => whnf))
      all_goals try (show Nat.ble _ _ = true; rfl)
      all_goals try (exfalso; rename_i hz; cases hz; done)
      all_goals try (exfalso; (try simp only [LN] at *) <;> omega)
      all_goals (refine ⟨_, Z.Stp.fz 3 [(4, .c (.ro true 1 ([x.a].map eI)))] [] ⟨⟨_, rfl, Z.fzC.ogsl (l := [x.a]) (f := cI) (ty := 3) (bx := false) rfl rfl (fun _ => rfl)⟩, trivial⟩ trivial (Nat.le_of_ble_eq_true rfl), _, rfl, ⟨(fun b hb => by cases hb; rfl), (fun b hb => by cases hb; rfl), trivial⟩, rfl, rfl, rfl, rfl⟩)
    · rw [if_neg ht]
      repeat' ((conv => whnf); first
        | (with_reducible refine spB_beq ?_ ?_ <;> intro _ <;> (try (exfalso; first | contradiction | omega | (rename_i hz; refine hz ?_; simp; done) | (rename_i hz; simp at hz; done) | (simp only [LN] at *; omega))))
        | ((with_reducible refine ixN_mk (j) ?_ ?_ ?_); (focus (first | rfl)); (focus ((try simp only [LN] at *) <;> omega)))
        | with_reducible first | refine Z.rowN_known hx ?_)
      all_goals (try (conv => whnf))
      all_goals try (show Nat.ble _ _ = true; rfl)
      all_goals try (exfalso; rename_i hz; cases hz; done)
      all_goals try (exfalso; (try simp only [LN] at *) <;> omega)
      refine Z.loopK tabOk (fun zq : Nat => [(23, .val (.int .i64 (zq : Int))), (6, .c (.ro true 1 (((x.ins.take zq).foldl (fun acc y => (srcN ops n y).foldl withR acc) []).map eI)))]) (fun zq : Nat => ([(0, some (Z.Ob.b ⟨[[.ro false 5 (ops.map eO)]], 1, 26, true⟩))] : Z.Kr)) (fun zq => zq ≤ x.ins.length) (fun zq => x.ins.length - zq) 0 3 [(2, _), (21, _), (22, _)] ⟨rfl, rfl, rfl, trivial⟩ [(1, some _), (2, some _)] ⟨rfl, rfl, trivial⟩ ?_ ?_ rfl rfl (Nat.zero_le _) ?_
      · repeat' (first | exact trivial | apply And.intro | exact ⟨_, rfl, Z.Imp.refl _⟩ | exact ⟨_, rfl, Z.Imp.nilr _ _⟩)
      · repeat' (first | exact trivial | exact (fun b hb => ⟨b, hb, Z.ImpO.refl b⟩) | apply And.intro)
      rintro k HINV
      (try dsimp only at HINV); (try dsimp only)
      by_cases hi : k < x.ins.length
      · obtain ⟨y, hy⟩ := getElem?_some' (xs := x.ins) (i := k) hi
        have hyw := hwx y (List.mem_of_getElem? hy)
        have hy0 : 0 ≤ y := hyw.1
        have hy1 : y < (n : Int) := by omega
        have hy2 : y < (N : Int) := by omega
        have hok1 : SOk ((x.ins.take k).foldl (fun acc y => (srcN ops n y).foldl withR acc) []) := SOk.folds _ sok_nil fun z hz => src_ok hg n z (hwx z (List.mem_of_mem_take hz)).1 (by have := (hwx z (List.mem_of_mem_take hz)).2; omega)
        have hok2 : SOk (srcN ops n y) := src_ok hg n y hy0 hy2
        have hlen1 := hok1.len
        have hlen2 := hok2.len
        have hfo : joinR ([((x.ins.take k).foldl (fun acc y => (srcN ops n y).foldl withR acc) []), srcN ops n y].flatten) = ((x.ins.take (k + 1)).foldl (fun acc y => (srcN ops n y).foldl withR acc) []) := by rw [joinR_two hok1.1, src_snoc hy]
        repeat' ((conv => whnf); first
          | (with_reducible refine spB_dec ?_ ?_ <;> intro _ <;> (try (exfalso; first | contradiction | omega | (rename_i hz; refine hz ?_; simp; done) | (rename_i hz; simp at hz; done) | (simp only [LN] at *; omega))))
          | with_reducible first | refine Z.rowN_known hy ?_
          | ((refine Z.callZ_part (Kp := KS ops) (x := .c (.ro true 1 ((srcN ops n y).map eI))) [0, 1] ?_ rfl rfl rfl ?_ (Z.callZ_top (n0 := 2) ?_ ?_ ?_ rfl rfl (src_rec ops N hN hl hg n y hy0 hy1 hy2)) ?_); (focus (repeat (first | exact Z.FK.nil | (apply Z.FK.keep; exact rfl) | (apply Z.FK.drop; exact rfl)))); (focus (exact ⟨(fun o ho => by cases ho; rfl), (fun o ho => by cases ho; rfl), trivial⟩)); (focus (exact Nat.le_of_ble_eq_true rfl)); (focus (exact ⟨(fun b hb => by cases hb; rfl), (fun b hb => by cases hb; rfl), trivial⟩)); (focus (exact ks_dom)))
          | ((with_reducible apply ixN_litp); (focus (exact rfl)); (focus ((try simp only [LN] at *) <;> omega)))
          | with_reducible refine wr_i64 (by first | omega | (simp only [LN] at *; omega)) ?_
          | ((first | (with_reducible apply Z.callZ_mk ?_ (joined2_con _ _ ?_) ?_)); (rotate_left 2); (focus ((repeat' (first | exact trivial | exact ⟨_, rfl, rfl, rfl⟩ | apply And.intro)); done)); (iterate 1 (focus (first | omega)))))
        all_goals (try (conv => whnf))
        all_goals try (show Nat.ble _ _ = true; rfl)
        all_goals try (exfalso; rename_i hz; cases hz; done)
        all_goals try (exfalso; (try simp only [LN] at *) <;> omega)
        all_goals first
          | ((refine Z.rndK ((k + 1)) (fun s => [0, 1, 2]) rfl rfl rfl rfl ?_ ?_ ?_ ?_); (focus (repeat' (first | exact trivial | exact congrArg (fun z => some (AV.c (Ce.ro true 1 (List.map eI z)))) hfo | exact rfl | apply And.intro))); (focus (repeat' (first | exact trivial | (intro b hb; cases hb; rfl) | apply And.intro))); (focus (((try dsimp only); omega))); ((try dsimp only); omega))
      have hil : k = x.ins.length := by omega
      subst hil
      rw [List.take_length]
      repeat' ((conv => whnf); first
        | (with_reducible refine spB_dec ?_ ?_ <;> intro _ <;> (try (exfalso; first | contradiction | omega | (rename_i hz; refine hz ?_; simp; done) | (rename_i hz; simp at hz; done) | (simp only [LN] at *; omega)))))
      all_goals (try (conv => whnf))
      all_goals try (show Nat.ble _ _ = true; rfl)
      all_goals try (exfalso; rename_i hz; cases hz; done)
      all_goals try (exfalso; (try simp only [LN] at *) <;> omega)
      all_goals (refine ⟨_, Z.Stp.refl (Nat.le_of_ble_eq_true rfl), _, rfl, ⟨(fun b hb => by cases hb; rfl), (fun b hb => by cases hb; rfl), trivial⟩, rfl, rfl, rfl, rfl⟩)
end Go.Proofs.Ytjjdfiapcpbapaa
namespace Go.Proofs.Ytjjdfiapcpbapaa
open Go Go.RowKit Wx
set_option linter.unusedVariables false
set_option linter.unusedSimpArgs false
set_option maxHeartbeats 4000000
theorem sources_con (ops : List Op) (i : Int) (N : Nat) (hN : N ≤ ops.length) (hl : ops.length ≤ 1000) (hg : Good ops N) (h0 : 0 ≤ i) (h1 : i < (N : Int)) : Con Try.prog 41 [.agg [.ro false 5 (ops.map eO)], .one (.v (.int .i64 i))] (fun rx rK rt => rx = .c (.ro true 1 ((srcR ops i).map eI)) ∧ rK = [] ∧ rt = 0) := by
  refine Z.con_ofF tabOk 10 Try.f41 _ Try.func41 (by kernel_rfl) rfl rfl rfl rfl ?_
  repeat' ((conv => whnf); first
    | ((refine Z.callZ_sub (Kd := KS ops) ⟨(fun b hb => by cases hb; rfl), (fun b hb => by cases hb; rfl), trivial⟩ ?_); (refine Z.callZ_part (Kp := KS ops) (x := .c (.ro true 1 ((srcR ops i).map eI))) [0, 1] ?_ rfl rfl rfl ?_ (Z.callZ_top (n0 := 2) ?_ ?_ ?_ rfl rfl (src_rec ops N hN hl hg (i.toNat + 1) i h0 (by omega) h1)) ?_); (focus (repeat (first | exact Z.FK.nil | (apply Z.FK.keep; exact rfl)))); (focus (exact ⟨(fun o ho => by cases ho; rfl), (fun o ho => by cases ho; rfl), trivial⟩)); (focus (exact Nat.le_of_ble_eq_true rfl)); (focus (exact ⟨(fun b hb => by cases hb; rfl), (fun b hb => by cases hb; rfl), trivial⟩)); (focus (exact ks_dom))))
  all_goals (try (conv => whnf))
  all_goals try (show Nat.ble _ _ = true; rfl)
  all_goals try (exfalso; rename_i hz; cases hz; done)
  all_goals try (exfalso; (try simp only [LN] at *) <;> omega)
  all_goals first
    | ((first | (with_reducible apply Z.retF1)); (focus (exact rfl)); (repeat' (first | exact trivial | (with_reducible apply Z.frz_one) | (with_reducible apply Z.fq_ro) | exact rfl | apply And.intro)); (all_goals (try exact (fun _ => none))); all_goals (rfl))

end Go.Proofs.Ytjjdfiapcpbapaa
namespace Go.Proofs.Ytjjdfiapcpbapaa
open Go Go.RowKit Wx
set_option linter.unusedVariables false
set_option linter.unusedSimpArgs false
set_option maxHeartbeats 4000000
abbrev cRt (l : List Int) : List Ce := [Ce.ro true 1 (l.map eI)]
/-- Have two of an operator's inputs a source in common? -/
def rowsR (ops : List Op) (l : List Int) : List (List Int) := l.map (srcR ops)
def meetR (ops : List Op) (o : Op) : Bool := decide ((joinR (rowsR ops o.ins).flatten).length < (rowsR ops o.ins).flatten.length)
theorem rows_snoc' {ops : List Op} {l : List Int} {k : Nat} {y : Int} (h : l[k]? = some y) : rowsR ops (l.take (k + 1)) = rowsR ops (l.take k) ++ [srcR ops y] := by unfold rowsR; rw [take_snoc h, List.map_append]; rfl
theorem rows_flat {ops : List Op} {N : Nat} (hg : Good ops N) : ∀ (l : List Int), (∀ x ∈ l, 0 ≤ x ∧ x < (N : Int)) → (rowsR ops l).flatten.length ≤ 4 * l.length
  | [], _ => by simp [rowsR]
  | x :: l, h => by
    have h1 := rows_flat hg l fun y hy => h y (by simp [hy])
    have h2 := (src_ok hg (x.toNat + 1) x (h x (by simp)).1 (h x (by simp)).2).len
    have h3 : (srcR ops x).length ≤ 4 := h2
    unfold rowsR at *
    simp only [List.map_cons, List.flatten_cons, List.length_append, List.length_cons]
    omega
theorem meet_con (ops : List Op) (o : Op) (N : Nat) (hN : N ≤ ops.length) (hl : ops.length ≤ 1000) (hg : Good ops N) (hw : ∀ x ∈ o.ins, 0 ≤ x ∧ x < (N : Int)) (hol : o.ins.length ≤ 1000) : Con Try.prog 51 [.agg [.ro false 5 (ops.map eO)], .agg [.v (.int .i64 o.tag), .v (.int .i64 o.wid), .ro false 1 (o.ins.map eI), .v (.int .i64 o.a), .v (.int .i64 o.b)]] (fun rx rK rt => rx = .val (.bool (meetR ops o)) ∧ rK = [] ∧ rt = 0) := by
  refine Z.con_ofF tabOk 34 Try.f51 _ Try.func51 (by kernel_rfl) rfl rfl rfl rfl ?_
  repeat' ((conv => whnf); first
    | with_reducible first | refine spB_t ?_)
  all_goals (try (conv => whnf))
  all_goals try (show Nat.ble _ _ = true; rfl)
  all_goals try (exfalso; rename_i hz; cases hz; done)
  all_goals try (exfalso; (try simp only [LN] at *) <;> omega)
  refine Z.loopK tabOk (fun zq : Nat => [(13, .val (.int .i64 (zq : Int))), (5, .c (.gsl 2 ((rowsR ops (o.ins.take zq)).map cRt))), (6, .val (.int .i64 (((rowsR ops (o.ins.take zq)).flatten.length : Nat) : Int)))]) (fun zq : Nat => ([(0, some (Z.Ob.b ⟨[[.ro false 5 (ops.map eO)]], 1, 26, true⟩)), (2, (gB 1 32 ((rowsR ops (o.ins.take zq)).map cRt)).map Z.Ob.b)] : Z.Kr)) (fun zq => zq ≤ o.ins.length) (fun zq => o.ins.length - zq) 0 3 [(2, _), (11, _), (12, _)] ⟨rfl, rfl, rfl, trivial⟩ [] trivial ?_ ?_ rfl rfl (Nat.zero_le _) ?_
  · repeat' (first | exact trivial | apply And.intro | exact ⟨_, rfl, Z.Imp.refl _⟩ | exact ⟨_, rfl, Z.Imp.nilg _⟩)
  · repeat' (first | exact trivial | (intro b hb; cases hb; done) | exact (fun b hb => ⟨b, hb, Z.ImpO.refl b⟩) | apply And.intro)
  rintro k HINV
  (try dsimp only at HINV); (try dsimp only)
  by_cases hi : k < o.ins.length
  · obtain ⟨y, hy⟩ := getElem?_some' (xs := o.ins) (i := k) hi
    have hyw := hw y (List.mem_of_getElem? hy)
    have hr := rows_snoc' (ops := ops) hy
    have hrm : (rowsR ops (o.ins.take k)).map cRt ++ [cRt (srcR ops y)] = (rowsR ops (o.ins.take (k + 1))).map cRt := by rw [hr, List.map_append]; rfl
    have hlk := rows_flat hg (o.ins.take k) fun z hz => hw z (List.mem_of_mem_take hz)
    have hlk1 := rows_flat hg (o.ins.take (k + 1)) fun z hz => hw z (List.mem_of_mem_take hz)
    rw [List.length_take] at hlk hlk1
    have hfl : (((rowsR ops (o.ins.take k)).flatten.length : Nat) : Int) + ((((srcR ops y).map eI).length : Nat) : Int) = (((rowsR ops (o.ins.take (k + 1))).flatten.length : Nat) : Int) := by rw [hr, List.flatten_append, List.length_append, List.length_map]; simp
    have cs := sources_con ops y N hN hl hg hyw.1 hyw.2
    have hr4 : ((srcR ops y).map eI).length ≤ 4 := by rw [List.length_map]; exact (src_ok hg (y.toNat + 1) y hyw.1 hyw.2).len
    have hrk : (rowsR ops (o.ins.take k)).length = k := by unfold rowsR; rw [List.length_map, List.length_take]; omega
    repeat' ((conv => whnf); first
      | (with_reducible refine spB_dec ?_ ?_ <;> intro _ <;> (try (exfalso; first | contradiction | omega | (rename_i hz; refine hz ?_; simp; done) | (rename_i hz; simp at hz; done) | (simp only [LN] at *; omega))))
      | with_reducible first | refine Z.rowN_known hy ?_
      | ((with_reducible refine posE_pos ?_ ?_); (focus ((try simp only [LN] at *) <;> omega)))
      | ((with_reducible apply ixN_litp); (focus (exact rfl)); (focus ((try simp only [LN] at *) <;> omega)))
      | ((with_reducible refine apdN.mk ?_ ?_ ?_ ?_ ?_ ?_); (focus (first | rfl)); (focus (first | exact one_all (by rfl))); (focus ((try simp only [LN] at *) <;> omega)); (focus ((try simp only [LN] at *) <;> omega)); (focus ((try simp only [LN] at *) <;> omega)))
      | with_reducible refine wr_i64 (by first | omega | (simp only [LN] at *; omega)) ?_
      | ((first | (with_reducible refine Z.callZ_mk ?_ (cs) ?_)); (focus ((repeat' (first | exact trivial | exact rfl | apply And.intro)); done)))
      | ((with_reducible refine eqN_mk2 ?_ ?_); (focus (exact Z.kb_some rfl))))
    all_goals (try (conv => whnf))
    all_goals try (show Nat.ble _ _ = true; rfl)
    all_goals try (exfalso; rename_i hz; cases hz; done)
    all_goals try (exfalso; (try simp only [LN] at *) <;> omega)
    all_goals first
      | ((refine Z.rndK ((k + 1)) (fun s => [0, 1, s.idAt 5]) rfl rfl rfl rfl ?_ ?_ ?_ ?_); (focus (repeat' (first | exact trivial | exact congrArg (fun r => some (AV.c (Ce.gsl _ r))) (hrm) | exact congrArg (fun z : Int => some (AV.val (.int .i64 z))) hfl | exact rfl | apply And.intro))); (focus (repeat' (first | exact trivial | exact Z.gB_sub' rfl (hrm) (ren_map fun _ => rfl) | (intro b hb; cases hb; rfl) | apply And.intro))); (focus (((try dsimp only); omega))); ((try dsimp only); omega))
  have hil : k = o.ins.length := by omega
  subst hil
  rw [List.take_length]
  have hlk := rows_flat hg o.ins hw
  have cj := joined_con (rowsR ops o.ins) (by omega) (by unfold rowsR; rw [List.length_map]; omega)
  repeat' ((conv => whnf); first
    | (with_reducible refine spB_dec ?_ ?_ <;> intro _ <;> (try (exfalso; first | contradiction | omega | (rename_i hz; refine hz ?_; simp; done) | (rename_i hz; simp at hz; done) | (simp only [LN] at *; omega))))
    | ((first | (with_reducible refine Z.callZ_mk ?_ (cj) ?_)); (focus ((repeat' (first | exact trivial | exact Z.low_gslm (by first | rfl | exact Z.kb_some rfl) (fun _ => rfl) | apply And.intro)); done))))
  all_goals (try (conv => whnf))
  all_goals try (show Nat.ble _ _ = true; rfl)
  all_goals try (exfalso; rename_i hz; cases hz; done)
  all_goals try (exfalso; (try simp only [LN] at *) <;> omega)
  all_goals first
    | ((first | (with_reducible apply Z.retF1)); (focus (exact rfl)); (repeat' (first | exact trivial | (with_reducible apply Z.frz_one) | (with_reducible apply Z.fq_bool) | apply And.intro)); (all_goals (try exact (fun _ => none))); all_goals (first | (unfold meetR; rw [List.length_map]; exact decide_eq_decide.2 Int.ofNat_lt)))

end Go.Proofs.Ytjjdfiapcpbapaa
namespace Go.Proofs.Ytjjdfiapcpbapaa
open Go Go.RowKit Wx
set_option linter.unusedVariables false
set_option linter.unusedSimpArgs false
set_option maxHeartbeats 4000000
theorem rising_con (l : List Int) (lim : Int) (hl : l.length ≤ 9223372036854775807) : Con Try.prog 37 [.one (.ro false 1 (l.map eI)), .one (.v (.int .i64 lim))] (fun rx rK rt => rx = .val (.bool (rise (-1) lim l)) ∧ rK = [] ∧ rt = 0) := by
  refine Z.con_ofF tabOk 24 Try.f37 _ Try.func37 (by kernel_rfl) rfl rfl rfl rfl ?_
  repeat' ((conv => whnf); first
    | with_reducible first | refine spB_t ?_)
  all_goals (try (conv => whnf))
  all_goals try (show Nat.ble _ _ = true; rfl)
  all_goals try (exfalso; rename_i hz; cases hz; done)
  all_goals try (exfalso; (try simp only [LN] at *) <;> omega)
  refine Z.loopK tabOk (fun zq : Nat × Int => [(10, .val (.int .i64 (zq.1 : Int))), (5, .val (.int .i64 zq.2))]) (fun zq : Nat × Int => ([] : Z.Kr)) (fun zq => zq.1 ≤ l.length ∧ rise (-1) lim l = rise zq.2 lim (l.drop zq.1)) (fun zq => l.length - zq.1) (0, -1) 0 [(1, _), (8, _), (9, _)] ⟨rfl, rfl, rfl, trivial⟩ [] trivial ?_ ?_ rfl rfl ⟨Nat.zero_le _, rfl⟩ ?_
  · repeat' (first | exact trivial | apply And.intro | exact ⟨_, rfl, Z.Imp.refl _⟩)
  · repeat' (first | exact trivial)
  rintro ⟨k, last⟩ HINV
  dsimp only at HINV ⊢
  obtain ⟨HI, HR⟩ := HINV
  by_cases hi : k < l.length
  · obtain ⟨x, hx⟩ := getElem?_some' (xs := l) (i := k) hi
    rw [rise_at hx] at HR
    by_cases hc : last < x ∧ x < lim
    · rw [decide_eq_true hc, Bool.true_and] at HR
      repeat' ((conv => whnf); first
        | with_reducible first | refine spB_no (by decide) ?_
        | (with_reducible refine spB_dec ?_ ?_ <;> intro _ <;> (try (exfalso; first | contradiction | omega | (rename_i hz; refine hz ?_; simp; done) | (rename_i hz; simp at hz; done) | (simp only [LN] at *; omega))))
        | with_reducible first | refine Z.rowN_known hx ?_
        | ((with_reducible apply ixN_litp); (focus (exact rfl)); (focus ((try simp only [LN] at *) <;> omega)))
        | with_reducible refine wr_i64 (by first | omega | (simp only [LN] at *; omega)) ?_)
      all_goals (try (conv => whnf))
      all_goals try (show Nat.ble _ _ = true; rfl)
      all_goals try (exfalso; rename_i hz; cases hz; done)
      all_goals try (exfalso; (try simp only [LN] at *) <;> omega)
      all_goals first
        | ((refine Z.rndK ((k + 1, x)) (fun s => []) rfl rfl rfl rfl ?_ ?_ ?_ ?_); (focus (repeat' (first | exact trivial | exact rfl | apply And.intro))); (focus (repeat' (first | exact trivial))); (focus (exact ⟨by (try dsimp only); omega, HR⟩)); ((try dsimp only); omega))
    · rw [decide_eq_false hc, Bool.false_and] at HR
      rw [HR]
      repeat' ((conv => whnf); first
        | with_reducible first | refine spB_t ?_
        | with_reducible first | refine spB_no (by decide) ?_
        | (with_reducible refine spB_dec ?_ ?_ <;> intro _ <;> (try (exfalso; first | contradiction | omega | (rename_i hz; refine hz ?_; simp; done) | (rename_i hz; simp at hz; done) | (simp only [LN] at *; omega))))
        | with_reducible first | refine Z.rowN_known hx ?_
        | ((with_reducible apply ixN_litp); (focus (exact rfl)); (focus ((try simp only [LN] at *) <;> omega))))
      all_goals (try (conv => whnf))
      all_goals try (show Nat.ble _ _ = true; rfl)
      all_goals try (exfalso; rename_i hz; cases hz; done)
      all_goals try (exfalso; (try simp only [LN] at *) <;> omega)
      all_goals first
        | ((first | (with_reducible apply Z.retF1)); (focus (exact rfl)); (repeat' (first | exact trivial | (with_reducible apply Z.frz_one) | (with_reducible apply Z.fq_bool) | exact rfl | apply And.intro)); (all_goals (try exact (fun _ => none))); all_goals (rfl))
  have hil : k = l.length := by omega
  rw [HR, hil, List.drop_length]
  repeat' ((conv => whnf); first
    | (with_reducible refine spB_dec ?_ ?_ <;> intro _ <;> (try (exfalso; first | contradiction | omega | (rename_i hz; refine hz ?_; simp; done) | (rename_i hz; simp at hz; done) | (simp only [LN] at *; omega)))))
  all_goals (try (conv => whnf))
  all_goals try (show Nat.ble _ _ = true; rfl)
  all_goals try (exfalso; rename_i hz; cases hz; done)
  all_goals try (exfalso; (try simp only [LN] at *) <;> omega)
  all_goals first
    | ((first | (with_reducible apply Z.retF1)); (focus (exact rfl)); (repeat' (first | exact trivial | (with_reducible apply Z.frz_one) | (with_reducible apply Z.fq_bool) | exact rfl | apply And.intro)); (all_goals (try exact (fun _ => none))); all_goals (rfl))

end Go.Proofs.Ytjjdfiapcpbapaa
namespace Go.Proofs.Ytjjdfiapcpbapaa
open Go Go.RowKit Wx
set_option linter.unusedVariables false
set_option linter.unusedSimpArgs false
set_option maxHeartbeats 4000000
theorem alone_con (o : Op) (i : Int) (hl : o.ins.length ≤ 9223372036854775807) (hi : 0 ≤ i) : Con Try.prog 15 [.agg [.v (.int .i64 o.tag), .v (.int .i64 o.wid), .ro false 1 (o.ins.map eI), .v (.int .i64 o.a), .v (.int .i64 o.b)], .one (.v (.int .i64 i))] (fun rx rK rt => rx = .val (.bool (aloneR o i)) ∧ rK = [] ∧ rt = 0) := by
  refine Z.con_ofF tabOk 118 Try.f15 _ Try.func15 (by kernel_rfl) rfl rfl rfl rfl ?_
  have cr := rising_con o.ins i hl
  have e1 : aloneR o i = (decide (1 ≤ o.wid ∧ o.wid ≤ 3) && rise (-1) i o.ins && tagOk o) := rfl
  rw [e1]
  by_cases hw : 1 ≤ o.wid ∧ o.wid ≤ 3
  all_goals first | rw [decide_eq_true hw] | rw [decide_eq_false hw]
  all_goals cases hr : rise (-1) i o.ins
  all_goals rw [hr] at cr
  all_goals simp only [Bool.true_and, Bool.false_and, Bool.and_false, Bool.and_true]
  all_goals (
    repeat' ((conv => whnf); first
      | with_reducible first | refine spB_t ?_
      | ((with_reducible apply spB_cong); (focus (simp only [beq_self_eq_true, bne_self_eq_false, Bool.true_bne, Bool.false_bne, Bool.bne_true, Bool.bne_false, Bool.true_beq, Bool.false_beq, Bool.not_true, Bool.not_false, Bool.not_not, Int.reduceBEq, Int.reduceBNe, Int.reduceLE, Int.reduceLT, Int.reduceEq, decide_true, decide_false]; rfl)))
      | with_reducible first | refine spB_no (by decide) ?_
      | (with_reducible refine spB_dec ?_ ?_ <;> intro _ <;> (try (exfalso; first | contradiction | omega | (rename_i hz; refine hz ?_; simp; done) | (rename_i hz; simp at hz; done) | (simp only [LN] at *; omega))))
      | (with_reducible refine spB_beq ?_ ?_ <;> intro _ <;> (try (exfalso; first | contradiction | omega | (rename_i hz; refine hz ?_; simp; done) | (rename_i hz; simp at hz; done) | (simp only [LN] at *; omega))))
      | ((first | (with_reducible refine Z.callZ_mk ?_ (cr) ?_)); (focus ((repeat' (first | exact trivial | exact rfl | apply And.intro)); done))))
    all_goals (try (conv => whnf)))
  all_goals try (show Nat.ble _ _ = true; rfl)
  all_goals try (exfalso; rename_i hz; cases hz; done)
  all_goals try (exfalso; (try simp only [LN] at *) <;> omega)
  all_goals first
    | ((first | (with_reducible apply Z.retF1)); (focus (exact rfl)); (repeat' (first | exact trivial | (with_reducible apply Z.frz_one) | (with_reducible apply Z.fq_bool) | exact rfl | apply And.intro)); (all_goals (try exact (fun _ => none))); all_goals (rfl))
    | ((first | (with_reducible apply Z.retF1)); (focus (exact rfl)); (repeat' (first | exact trivial | (with_reducible apply Z.frz_one) | (with_reducible apply Z.fq_bool) | apply And.intro)); (all_goals (try exact (fun _ => none))); all_goals (first | (rw [show tagOk o = false by (unfold tagOk; (try simp only [Bool.and_eq_true, Bool.and_eq_false_iff, beq_iff_eq, beq_eq_false_iff_ne, bne_iff_ne, Bool.not_eq_true, Bool.not_eq_false, ne_eq, List.length_map] at *); first | exact decide_eq_true (by omega) | exact decide_eq_false (by omega))]) | (refine Bool.eq_iff_iff.2 ?_; unfold tagOk; simp only [Bool.and_eq_true, Bool.and_eq_false_iff, beq_iff_eq, beq_eq_false_iff_ne, decide_eq_true_eq, Bool.not_eq_true, ne_eq, List.length_map] at *; omega)))

end Go.Proofs.Ytjjdfiapcpbapaa
namespace Go.Proofs.Ytjjdfiapcpbapaa
open Go Go.RowKit Wx
set_option linter.unusedVariables false
set_option linter.unusedSimpArgs false
set_option maxHeartbeats 4000000
def tagAt (ops : List Op) (x : Int) : Int := match ops[x.toNat]? with
  | some p => p.tag
  | none => 0
def isSnk (ops : List Op) (x : Int) : Bool := decide (tagAt ops x = 7)
def isDup (o x : Op) : Bool := decide (o.tag = 1 ∧ x.tag = 1 ∧ x.a = o.a)
/-- What is wrong with an operator, where all ahead of it may be. -/
def faultW (ops : List Op) (o : Op) (i : Nat) (w : Int) : Int :=
  if aloneR o i = false then 160 else if o.ins.any (isSnk ops) = true then 160 else if (ops.take i).any (isDup o) = true then 160 else if o.tag = 6 ∧ meetR ops o = true then 161 else if 16 < w then 163 else 0
theorem any_at {α : Type} {l : List α} {k : Nat} {x : α} {p : α → Bool} (h : l[k]? = some x) : (l.drop k).any p = (p x || (l.drop (k + 1)).any p) := by rw [drop_cons h]; rfl
theorem fault_con (ops : List Op) (o : Op) (i : Nat) (w : Int) (hl : ops.length ≤ 1000) (hx : ops[i]? = some o) (hg : Good ops i) (hil : i < ops.length) (hol : o.ins.length ≤ 1000) : Con Try.prog 32 [.agg [.ro false 5 (ops.map eO)], .one (.v (.int .i64 (i : Int))), .one (.v (.int .i64 w))] (fun rx rK rt => rx = .val (.int .i64 (faultW ops o i w)) ∧ rK = [] ∧ rt = 0) := by
  refine Z.con_ofF tabOk 71 Try.f32 _ Try.func32 (by kernel_rfl) rfl rfl rfl rfl ?_
  have ca := alone_con o (i : Int) (by omega) (by omega)
  have e1 : faultW ops o i w = if aloneR o i = false then 160 else if o.ins.any (isSnk ops) = true then 160 else if (ops.take i).any (isDup o) = true then 160 else if o.tag = 6 ∧ meetR ops o = true then 161 else if 16 < w then 163 else 0 := rfl
  rw [e1]
  cases ha : aloneR o (i : Int)
  all_goals rw [ha] at ca
  · rw [if_pos rfl]
    repeat' ((conv => whnf); first
      | with_reducible first | refine spB_t ?_
      | ((with_reducible apply spB_cong); (focus (simp only [beq_self_eq_true, bne_self_eq_false, Bool.true_bne, Bool.false_bne, Bool.bne_true, Bool.bne_false, Bool.true_beq, Bool.false_beq, Bool.not_true, Bool.not_false, Bool.not_not, Int.reduceBEq, Int.reduceBNe, Int.reduceLE, Int.reduceLT, Int.reduceEq, decide_true, decide_false]; rfl)))
      | ((with_reducible refine ixN_mk (i) ?_ ?_ ?_); (focus (first | rfl)); (focus ((try simp only [LN] at *) <;> omega)))
      | with_reducible first | refine Z.rowN_known hx ?_
      | ((first | (with_reducible refine Z.callZ_mk ?_ (ca) ?_)); (focus ((repeat' (first | exact trivial | exact rfl | apply And.intro)); done))))
    all_goals (try (conv => whnf))
    all_goals try (show Nat.ble _ _ = true; rfl)
    all_goals try (exfalso; rename_i hz; cases hz; done)
    all_goals try (exfalso; (try simp only [LN] at *) <;> omega)
    all_goals first
      | ((first | (with_reducible apply Z.retF1)); (focus (exact rfl)); (repeat' (first | exact trivial | (with_reducible apply Z.frz_one) | (with_reducible apply Z.fq_int) | exact rfl | apply And.intro)); (all_goals (try exact (fun _ => none))); all_goals (rfl))
  rw [if_neg (by decide)]
  have hp := alone_parts ha
  have hw := hp.2.2.1
  have cm := meet_con ops o i (by omega) hl hg hw (by omega)
  repeat' ((conv => whnf); first
    | ((with_reducible apply spB_cong); (focus (simp only [beq_self_eq_true, bne_self_eq_false, Bool.true_bne, Bool.false_bne, Bool.bne_true, Bool.bne_false, Bool.true_beq, Bool.false_beq, Bool.not_true, Bool.not_false, Bool.not_not, Int.reduceBEq, Int.reduceBNe, Int.reduceLE, Int.reduceLT, Int.reduceEq, decide_true, decide_false]; rfl)))
    | with_reducible first | refine spB_no (by decide) ?_
    | ((with_reducible refine ixN_mk (i) ?_ ?_ ?_); (focus (first | rfl)); (focus ((try simp only [LN] at *) <;> omega)))
    | with_reducible first | refine Z.rowN_known hx ?_
    | ((first | (with_reducible refine Z.callZ_mk ?_ (ca) ?_)); (focus ((repeat' (first | exact trivial | exact rfl | apply And.intro)); done))))
  all_goals (try (conv => whnf))
  all_goals try (show Nat.ble _ _ = true; rfl)
  all_goals try (exfalso; rename_i hz; cases hz; done)
  all_goals try (exfalso; (try simp only [LN] at *) <;> omega)
  refine Z.loopK tabOk (fun zq : Nat => [(24, .val (.int .i64 (zq : Int)))]) (fun zq : Nat => ([(0, some (Z.Ob.b ⟨[[.ro false 5 (ops.map eO)]], 1, 26, true⟩)), (1, some (Z.Ob.b ⟨[[.v (.int .i64 o.tag), .v (.int .i64 o.wid), .ro false 1 (o.ins.map eI), .v (.int .i64 o.a), .v (.int .i64 o.b)]], 5, 34, true⟩))] : Z.Kr)) (fun zq => zq ≤ o.ins.length ∧ o.ins.any (isSnk ops) = (o.ins.drop zq).any (isSnk ops)) (fun zq => o.ins.length - zq) 0 2 [(1, _), (2, _), (3, _), (7, _), (22, _), (23, _)] ⟨rfl, rfl, rfl, rfl, rfl, rfl, trivial⟩ [] trivial ?_ ?_ rfl rfl ⟨Nat.zero_le _, rfl⟩ ?_
  · repeat' (first | exact trivial | apply And.intro | exact ⟨_, rfl, Z.Imp.refl _⟩)
  · repeat' (first | exact trivial | exact (fun b hb => ⟨b, hb, Z.ImpO.refl b⟩) | apply And.intro)
  rintro k HINV
  (try dsimp only at HINV); (try dsimp only)
  obtain ⟨HI, HR⟩ := HINV
  by_cases hi : k < o.ins.length
  · obtain ⟨y, hy⟩ := getElem?_some' (xs := o.ins) (i := k) hi
    rw [any_at hy] at HR
    have hyw := hw y (List.mem_of_getElem? hy)
    obtain ⟨yn, rfl⟩ : ∃ n : Nat, y = (n : Int) := ⟨y.toNat, by omega⟩
    obtain ⟨z, hz⟩ := getElem?_some' (xs := ops) (i := yn) (by omega)
    have hsn : isSnk ops (yn : Int) = decide (z.tag = 7) := by unfold isSnk tagAt; rw [Int.toNat_natCast, hz]
    rw [hsn] at HR
    by_cases hc : z.tag = 7
    · rw [decide_eq_true hc, Bool.true_or] at HR
      rw [if_pos HR]
      repeat' ((conv => whnf); first
        | (with_reducible refine spB_dec ?_ ?_ <;> intro _ <;> (try (exfalso; first | contradiction | omega | (rename_i hz; refine hz ?_; simp; done) | (rename_i hz; simp at hz; done) | (simp only [LN] at *; omega))))
        | (with_reducible refine spB_beq ?_ ?_ <;> intro _ <;> (try (exfalso; first | contradiction | omega | (rename_i hz; refine hz ?_; simp; done) | (rename_i hz; simp at hz; done) | (simp only [LN] at *; omega))))
        | ((with_reducible refine ixN_mk (yn) ?_ ?_ ?_); (focus (first | rfl)); (focus ((try simp only [LN] at *) <;> omega)))
        | with_reducible first | refine Z.rowN_known hy ?_ | refine Z.rowN_known hz ?_
        | ((with_reducible apply ixN_litp); (focus (exact rfl)); (focus ((try simp only [LN] at *) <;> omega))))
      all_goals (try (conv => whnf))
      all_goals try (show Nat.ble _ _ = true; rfl)
      all_goals try (exfalso; rename_i hz; cases hz; done)
      all_goals try (exfalso; (try simp only [LN] at *) <;> omega)
      all_goals first
        | ((first | (with_reducible apply Z.retF1)); (focus (exact rfl)); (repeat' (first | exact trivial | (with_reducible apply Z.frz_one) | (with_reducible apply Z.fq_int) | exact rfl | apply And.intro)); (all_goals (try exact (fun _ => none))); all_goals (rfl))
    · rw [decide_eq_false hc, Bool.false_or] at HR
      repeat' ((conv => whnf); first
        | (with_reducible refine spB_dec ?_ ?_ <;> intro _ <;> (try (exfalso; first | contradiction | omega | (rename_i hz; refine hz ?_; simp; done) | (rename_i hz; simp at hz; done) | (simp only [LN] at *; omega))))
        | (with_reducible refine spB_beq ?_ ?_ <;> intro _ <;> (try (exfalso; first | contradiction | omega | (rename_i hz; refine hz ?_; simp; done) | (rename_i hz; simp at hz; done) | (simp only [LN] at *; omega))))
        | ((with_reducible refine ixN_mk (yn) ?_ ?_ ?_); (focus (first | rfl)); (focus ((try simp only [LN] at *) <;> omega)))
        | with_reducible first | refine Z.rowN_known hy ?_ | refine Z.rowN_known hz ?_
        | ((with_reducible apply ixN_litp); (focus (exact rfl)); (focus ((try simp only [LN] at *) <;> omega)))
        | with_reducible refine wr_i64 (by first | omega | (simp only [LN] at *; omega)) ?_)
      all_goals (try (conv => whnf))
      all_goals try (show Nat.ble _ _ = true; rfl)
      all_goals try (exfalso; rename_i hz; cases hz; done)
      all_goals try (exfalso; (try simp only [LN] at *) <;> omega)
      all_goals first
        | ((refine Z.rndK ((k + 1)) (fun s => [0, 1]) rfl rfl rfl rfl ?_ ?_ ?_ ?_); (focus (repeat' (first | exact trivial | exact rfl | apply And.intro))); (focus (repeat' (first | exact trivial | (intro b hb; cases hb; rfl) | apply And.intro))); (focus (exact ⟨by (try dsimp only); omega, HR⟩)); ((try dsimp only); omega))
  have hil : k = o.ins.length := by omega
  rw [hil, List.drop_length] at HR
  have hs9 : ¬ (o.ins.any (isSnk ops) = true) := by rw [HR]; simp
  rw [if_neg hs9]
  clear HR
  repeat' ((conv => whnf); first
    | (with_reducible refine spB_dec ?_ ?_ <;> intro _ <;> (try (exfalso; first | contradiction | omega | (rename_i hz; refine hz ?_; simp; done) | (rename_i hz; simp at hz; done) | (simp only [LN] at *; omega))))
    | ((with_reducible refine slN_hi i ?_ ?_ ?_); (focus rfl); (focus ((try simp only [LN] at *) <;> omega))))
  all_goals (try (conv => whnf))
  all_goals try (show Nat.ble _ _ = true; rfl)
  all_goals try (exfalso; rename_i hz; cases hz; done)
  all_goals try (exfalso; (try simp only [LN] at *) <;> omega)
  refine Z.loopK tabOk (fun zq : Nat => [(41, .val (.int .i64 (zq : Int))), (39, .c (.ro false 5 ((ops.take i).map eO))), (40, .val (.int .i64 (i : Int)))]) (fun zq : Nat => ([(0, some (Z.Ob.b ⟨[[.ro false 5 (ops.map eO)]], 1, 26, true⟩)), (1, some (Z.Ob.b ⟨[[.v (.int .i64 o.tag), .v (.int .i64 o.wid), .ro false 1 (o.ins.map eI), .v (.int .i64 o.a), .v (.int .i64 o.b)]], 5, 34, true⟩))] : Z.Kr)) (fun zq => zq ≤ i ∧ (ops.take i).any (isDup o) = ((ops.take i).drop zq).any (isDup o)) (fun zq => i - zq) 0 2 [(2, _), (3, _), (7, _)] ⟨rfl, rfl, rfl, trivial⟩ [] trivial ?_ ?_ rfl rfl ⟨Nat.zero_le _, rfl⟩ ?_
  · repeat' (first | exact trivial | apply And.intro | exact ⟨_, rfl, Z.Imp.refl _⟩ | (refine ⟨_, rfl, ?_⟩; refine Z.Imp.of_eq ?_; first | (refine congrArg (Ce.ro false 5) ?_; simp [List.map_take]; done) | (refine congrArg (fun z : Int => Ce.v (.int .i64 z)) ?_; simp; omega); done))
  · repeat' (first | exact trivial | exact (fun b hb => ⟨b, hb, Z.ImpO.refl b⟩) | apply And.intro)
  rintro k HINV
  (try dsimp only at HINV); (try dsimp only)
  obtain ⟨HI2, HR⟩ := HINV
  have hti : (ops.take i).length = i := by rw [List.length_take]; omega
  by_cases hi2 : k < i
  · obtain ⟨z, hz⟩ := getElem?_some' (xs := ops.take i) (i := k) (by omega)
    rw [any_at hz] at HR
    by_cases hc : o.tag = 1 ∧ z.tag = 1 ∧ z.a = o.a
    · rw [show isDup o z = true from decide_eq_true hc, Bool.true_or] at HR
      rw [if_pos HR]
      repeat' ((conv => whnf); first
        | with_reducible first | refine spB_t ?_
        | (with_reducible refine spB_dec ?_ ?_ <;> intro _ <;> (try (exfalso; first | contradiction | omega | (rename_i hz; refine hz ?_; simp; done) | (rename_i hz; simp at hz; done) | (simp only [LN] at *; omega))))
        | (with_reducible refine spB_beq ?_ ?_ <;> intro _ <;> (try (exfalso; first | contradiction | omega | (rename_i hz; refine hz ?_; simp; done) | (rename_i hz; simp at hz; done) | (simp only [LN] at *; omega))))
        | ((with_reducible refine ixN_mk (k) ?_ ?_ ?_); (focus (first | rfl)); (focus ((try simp only [LN] at *) <;> omega)))
        | with_reducible first | refine Z.rowN_known hz ?_)
      all_goals (try (conv => whnf))
      all_goals try (show Nat.ble _ _ = true; rfl)
      all_goals try (exfalso; rename_i hz; cases hz; done)
      all_goals try (exfalso; (try simp only [LN] at *) <;> omega)
      all_goals first
        | ((first | (with_reducible apply Z.retF1)); (focus (exact rfl)); (repeat' (first | exact trivial | (with_reducible apply Z.frz_one) | (with_reducible apply Z.fq_int) | exact rfl | apply And.intro)); (all_goals (try exact (fun _ => none))); all_goals (rfl))
    · rw [show isDup o z = false from decide_eq_false hc, Bool.false_or] at HR
      repeat' ((conv => whnf); first
        | with_reducible first | refine spB_t ?_
        | with_reducible first | refine spB_no (by decide) ?_
        | (with_reducible refine spB_dec ?_ ?_ <;> intro _ <;> (try (exfalso; first | contradiction | omega | (rename_i hz; refine hz ?_; simp; done) | (rename_i hz; simp at hz; done) | (simp only [LN] at *; omega))))
        | (with_reducible refine spB_beq ?_ ?_ <;> intro _ <;> (try (exfalso; first | contradiction | omega | (rename_i hz; refine hz ?_; simp; done) | (rename_i hz; simp at hz; done) | (simp only [LN] at *; omega))))
        | ((with_reducible refine ixN_mk (k) ?_ ?_ ?_); (focus (first | rfl)); (focus ((try simp only [LN] at *) <;> omega)))
        | with_reducible first | refine Z.rowN_known hz ?_
        | with_reducible refine wr_i64 (by first | omega | (simp only [LN] at *; omega)) ?_)
      all_goals (try (conv => whnf))
      all_goals try (show Nat.ble _ _ = true; rfl)
      all_goals try (exfalso; rename_i hz; cases hz; done)
      all_goals try (exfalso; (try simp only [LN] at *) <;> omega)
      all_goals first
        | ((refine Z.rndK ((k + 1)) (fun s => [0, 1]) rfl rfl rfl rfl ?_ ?_ ?_ ?_); (focus (repeat' (first | exact trivial | exact rfl | apply And.intro))); (focus (repeat' (first | exact trivial | (intro b hb; cases hb; rfl) | apply And.intro))); (focus (exact ⟨by (try dsimp only); omega, HR⟩)); ((try dsimp only); omega))
  have hil2 : k = (ops.take i).length := by omega
  rw [hil2, List.drop_length] at HR
  have hs8 : ¬ ((ops.take i).any (isDup o) = true) := by rw [HR]; simp
  rw [if_neg hs8]
  clear HR
  cases hm : meetR ops o
  all_goals rw [hm] at cm
  all_goals by_cases h6 : o.tag = 6
  all_goals by_cases h16 : 16 < w
  all_goals first | rw [if_pos (show o.tag = 6 ∧ true = true from ⟨h6, rfl⟩)] | rw [if_neg (show ¬ (o.tag = 6 ∧ true = true) from fun e => h6 e.1)] | rw [if_neg (show ¬ (o.tag = 6 ∧ false = true) from fun e => by cases e.2)]
  all_goals try first | rw [if_pos h16] | rw [if_neg h16]
  all_goals (
    repeat' ((conv => whnf); first
      | with_reducible first | refine spB_t ?_
      | with_reducible first | refine spB_no (by decide) ?_
      | (with_reducible refine spB_dec ?_ ?_ <;> intro _ <;> (try (exfalso; first | contradiction | omega | (rename_i hz; refine hz ?_; simp; done) | (rename_i hz; simp at hz; done) | (simp only [LN] at *; omega))))
      | (with_reducible refine spB_beq ?_ ?_ <;> intro _ <;> (try (exfalso; first | contradiction | omega | (rename_i hz; refine hz ?_; simp; done) | (rename_i hz; simp at hz; done) | (simp only [LN] at *; omega))))
      | ((first | (with_reducible refine Z.callZ_mk ?_ (cm) ?_)); (focus ((repeat' (first | exact trivial | exact rfl | apply And.intro)); done))))
    all_goals (try (conv => whnf)))
  all_goals try (show Nat.ble _ _ = true; rfl)
  all_goals try (exfalso; rename_i hz; cases hz; done)
  all_goals try (exfalso; (try simp only [LN] at *) <;> omega)
  all_goals first
    | ((first | (with_reducible apply Z.retF1)); (focus (exact rfl)); (repeat' (first | exact trivial | (with_reducible apply Z.frz_one) | (with_reducible apply Z.fq_int) | exact rfl | apply And.intro)); (all_goals (try exact (fun _ => none))); all_goals (rfl))

end Go.Proofs.Ytjjdfiapcpbapaa
namespace Go.Proofs.Ytjjdfiapcpbapaa
open Go Go.RowKit Wx
set_option linter.unusedVariables false
set_option linter.unusedSimpArgs false
set_option maxHeartbeats 4000000
def widP (ops : List Op) (n : Nat) : Int := ((ops.take n).map fun o => max 0 (min o.wid 3)).sum
def widR (ops : List Op) (n : Nat) : Int := ((ops.take n).map Op.wid).sum
theorem isum_append : ∀ (l m : List Int), (l ++ m).sum = l.sum + m.sum
  | [], m => by simp
  | x :: l, m => by simp only [List.cons_append, List.sum_cons, isum_append l m]; omega
theorem widP_snoc {ops : List Op} {k : Nat} {o : Op} (h : ops[k]? = some o) : widP ops (k + 1) = widP ops k + max 0 (min o.wid 3) := by
  unfold widP; rw [take_snoc h, List.map_append, isum_append]; simp
theorem widR_snoc {ops : List Op} {k : Nat} {o : Op} (h : ops[k]? = some o) : widR ops (k + 1) = widR ops k + o.wid := by
  unfold widR; rw [take_snoc h, List.map_append, isum_append]; simp
theorem widP_le (ops : List Op) : ∀ k, k ≤ ops.length → 0 ≤ widP ops k ∧ widP ops k ≤ 3 * (k : Int)
  | 0, _ => by simp [widP]
  | k + 1, h => by
    obtain ⟨o, ho⟩ := getElem?_some' (xs := ops) (i := k) (by omega)
    have := widP_le ops k (by omega)
    rw [widP_snoc ho]
    omega
theorem wid_eq {ops : List Op} {N : Nat} (hg : Good ops N) : ∀ k, k ≤ N → k ≤ ops.length → widP ops k = widR ops k
  | 0, _, _ => by simp [widP, widR]
  | k + 1, h1, h => by
    obtain ⟨o, ho⟩ := getElem?_some' (xs := ops) (i := k) (by omega)
    have := wid_eq hg k (by omega) (by omega)
    have hw := (alone_parts (hg k o (by omega) ho)).1
    rw [widP_snoc ho, widR_snoc ho]
    omega
theorem Good.succ {ops : List Op} {k : Nat} {o : Op} (h : Good ops k) (ho : ops[k]? = some o) (ha : aloneR o (k : Int) = true) : Good ops (k + 1) := by
  intro j p hj hp
  by_cases e : j = k
  · subst e; rw [ho] at hp; cases hp; exact ha
  · exact h j p (by omega) hp
/-- What is wrong with the operator at a place, where all ahead of it may be. -/
def faultR (ops : List Op) (i : Nat) : Int := match ops[i]? with
  | none => 0
  | some o => faultW ops o i (widR ops (i + 1))
theorem faultW_alone {ops : List Op} {o : Op} {i : Nat} {w : Int} (h : faultW ops o i w = 0) : aloneR o (i : Int) = true := by
  unfold faultW at h
  cases ha : aloneR o (i : Int) with
  | true => rfl
  | false => rw [ha, if_pos rfl] at h; cases h
theorem faultW_wid {ops : List Op} {o : Op} {i : Nat} (hg : Good ops i) (ho : ops[i]? = some o) : faultW ops o i (widP ops (i + 1)) = faultR ops i := by
  unfold faultR
  rw [ho]
  simp only
  cases ha : aloneR o (i : Int) with
  | false => unfold faultW; rw [if_pos ha, if_pos ha]
  | true => rw [wid_eq (hg.succ ho ha) (i + 1) (Nat.le_refl _) (by have := (List.getElem?_eq_some_iff.1 ho).1; omega)]
theorem fault_good {ops : List Op} {k : Nat} {o : Op} (h : Good ops k) (ho : ops[k]? = some o) (hf : faultR ops k = 0) : Good ops (k + 1) := by
  refine h.succ ho ?_
  unfold faultR at hf; rw [ho] at hf
  exact faultW_alone hf
/-- The first fault from a place on. -/
def chkF (ops : List Op) : Nat → Nat → Option (Int × Int)
  | 0, _ => none
  | n + 1, i => if faultR ops i = 0 then chkF ops n (i + 1) else some ((i : Int), faultR ops i)
/-- Does somebody read it? -/
def readB (ops : List Op) (i : Int) : Bool := ops.any fun o => o.ins.any fun x => decide (x = i)
/-- The first one that nobody reads, from a place on. -/
def unrF (ops : List Op) : List Op → Nat → Option Int
  | [], _ => none
  | o :: r, i => if o.tag ≠ 7 ∧ readB ops (i : Int) = false then some (i : Int) else unrF ops r (i + 1)
def chkR (ops : List Op) : Int × Int :=
  if ops.length = 0 ∨ 8 < ops.length then (0, 160) else match chkF ops ops.length 0 with
    | some r => r
    | none => match unrF ops ops 0 with
      | some i => (i, 162)
      | none => (0, 0)
theorem chkF_at {ops : List Op} {n k : Nat} (hk : k < n) (h0 : faultR ops k = 0) : chkF ops (n - k) k = chkF ops (n - (k + 1)) (k + 1) := by
  rw [show n - k = (n - (k + 1)) + 1 by omega, chkF, if_pos h0]
theorem chkF_hit {ops : List Op} {n k : Nat} (hk : k < n) (h0 : faultR ops k ≠ 0) : chkF ops (n - k) k = some ((k : Int), faultR ops k) := by
  rw [show n - k = (n - (k + 1)) + 1 by omega, chkF, if_neg h0]
theorem unrF_at {ops : List Op} {k : Nat} {o : Op} (h : ops[k]? = some o) (h0 : ¬ (o.tag ≠ 7 ∧ readB ops (k : Int) = false)) : unrF ops (ops.drop k) k = unrF ops (ops.drop (k + 1)) (k + 1) := by
  rw [drop_cons h, unrF, if_neg h0]
theorem unrF_hit {ops : List Op} {k : Nat} {o : Op} (h : ops[k]? = some o) (h0 : o.tag ≠ 7 ∧ readB ops (k : Int) = false) : unrF ops (ops.drop k) k = some (k : Int) := by
  rw [drop_cons h, unrF, if_pos h0]
def readAt (ops : List Op) (i k : Nat) (j : Int) : Bool := ((ops.take i).any fun o => o.ins.any fun x => decide (x = j)) || (match ops[i]? with
  | some o => (o.ins.take k).any fun x => decide (x = j)
  | none => false)
theorem readAt_zero (ops : List Op) (j : Int) : readAt ops 0 0 j = false := by
  unfold readAt
  cases ops[0]? <;> simp
theorem any_snoc {α : Type} {l : List α} {k : Nat} {x : α} {p : α → Bool} (h : l[k]? = some x) : (l.take (k + 1)).any p = ((l.take k).any p || p x) := by rw [take_snoc h, List.any_append]; simp
theorem readAt_step {ops : List Op} {i k : Nat} {o : Op} {y : Int} (ho : ops[i]? = some o) (hy : o.ins[k]? = some y) (j : Int) : readAt ops i (k + 1) j = (decide (y = j) || readAt ops i k j) := by
  unfold readAt
  rw [ho]
  simp only
  rw [any_snoc hy]
  cases decide (y = j) <;> cases ((ops.take i).any fun o => o.ins.any fun x => decide (x = j)) <;> simp
theorem readAt_next {ops : List Op} {i : Nat} {o : Op} (ho : ops[i]? = some o) (j : Int) : readAt ops (i + 1) 0 j = readAt ops i o.ins.length j := by
  unfold readAt
  rw [ho, any_snoc ho]
  simp only
  rw [List.take_length]
  cases ops[i + 1]? <;> simp
theorem readAt_end (ops : List Op) (j : Int) : readAt ops ops.length 0 j = readB ops j := by
  unfold readAt readB
  rw [List.take_length]
  simp
theorem check_con (ops : List Op) (hins : ∀ o ∈ ops, o.ins.length ≤ 1000) (hol : ops.length ≤ 1000) : Con Try.prog 11 [.agg [.ro false 5 (ops.map eO)]] (fun rx rK rt => rx = .tup [.one (.v (.int .i64 (chkR ops).1)), .one (.v (.int .i64 (chkR ops).2))] ∧ rK = [] ∧ rt = 0) := by
  refine Z.con_ofF tabOk 71 Try.f11 _ Try.func11 (by kernel_rfl) rfl rfl rfl rfl ?_
  by_cases hbad : ops.length = 0 ∨ 8 < ops.length
  · have e1 : chkR ops = (0, 160) := by unfold chkR; rw [if_pos hbad]
    rw [e1]
    repeat' ((conv => whnf); first
      | with_reducible first | refine spB_t ?_
      | with_reducible first | refine spB_no (by decide) ?_
      | (with_reducible refine spB_dec ?_ ?_ <;> intro _ <;> (try (exfalso; first | contradiction | omega | (rename_i hz; refine hz ?_; simp; done) | (rename_i hz; simp at hz; done) | (simp only [LN] at *; omega))))
      | (with_reducible refine spB_beq ?_ ?_ <;> intro _ <;> (try (exfalso; first | contradiction | omega | (rename_i hz; refine hz ?_; simp; done) | (rename_i hz; simp at hz; done) | (simp only [LN] at *; omega)))))
    all_goals (try (conv => whnf))
    all_goals try (show Nat.ble _ _ = true; rfl)
    all_goals try (exfalso; rename_i hz; cases hz; done)
    all_goals try (exfalso; (try simp only [LN] at *) <;> omega)
    all_goals first
      | ((first | (with_reducible apply Z.retF2)); (focus (exact rfl)); (repeat' (first | exact trivial | (with_reducible apply Z.frz_one) | (with_reducible apply Z.fq_int) | exact rfl | apply And.intro)); (all_goals (try exact (fun _ => none))); all_goals (rfl))
  have hlen : 0 < ops.length ∧ ops.length ≤ 8 := by omega
  have e1 : chkR ops = match chkF ops ops.length 0 with | some r => r | none => match unrF ops ops 0 with | some i => (i, 162) | none => (0, 0) := by unfold chkR; rw [if_neg hbad]; (first | done | rfl)
  clear hbad
  repeat' ((conv => whnf); first
    | with_reducible first | refine spB_no (by decide) ?_
    | (with_reducible refine spB_dec ?_ ?_ <;> intro _ <;> (try (exfalso; first | contradiction | omega | (rename_i hz; refine hz ?_; simp; done) | (rename_i hz; simp at hz; done) | (simp only [LN] at *; omega))))
    | (with_reducible refine spB_beq ?_ ?_ <;> intro _ <;> (try (exfalso; first | contradiction | omega | (rename_i hz; refine hz ?_; simp; done) | (rename_i hz; simp at hz; done) | (simp only [LN] at *; omega)))))
  all_goals (try (conv => whnf))
  all_goals try (show Nat.ble _ _ = true; rfl)
  all_goals try (exfalso; rename_i hz; cases hz; done)
  all_goals try (exfalso; (try simp only [LN] at *) <;> omega)
  refine Z.loopK tabOk (fun zq : Nat => [(26, .val (.int .i64 (zq : Int))), (4, .val (.int .i64 (widP ops zq)))]) (fun zq : Nat => ([(0, some (Z.Ob.b ⟨[[.ro false 5 (ops.map eO)]], 1, 26, true⟩))] : Z.Kr)) (fun zq => zq ≤ ops.length ∧ Good ops zq ∧ chkF ops ops.length 0 = chkF ops (ops.length - zq) zq) (fun zq => ops.length - zq) 0 1 [(1, _), (24, _), (25, _)] ⟨rfl, rfl, rfl, trivial⟩ [] trivial ?_ ?_ rfl rfl ⟨Nat.zero_le _, fun j o hj => absurd hj (Nat.not_lt_zero _), rfl⟩ ?_
  · repeat' (first | exact trivial | apply And.intro | exact ⟨_, rfl, Z.Imp.refl _⟩)
  · repeat' (first | exact trivial | exact (fun b hb => ⟨b, hb, Z.ImpO.refl b⟩) | apply And.intro)
  rintro k HINV
  (try dsimp only at HINV); (try dsimp only)
  obtain ⟨HI, HG, HC⟩ := HINV
  by_cases hi : k < ops.length
  · obtain ⟨x, hx⟩ := getElem?_some' (xs := ops) (i := k) hi
    have hwl := widP_le ops k (by omega)
    have hws := widP_snoc hx
    have hfw := faultW_wid HG hx
    have hxl : x.ins.length ≤ 1000 := hins x (List.mem_of_getElem? hx)
    have cf := fault_con ops x k (widP ops (k + 1)) (by omega) hx HG hi hxl
    rw [hfw, hws] at cf
    by_cases he : faultR ops k = 0
    · rw [chkF_at hi he] at HC
      rw [he] at cf
      repeat' ((conv => whnf); first
        | ((with_reducible apply spB_cong); (focus (simp only [beq_self_eq_true, bne_self_eq_false, Bool.true_bne, Bool.false_bne, Bool.bne_true, Bool.bne_false, Bool.true_beq, Bool.false_beq, Bool.not_true, Bool.not_false, Bool.not_not, Int.reduceBEq, Int.reduceBNe, Int.reduceLE, Int.reduceLT, Int.reduceEq, decide_true, decide_false]; rfl)))
        | with_reducible first | refine spB_no (by decide) ?_
        | (with_reducible refine spB_dec ?_ ?_ <;> intro _ <;> (try (exfalso; first | contradiction | omega | (rename_i hz; refine hz ?_; simp; done) | (rename_i hz; simp at hz; done) | (simp only [LN] at *; omega))))
        | ((with_reducible refine ixN_mk (k) ?_ ?_ ?_); (focus (first | rfl)); (focus ((try simp only [LN] at *) <;> omega)))
        | with_reducible first | refine Z.rowN_known hx ?_
        | with_reducible refine wr_i64 (by first | omega | (simp only [LN] at *; omega)) ?_
        | ((first | (with_reducible refine Z.callZ_mk ?_ (cf) ?_)); (focus ((repeat' (first | exact trivial | exact rfl | apply And.intro)); done))))
      all_goals (try (conv => whnf))
      all_goals try (show Nat.ble _ _ = true; rfl)
      all_goals try (exfalso; rename_i hz; cases hz; done)
      all_goals try (exfalso; (try simp only [LN] at *) <;> omega)
      all_goals first
        | ((refine Z.rndK ((k + 1)) (fun s => [0]) rfl rfl rfl rfl ?_ ?_ ?_ ?_); (focus (repeat' (first | exact trivial | exact congrArg (fun z : Int => some (AV.val (.int .i64 z))) hws.symm | exact rfl | apply And.intro))); (focus (repeat' (first | exact trivial | (intro b hb; cases hb; rfl) | apply And.intro))); (focus (exact ⟨by (try dsimp only); omega, fault_good HG hx he, HC⟩)); ((try dsimp only); omega))
    · have hres : chkR ops = ((k : Int), faultR ops k) := by rw [e1, HC, chkF_hit hi he]
      rw [hres]
      repeat' ((conv => whnf); first
        | (with_reducible refine spB_dec ?_ ?_ <;> intro _ <;> (try (exfalso; first | contradiction | omega | (rename_i hz; refine hz ?_; simp; done) | (rename_i hz; simp at hz; done) | (simp only [LN] at *; omega))))
        | (with_reducible refine spB_bne ?_ ?_ <;> intro _ <;> (try (exfalso; first | contradiction | omega | (rename_i hz; refine hz ?_; simp; done) | (rename_i hz; simp at hz; done) | (simp only [LN] at *; omega))))
        | ((with_reducible refine ixN_mk (k) ?_ ?_ ?_); (focus (first | rfl)); (focus ((try simp only [LN] at *) <;> omega)))
        | with_reducible first | refine Z.rowN_known hx ?_
        | with_reducible refine wr_i64 (by first | omega | (simp only [LN] at *; omega)) ?_
        | ((first | (with_reducible refine Z.callZ_mk ?_ (cf) ?_)); (focus ((repeat' (first | exact trivial | exact rfl | apply And.intro)); done))))
      all_goals (try (conv => whnf))
      all_goals try (show Nat.ble _ _ = true; rfl)
      all_goals try (exfalso; rename_i hz; cases hz; done)
      all_goals try (exfalso; (try simp only [LN] at *) <;> omega)
      all_goals first
        | ((first | (with_reducible apply Z.retF2)); (focus (exact rfl)); (repeat' (first | exact trivial | (with_reducible apply Z.frz_one) | (with_reducible apply Z.fq_int) | exact rfl | apply And.intro)); (all_goals (try exact (fun _ => none))); all_goals (rfl))
  have hil : k = ops.length := by omega
  subst hil
  rw [Nat.sub_self] at HC
  have e2 : chkR ops = match unrF ops ops 0 with | some i => (i, 162) | none => (0, 0) := by rw [e1, HC]; rfl
  clear HC e1
  repeat' ((conv => whnf); first
    | (with_reducible refine spB_dec ?_ ?_ <;> intro _ <;> (try (exfalso; first | contradiction | omega | (rename_i hz; refine hz ?_; simp; done) | (rename_i hz; simp at hz; done) | (simp only [LN] at *; omega))))
    | with_reducible first | refine Z.callZ_in tabOk 4 Try.f33 _ Try.func33 (by kernel_rfl) rfl rfl rfl ?_ | refine Z.callZ_in tabOk 29 Try.f52 _ Try.func52 (by kernel_rfl) rfl rfl rfl ?_
    | ((with_reducible apply ex_and); exact rfl)
    | ((with_reducible refine Z.RangeZ.red ?_); (refine Z.range_rule [(1, _), (8, _), (47, _)] rfl ⟨rfl, rfl, rfl, trivial⟩ rfl rfl ?_); intro lb hlb))
  all_goals (try (conv => whnf))
  all_goals try (show Nat.ble _ _ = true; rfl)
  all_goals try (exfalso; rename_i hz; cases hz; done)
  all_goals try (exfalso; (try simp only [LN] at *) <;> omega)
  refine Z.loopK tabOk (fun zq : Nat => [(10, .val (.int .i64 (zq : Int)))]) (fun zq : Nat => ([(1, some (Z.Ob.b ⟨[[.v (.bool (readAt ops zq 0 0)), .v (.bool (readAt ops zq 0 1)), .v (.bool (readAt ops zq 0 2)), .v (.bool (readAt ops zq 0 3)), .v (.bool (readAt ops zq 0 4)), .v (.bool (readAt ops zq 0 5)), .v (.bool (readAt ops zq 0 6)), .v (.bool (readAt ops zq 0 7))]], 8, 56, true⟩)), (2, some (Z.Ob.b ⟨[[.ro false 5 (ops.map eO)]], 1, 26, true⟩))] : Z.Kr)) (fun zq => zq ≤ ops.length) (fun zq => ops.length - zq) 0 4 [(0, _), (8, _), (9, _)] ⟨rfl, rfl, rfl, trivial⟩ [(0, some _), (3, some _)] ⟨rfl, rfl, trivial⟩ ?_ ?_ rfl rfl (Nat.zero_le _) ?_
  · repeat' (first | exact trivial | apply And.intro | exact ⟨_, rfl, Z.Imp.refl _⟩)
  · repeat' (first | exact trivial | exact (fun b hb => ⟨b, hb, Z.ImpO.refl b⟩) | (intro b hb; cases hb; refine ⟨_, rfl, ⟨rfl, rfl, rfl⟩, Z.imp_eq ?_⟩; simp only [readAt_zero]; rfl; done) | apply And.intro)
  rintro i HINV
  (try dsimp only at HINV); (try dsimp only)
  by_cases hi : i < ops.length
  · obtain ⟨x, hx⟩ := getElem?_some' (xs := ops) (i := i) hi
    have hxl : x.ins.length ≤ 1000 := hins x (List.mem_of_getElem? hx)
    have hgx := (alone_parts (HG i x hi hx)).2.2.1
    repeat' ((conv => whnf); first
      | (with_reducible refine spB_dec ?_ ?_ <;> intro _ <;> (try (exfalso; first | contradiction | omega | (rename_i hz; refine hz ?_; simp; done) | (rename_i hz; simp at hz; done) | (simp only [LN] at *; omega))))
      | ((with_reducible refine ixN_mk (i) ?_ ?_ ?_); (focus (first | rfl)); (focus ((try simp only [LN] at *) <;> omega)))
      | with_reducible first | refine Z.rowN_known hx ?_)
    all_goals (try (conv => whnf))
    all_goals try (show Nat.ble _ _ = true; rfl)
    all_goals try (exfalso; rename_i hz; cases hz; done)
    all_goals try (exfalso; (try simp only [LN] at *) <;> omega)
    refine Z.loopK tabOk (fun zq : Nat => [(18, .val (.int .i64 (zq : Int)))]) (fun zq : Nat => ([(1, some (Z.Ob.b ⟨[[.v (.bool (readAt ops i zq 0)), .v (.bool (readAt ops i zq 1)), .v (.bool (readAt ops i zq 2)), .v (.bool (readAt ops i zq 3)), .v (.bool (readAt ops i zq 4)), .v (.bool (readAt ops i zq 5)), .v (.bool (readAt ops i zq 6)), .v (.bool (readAt ops i zq 7))]], 8, 56, true⟩)), (2, some (Z.Ob.b ⟨[[.ro false 5 (ops.map eO)]], 1, 26, true⟩))] : Z.Kr)) (fun zq => zq ≤ x.ins.length) (fun zq => x.ins.length - zq) 0 5 [(0, _), (3, _), (8, _), (9, _), (10, _), (16, _), (17, _)] ⟨rfl, rfl, rfl, rfl, rfl, rfl, rfl, trivial⟩ [(0, some _), (3, some _), (4, some _)] ⟨rfl, rfl, rfl, trivial⟩ ?_ ?_ rfl rfl (Nat.zero_le _) ?_
    · repeat' (first | exact trivial | apply And.intro | exact ⟨_, rfl, Z.Imp.refl _⟩)
    · repeat' (first | exact trivial | exact (fun b hb => ⟨b, hb, Z.ImpO.refl b⟩) | apply And.intro)
    rintro k HINV
    (try dsimp only at HINV); (try dsimp only)
    by_cases hi2 : k < x.ins.length
    · obtain ⟨y, hy⟩ := getElem?_some' (xs := x.ins) (i := k) hi2
      have hyw := hgx y (List.mem_of_getElem? hy)
      have HR9 := readAt_step hx hy
      obtain ⟨yn, rfl⟩ : ∃ n : Nat, y = (n : Int) := ⟨y.toNat, by omega⟩
      have hy8 : yn < 8 := by omega
      rcases (show yn = 0 ∨ yn = 1 ∨ yn = 2 ∨ yn = 3 ∨ yn = 4 ∨ yn = 5 ∨ yn = 6 ∨ yn = 7 by omega) with rfl | rfl | rfl | rfl | rfl | rfl | rfl | rfl
      all_goals (
        repeat' ((conv => whnf); first
          | ((with_reducible apply spB_cong); (focus (simp only [beq_self_eq_true, bne_self_eq_false, Bool.true_bne, Bool.false_bne, Bool.bne_true, Bool.bne_false, Bool.true_beq, Bool.false_beq, Bool.not_true, Bool.not_false, Bool.not_not, Int.reduceBEq, Int.reduceBNe, Int.reduceLE, Int.reduceLT, Int.reduceEq, decide_true, decide_false]; rfl)))
          | with_reducible first | refine spB_no (by decide) ?_
          | (with_reducible refine spB_dec ?_ ?_ <;> intro _ <;> (try (exfalso; first | contradiction | omega | (rename_i hz; refine hz ?_; simp; done) | (rename_i hz; simp at hz; done) | (simp only [LN] at *; omega))))
          | with_reducible first | refine Z.rowN_known hy ?_
          | ((with_reducible apply ixN_lit); (focus (exact rfl)); (focus (exact rfl)))
          | ((with_reducible apply ixN_litp); (focus (exact rfl)); (focus ((try simp only [LN] at *) <;> omega)))
          | with_reducible refine wr_i64 (by first | omega | (simp only [LN] at *; omega)) ?_
          | ((with_reducible refine Z.CallZ.yl ?_); subst hlb; refine Z.yield_rule tabOk _ _ rfl rfl rfl rfl ?_))
        all_goals (try (conv => whnf)))
      all_goals try (show Nat.ble _ _ = true; rfl)
      all_goals try (exfalso; rename_i hz; cases hz; done)
      all_goals try (exfalso; (try simp only [LN] at *) <;> omega)
      all_goals first
        | ((refine Z.rndK ((k + 1)) (fun s => [0, 1, 2, 3, 4]) rfl rfl rfl rfl ?_ ?_ ?_ ?_); (focus (repeat' (first | exact trivial | exact rfl | apply And.intro))); (focus (repeat' (first | exact trivial | exact Z.blk_sub rfl (by simp only [HR9]; rfl) rfl | (intro b hb; cases hb; rfl) | apply And.intro))); (focus ((try dsimp only); omega)); ((try dsimp only); omega))
    have hil2 : k = x.ins.length := by omega
    subst hil2
    have HR8 := readAt_next hx
    repeat' ((conv => whnf); first
      | (with_reducible refine spB_dec ?_ ?_ <;> intro _ <;> (try (exfalso; first | contradiction | omega | (rename_i hz; refine hz ?_; simp; done) | (rename_i hz; simp at hz; done) | (simp only [LN] at *; omega))))
      | with_reducible refine wr_i64 (by first | omega | (simp only [LN] at *; omega)) ?_)
    all_goals (try (conv => whnf))
    all_goals try (show Nat.ble _ _ = true; rfl)
    all_goals try (exfalso; rename_i hz; cases hz; done)
    all_goals try (exfalso; (try simp only [LN] at *) <;> omega)
    all_goals first
      | ((refine Z.rndK ((i + 1)) (fun s => [0, 1, 2, 3]) rfl rfl rfl rfl ?_ ?_ ?_ ?_); (focus (repeat' (first | exact trivial | exact rfl | apply And.intro))); (focus (repeat' (first | exact trivial | exact Z.blk_sub rfl (by simp only [HR8]) rfl | (intro b hb; cases hb; subst hlb; rfl) | apply And.intro))); (focus ((try dsimp only); omega)); ((try dsimp only); omega))
  have hil3 : i = ops.length := by omega
  subst hil3
  have HR7 := readAt_end ops
  simp only [HR7]
  repeat' ((conv => whnf); first
    | (with_reducible refine spB_dec ?_ ?_ <;> intro _ <;> (try (exfalso; first | contradiction | omega | (rename_i hz; refine hz ?_; simp; done) | (rename_i hz; simp at hz; done) | (simp only [LN] at *; omega))))
    | ((with_reducible apply ex_and); exact rfl)
    | ((with_reducible refine Z.rngN.mk ?_); (try subst hlb)))
  all_goals (try (conv => whnf))
  all_goals try (show Nat.ble _ _ = true; rfl)
  all_goals try (exfalso; rename_i hz; cases hz; done)
  all_goals try (exfalso; (try simp only [LN] at *) <;> omega)
  refine Z.loopK tabOk (fun zq : Nat => [(55, .val (.int .i64 (zq : Int)))]) (fun zq : Nat => ([] : Z.Kr)) (fun zq => zq ≤ ops.length ∧ unrF ops ops 0 = unrF ops (ops.drop zq) zq) (fun zq => ops.length - zq) 0 4 [(8, _), (53, _), (54, _)] ⟨rfl, rfl, rfl, trivial⟩ [(0, some _), (1, some _), (2, some _)] ⟨rfl, rfl, rfl, trivial⟩ ?_ ?_ rfl rfl ⟨Nat.zero_le _, rfl⟩ ?_
  · repeat' (first | exact trivial | apply And.intro | exact ⟨_, rfl, Z.Imp.refl _⟩)
  · repeat' (first | exact trivial)
  rintro k HINV
  (try dsimp only at HINV); (try dsimp only)
  obtain ⟨HI, HU⟩ := HINV
  by_cases hi : k < ops.length
  · obtain ⟨x, hx⟩ := getElem?_some' (xs := ops) (i := k) hi
    by_cases hc : x.tag ≠ 7 ∧ readB ops (k : Int) = false
    · have hres : chkR ops = ((k : Int), 162) := by rw [e2, HU, unrF_hit hx hc]
      rw [hres]
      obtain ⟨hc1, hc2⟩ := hc
      clear HR7 HU e2 hres HG
      rcases (show k = 0 ∨ k = 1 ∨ k = 2 ∨ k = 3 ∨ k = 4 ∨ k = 5 ∨ k = 6 ∨ k = 7 by omega) with rfl | rfl | rfl | rfl | rfl | rfl | rfl | rfl
      all_goals (
        repeat' ((conv => whnf); first
          | with_reducible first | refine spB_t ?_
          | with_reducible first | refine spB_not ?_
          | (with_reducible refine spB_dec ?_ ?_ <;> intro _ <;> (try (exfalso; first | contradiction | omega | (rename_i hz; refine hz ?_; simp; done) | (rename_i hz; simp at hz; done) | (simp only [LN] at *; omega))))
          | (with_reducible refine spB_bne ?_ ?_ <;> intro _ <;> (try (exfalso; first | contradiction | omega | (rename_i hz; refine hz ?_; simp; done) | (rename_i hz; simp at hz; done) | (simp only [LN] at *; omega))))
          | (with_reducible refine spB_mk ?_ ?_ <;> intro _ <;> (try (exfalso; first | contradiction | omega | (rename_i hz; refine hz ?_; simp; done) | (rename_i hz; simp at hz; done) | (simp only [LN] at *; omega))))
          | with_reducible first | refine Z.rowN_known hx ?_
          | ((with_reducible apply ixN_lit); (focus (exact rfl)); (focus (exact rfl)))
          | ((with_reducible apply ixN_litp); (focus (exact rfl)); (focus ((try simp only [LN] at *) <;> omega)))
          | with_reducible refine wr_i64 (by first | omega | (simp only [LN] at *; omega)) ?_)
        all_goals (try (conv => whnf)))
      all_goals try (show Nat.ble _ _ = true; rfl)
      all_goals try (exfalso; rename_i hz; cases hz; done)
      all_goals try (exfalso; (try simp only [LN] at *) <;> omega)
      all_goals first
        | ((first | (with_reducible apply Z.retF2)); (focus (exact rfl)); (repeat' (first | exact trivial | (with_reducible apply Z.frz_one) | (with_reducible apply Z.fq_int) | exact rfl | apply And.intro)); (all_goals (try exact (fun _ => none))); all_goals (rfl))
        | (exfalso; simp_all; done)
    · rw [unrF_at hx hc] at HU
      have hc2 : x.tag = 7 ∨ readB ops (k : Int) = true := by
        by_cases h7 : x.tag = 7
        · exact .inl h7
        · right; cases hrb : readB ops (k : Int) with
          | true => rfl
          | false => exact absurd ⟨h7, hrb⟩ hc
      clear HR7 HG hc
      rcases (show k = 0 ∨ k = 1 ∨ k = 2 ∨ k = 3 ∨ k = 4 ∨ k = 5 ∨ k = 6 ∨ k = 7 by omega) with rfl | rfl | rfl | rfl | rfl | rfl | rfl | rfl
      all_goals (
        repeat' ((conv => whnf); first
          | with_reducible first | refine spB_t ?_
          | with_reducible first | refine spB_no (by decide) ?_ | refine spB_not ?_
          | (with_reducible refine spB_dec ?_ ?_ <;> intro _ <;> (try (exfalso; first | contradiction | omega | (rename_i hz; refine hz ?_; simp; done) | (rename_i hz; simp at hz; done) | (simp only [LN] at *; omega))))
          | (with_reducible refine spB_bne ?_ ?_ <;> intro _ <;> (try (exfalso; first | contradiction | omega | (rename_i hz; refine hz ?_; simp; done) | (rename_i hz; simp at hz; done) | (simp only [LN] at *; omega))))
          | (with_reducible refine spB_mk ?_ ?_ <;> intro _ <;> (try (exfalso; first | contradiction | omega | (rename_i hz; refine hz ?_; simp; done) | (rename_i hz; simp at hz; done) | (simp only [LN] at *; omega))))
          | with_reducible first | refine Z.rowN_known hx ?_
          | ((with_reducible apply ixN_lit); (focus (exact rfl)); (focus (exact rfl)))
          | ((with_reducible apply ixN_litp); (focus (exact rfl)); (focus ((try simp only [LN] at *) <;> omega)))
          | with_reducible refine wr_i64 (by first | omega | (simp only [LN] at *; omega)) ?_)
        all_goals (try (conv => whnf)))
      all_goals try (show Nat.ble _ _ = true; rfl)
      all_goals try (exfalso; rename_i hz; cases hz; done)
      all_goals try (exfalso; (try simp only [LN] at *) <;> omega)
      all_goals first
        | ((refine Z.rndK ((0 + 1)) (fun s => [0, 1, 2, 3]) rfl rfl rfl rfl ?_ ?_ ?_ ?_); (focus (repeat' (first | exact trivial | exact rfl | apply And.intro))); (focus (repeat' (first | exact trivial | (intro b hb; cases hb; rfl) | apply And.intro))); (focus (exact ⟨by (try dsimp only); omega, HU⟩)); ((try dsimp only); omega))
        | ((refine Z.rndK ((1 + 1)) (fun s => [0, 1, 2, 3]) rfl rfl rfl rfl ?_ ?_ ?_ ?_); (focus (repeat' (first | exact trivial | exact rfl | apply And.intro))); (focus (repeat' (first | exact trivial | (intro b hb; cases hb; rfl) | apply And.intro))); (focus (exact ⟨by (try dsimp only); omega, HU⟩)); ((try dsimp only); omega))
        | ((refine Z.rndK ((2 + 1)) (fun s => [0, 1, 2, 3]) rfl rfl rfl rfl ?_ ?_ ?_ ?_); (focus (repeat' (first | exact trivial | exact rfl | apply And.intro))); (focus (repeat' (first | exact trivial | (intro b hb; cases hb; rfl) | apply And.intro))); (focus (exact ⟨by (try dsimp only); omega, HU⟩)); ((try dsimp only); omega))
        | ((refine Z.rndK ((3 + 1)) (fun s => [0, 1, 2, 3]) rfl rfl rfl rfl ?_ ?_ ?_ ?_); (focus (repeat' (first | exact trivial | exact rfl | apply And.intro))); (focus (repeat' (first | exact trivial | (intro b hb; cases hb; rfl) | apply And.intro))); (focus (exact ⟨by (try dsimp only); omega, HU⟩)); ((try dsimp only); omega))
        | ((refine Z.rndK ((4 + 1)) (fun s => [0, 1, 2, 3]) rfl rfl rfl rfl ?_ ?_ ?_ ?_); (focus (repeat' (first | exact trivial | exact rfl | apply And.intro))); (focus (repeat' (first | exact trivial | (intro b hb; cases hb; rfl) | apply And.intro))); (focus (exact ⟨by (try dsimp only); omega, HU⟩)); ((try dsimp only); omega))
        | ((refine Z.rndK ((5 + 1)) (fun s => [0, 1, 2, 3]) rfl rfl rfl rfl ?_ ?_ ?_ ?_); (focus (repeat' (first | exact trivial | exact rfl | apply And.intro))); (focus (repeat' (first | exact trivial | (intro b hb; cases hb; rfl) | apply And.intro))); (focus (exact ⟨by (try dsimp only); omega, HU⟩)); ((try dsimp only); omega))
        | ((refine Z.rndK ((6 + 1)) (fun s => [0, 1, 2, 3]) rfl rfl rfl rfl ?_ ?_ ?_ ?_); (focus (repeat' (first | exact trivial | exact rfl | apply And.intro))); (focus (repeat' (first | exact trivial | (intro b hb; cases hb; rfl) | apply And.intro))); (focus (exact ⟨by (try dsimp only); omega, HU⟩)); ((try dsimp only); omega))
        | ((refine Z.rndK ((7 + 1)) (fun s => [0, 1, 2, 3]) rfl rfl rfl rfl ?_ ?_ ?_ ?_); (focus (repeat' (first | exact trivial | exact rfl | apply And.intro))); (focus (repeat' (first | exact trivial | (intro b hb; cases hb; rfl) | apply And.intro))); (focus (exact ⟨by (try dsimp only); omega, HU⟩)); ((try dsimp only); omega))
        | (exfalso; simp_all; done)
  have hil4 : k = ops.length := by omega
  subst hil4
  rw [List.drop_length] at HU
  have hres : chkR ops = (0, 0) := by rw [e2, HU]; rfl
  rw [hres]
  repeat' ((conv => whnf); first
    | (with_reducible refine spB_dec ?_ ?_ <;> intro _ <;> (try (exfalso; first | contradiction | omega | (rename_i hz; refine hz ?_; simp; done) | (rename_i hz; simp at hz; done) | (simp only [LN] at *; omega)))))
  all_goals (try (conv => whnf))
  all_goals try (show Nat.ble _ _ = true; rfl)
  all_goals try (exfalso; rename_i hz; cases hz; done)
  all_goals try (exfalso; (try simp only [LN] at *) <;> omega)
  all_goals first
    | ((first | (with_reducible apply Z.retF2)); (focus (exact rfl)); (repeat' (first | exact trivial | (with_reducible apply Z.frz_one) | (with_reducible apply Z.fq_int) | exact rfl | apply And.intro)); (all_goals (try exact (fun _ => none))); all_goals (rfl))

end Go.Proofs.Ytjjdfiapcpbapaa
namespace Go.Proofs.Ytjjdfiapcpbapaa
open Go Go.RowKit Wx
set_option linter.unusedVariables false
set_option linter.unusedSimpArgs false
set_option maxHeartbeats 4000000
theorem chkF_some {ops : List Op} : ∀ (n i : Nat) (r : Int × Int), chkF ops n i = some r → (i : Int) ≤ r.1 ∧ r.1 < ((i + n : Nat) : Int) ∧ r.2 ≠ 0
  | 0, _, _, h => by cases h
  | n + 1, i, r, h => by
    rw [chkF] at h
    split at h
    · have := chkF_some n (i + 1) r h; refine ⟨by omega, by omega, this.2.2⟩
    · rename_i h0
      cases h
      exact ⟨Int.le_refl _, by simp only; omega, h0⟩
theorem chkF_none {ops : List Op} : ∀ (n i : Nat), chkF ops n i = none → ∀ j, i ≤ j → j < i + n → faultR ops j = 0
  | 0, _, _, j, h1, h2 => by exfalso; omega
  | n + 1, i, h, j, h1, h2 => by
    rw [chkF] at h
    split at h
    · rename_i h0
      by_cases e : j = i
      · subst e; exact h0
      · exact chkF_none n (i + 1) h j (by omega) (by omega)
    · cases h
/-- A graph that may be: it has operators, and none of them has a fault. -/
theorem chk_ok {ops : List Op} (h : (chkR ops).2 = 0) : 0 < ops.length ∧ ops.length ≤ 8 ∧ (∀ j, j < ops.length → faultR ops j = 0) ∧ unrF ops ops 0 = none := by
  unfold chkR at h
  by_cases hb : ops.length = 0 ∨ 8 < ops.length
  · rw [if_pos hb] at h; cases h
  · rw [if_neg hb] at h
    cases hc : chkF ops ops.length 0 with
    | some r => rw [hc] at h; exact absurd h (chkF_some _ _ _ hc).2.2
    | none =>
      rw [hc] at h
      cases hu : unrF ops ops 0 with
      | some i => rw [hu] at h; cases h
      | none => exact ⟨by omega, by omega, fun j hj => chkF_none _ _ hc j (by omega) (by omega), rfl⟩
end Go.Proofs.Ytjjdfiapcpbapaa
namespace Go.Proofs.Ytjjdfiapcpbapaa
open Go Go.RowKit Wx
set_option linter.unusedVariables false
set_option linter.unusedSimpArgs false
set_option maxHeartbeats 4000000
def encO (o : Op) : List Int := [o.tag % 256, o.wid % 256] ++ be 8 (IntKind.u64.wrap o.a) ++ be 8 (IntKind.u64.wrap o.b) ++ [(o.ins.length : Int) % 256] ++ o.ins.map (· % 256)
def encG (ops : List Op) : List Int := ((ops.length : Int) % 256) :: ops.flatMap encO
theorem encO_len (o : Op) : (encO o).length = 19 + o.ins.length := by unfold encO; simp [be_len]; omega
theorem low_by {K : Nat → Option Blk} {i n : Nat} {c : Option Nat} {L : List Int} {R : List (List Ce)} (h : K i = some ⟨R, 1, 5, false⟩) (hR : R = L.map cB) (hn : n = L.length) : lowV K (.pl (.one (.osl i 0 n c))) (.one (.ro false 1 (L.map eB))) := by
  show lowC K (.osl i 0 n c) (.ro false 1 (L.map eB))
  subst hR hn
  simp only [lowC, h]
  exact ⟨_, rfl, by simp, by rw [List.drop_zero, List.take_of_length_le (by simp), List.map_map, List.map_map]; exact List.map_congr_left fun x _ => rfl⟩
theorem tk_app {E T : List Int} {S : List (List Ce)} {n : Nat} (hS : S = T.map cB) (hn : n = E.length) : List.take n (E.map cB) ++ S = (E ++ T).map cB := by
  subst hS hn
  rw [List.take_of_length_le (by simp), List.map_append]
theorem tk_appr {E T : List Int} {S : List (List Ce)} {n : Nat} {r : Nat → Nat} (hS : S = T.map cB) (hn : n = E.length) : List.take n ((E.map cB).map (List.map (Ce.ren r))) ++ S = (E ++ T).map cB := by
  rw [ren_cB]; exact tk_app hS hn
theorem encs_len {ops : List Op} (hi : ∀ o ∈ ops, o.ins.length ≤ 1000) (z : Int) : ∀ k, (z :: (ops.take k).flatMap encO).length ≤ 1 + 1019 * ops.length := by
  intro k
  have h : ∀ l : List Op, (∀ o ∈ l, o.ins.length ≤ 1000) → (l.flatMap encO).length ≤ 1019 * l.length := by
    intro l
    induction l with
    | nil => intro _; simp
    | cons o l ih =>
      intro h
      have h1 := ih fun p hp => h p (by simp [hp])
      have h2 := encO_len o
      have h3 := h o (by simp)
      simp only [List.flatMap_cons, List.length_append, List.length_cons]
      omega
  have h2 := h (ops.take k) fun o ho => hi o (List.mem_of_mem_take ho)
  have h3 : (ops.take k).length ≤ ops.length := by rw [List.length_take]; exact Nat.min_le_right _ _
  simp only [List.length_cons]
  omega
theorem encs_snoc {ops : List Op} {k : Nat} {o : Op} (h : ops[k]? = some o) : (ops.take (k + 1)).flatMap encO = (ops.take k).flatMap encO ++ encO o := by rw [take_snoc h, List.flatMap_append]; simp
/-- What Encode tells. -/
def encR (ops : List Op) : List Int × Int := if (chkR ops).2 = 0 then (encG ops, 0) else ([], (chkR ops).2)
theorem encode_con (ops : List Op) (hins : ∀ o ∈ ops, o.ins.length ≤ 1000) (hol : ops.length ≤ 1000) : Con Try.prog 24 [.agg [.ro false 5 (ops.map eO)]] (fun rx rK rt => rx = .tup [.one (.ro true 1 ((encR ops).1.map eB)), .one (.v (.int .i64 (encR ops).2))] ∧ rK = [] ∧ rt = 0) := by
  refine Z.con_ofF tabOk 72 Try.f24 _ Try.func24 (by kernel_rfl) rfl rfl rfl rfl ?_
  have cc := check_con ops hins hol
  by_cases hok : (chkR ops).2 = 0
  rotate_left
  · have e1 : encR ops = ([], (chkR ops).2) := by unfold encR; rw [if_neg hok]
    rw [e1]
    generalize chkR ops = C at *
    repeat' ((conv => whnf); first
      | (with_reducible refine spB_bne ?_ ?_ <;> intro _ <;> (try (exfalso; first | contradiction | omega | (rename_i hz; refine hz ?_; simp; done) | (rename_i hz; simp at hz; done) | (simp only [LN] at *; omega))))
      | ((first | (with_reducible refine Z.callZ_mk ?_ (cc) ?_)); (focus ((repeat' (first | exact trivial | exact rfl | apply And.intro)); done))))
    all_goals (try (conv => whnf))
    all_goals try (show Nat.ble _ _ = true; rfl)
    all_goals try (exfalso; rename_i hz; cases hz; done)
    all_goals try (exfalso; (try simp only [LN] at *) <;> omega)
    all_goals first
      | ((first | (with_reducible apply Z.retF2)); (focus (exact rfl)); (repeat' (first | exact trivial | (with_reducible apply Z.frz_one) | (exact Z.frz_nil) | exact rfl | apply And.intro)); (all_goals (try exact (fun _ => none))); all_goals (first | (simp; done)))
  have e1 : encR ops = (encG ops, 0) := by unfold encR; rw [if_pos hok]
  rw [e1]
  rw [hok] at cc
  have hen := encs_len hins (((List.map eO ops).length : Int) % 256)
  repeat' ((conv => whnf); first
    | ((with_reducible apply spB_cong); (focus (simp only [beq_self_eq_true, bne_self_eq_false, Bool.true_bne, Bool.false_bne, Bool.bne_true, Bool.bne_false, Bool.true_beq, Bool.false_beq, Bool.not_true, Bool.not_false, Bool.not_not, Int.reduceBEq, Int.reduceBNe, Int.reduceLE, Int.reduceLT, Int.reduceEq, decide_true, decide_false]; rfl)))
    | with_reducible first | refine spB_no (by decide) ?_
    | with_reducible first | refine wr_mod8 ?_
    | ((first | (with_reducible refine Z.callZ_mk ?_ (cc) ?_)); (focus ((repeat' (first | exact trivial | exact rfl | apply And.intro)); done))))
  all_goals (try (conv => whnf))
  all_goals try (show Nat.ble _ _ = true; rfl)
  all_goals try (exfalso; rename_i hz; cases hz; done)
  all_goals try (exfalso; (try simp only [LN] at *) <;> omega)
  refine Z.loopK tabOk (fun zq : Nat => [(27, .val (.int .i64 (zq : Int))), (6, .c (.osl 1 0 ((((List.map eO ops).length : Int) % 256) :: (ops.take zq).flatMap encO).length none))]) (fun zq : Nat => ([(1, some (Z.Ob.b ⟨((((List.map eO ops).length : Int) % 256) :: (ops.take zq).flatMap encO).map cB, 1, 5, false⟩))] : Z.Kr)) (fun zq => zq ≤ ops.length) (fun zq => ops.length - zq) 0 2 [(25, _), (26, _)] ⟨rfl, rfl, trivial⟩ [(0, some _)] ⟨rfl, trivial⟩ ?_ ?_ rfl rfl (Nat.zero_le _) ?_
  · repeat' (first | exact trivial | apply And.intro | exact ⟨_, rfl, Z.Imp.refl _⟩ | exact ⟨_, rfl, Z.Imp.oslcn (by simp)⟩)
  · repeat' (first | exact trivial | exact (fun b hb => ⟨b, hb, Z.ImpO.refl b⟩) | apply And.intro)
  rintro k HINV
  (try dsimp only at HINV); (try dsimp only)
  have hek := hen k
  by_cases hi : k < ops.length
  · obtain ⟨x, hx⟩ := getElem?_some' (xs := ops) (i := k) hi
    have hxl := hins x (List.mem_of_getElem? hx)
    have hsn := encs_snoc hx
    generalize hE : ((((List.map eO ops).length : Int) % 256) :: (ops.take k).flatMap encO) = E at *
    have cp1 := putO64_con (E ++ [x.tag % 256, x.wid % 256]) (IntKind.u64.wrap x.a) (by simp; omega) (u64_rng _)
    have cp2 := putO64_con (E ++ [x.tag % 256, x.wid % 256] ++ be 8 (IntKind.u64.wrap x.a)) (IntKind.u64.wrap x.b) (by simp [be_len]; omega) (u64_rng _)
    have hb1 : (be 8 (IntKind.u64.wrap x.a)).length = 8 := be_len
    have hb2 : (be 8 (IntKind.u64.wrap x.b)).length = 8 := be_len
    repeat' ((conv => whnf); first
      | (with_reducible refine spB_dec ?_ ?_ <;> intro _ <;> (try (exfalso; first | contradiction | omega | (rename_i hz; refine hz ?_; simp; done) | (rename_i hz; simp at hz; done) | (simp only [LN] at *; omega))))
      | with_reducible first | refine Z.rowN_known hx ?_
      | ((with_reducible refine apdE_n ?_); (with_reducible refine apdN.mk ?_ ?_ ?_ ?_ ?_ ?_); (focus rfl); (focus (exact one_all (by rfl))); (focus (first | (show _ ≤ (List.map (List.map (Ce.ren _)) (List.map cB _)).length; simp only [List.length_map, List.length_append, be_len]; exact Nat.le_refl _) | ((try simp only [LN] at *) <;> omega))); (iterate 2 (focus ((try simp only [LN] at *) <;> omega))))
      | with_reducible first | refine wr_mod8 ?_
      | ((with_reducible apply ixN_litp); (focus (exact rfl)); (focus ((try simp only [LN] at *) <;> omega)))
      | with_reducible first | refine wr_mk _ rfl ?_
      | ((first | (with_reducible refine Z.callZ_mk ?_ (cp1) ?_)); (focus ((repeat' (first | exact trivial | ((apply low_by); (focus (exact rfl)); (focus (first | exact tk_app rfl rfl)); (focus (first | (simp [be_len]; done)))) | exact rfl | apply And.intro)); done)))
      | ((first | (with_reducible refine Z.callZ_mk ?_ (cp2) ?_)); (focus ((repeat' (first | exact trivial | ((apply low_by); (focus (exact rfl)); (focus (first | exact ren_cB)); (focus (first | (simp [be_len]; done)))) | exact rfl | apply And.intro)); done))))
    all_goals (try (conv => whnf))
    all_goals try (show Nat.ble _ _ = true; rfl)
    all_goals try (exfalso; rename_i hz; cases hz; done)
    all_goals try (exfalso; (try simp only [LN] at *) <;> omega)
    have HI0 : ∀ r : Nat → Nat, List.take ((E ++ [x.tag % 256, x.wid % 256] ++ be 8 (IntKind.u64.wrap x.a)).length + 8) (List.map (List.map (Ce.ren r)) (List.map cB (E ++ [x.tag % 256, x.wid % 256] ++ be 8 (IntKind.u64.wrap x.a) ++ be 8 (IntKind.u64.wrap x.b)))) ++ [cB (((List.map eI x.ins).length : Int) % 256)] = List.map cB (E ++ [x.tag % 256, x.wid % 256] ++ be 8 (IntKind.u64.wrap x.a) ++ be 8 (IntKind.u64.wrap x.b) ++ [((List.map eI x.ins).length : Int) % 256] ++ (x.ins.take 0).map (· % 256)) := fun r => (tk_appr (T := [((List.map eI x.ins).length : Int) % 256]) (S := [cB (((List.map eI x.ins).length : Int) % 256)]) rfl (by simp [be_len])).trans (by simp)
    refine Z.loopK tabOk (fun zq : Nat => [(60, .val (.int .i64 (zq : Int))), (6, .c (.osl 8 0 (E ++ [x.tag % 256, x.wid % 256] ++ be 8 (IntKind.u64.wrap x.a) ++ be 8 (IntKind.u64.wrap x.b) ++ [((List.map eI x.ins).length : Int) % 256] ++ (x.ins.take zq).map (· % 256)).length none))]) (fun zq : Nat => ([(8, some (Z.Ob.b ⟨(E ++ [x.tag % 256, x.wid % 256] ++ be 8 (IntKind.u64.wrap x.a) ++ be 8 (IntKind.u64.wrap x.b) ++ [((List.map eI x.ins).length : Int) % 256] ++ (x.ins.take zq).map (· % 256)).map cB, 1, 5, false⟩))] : Z.Kr)) (fun zq => zq ≤ x.ins.length) (fun zq => x.ins.length - zq) 0 9 [(25, _), (26, _), (27, _), (58, _), (59, _)] ⟨rfl, rfl, rfl, rfl, rfl, trivial⟩ [(0, some _)] ⟨rfl, trivial⟩ ?_ ?_ rfl rfl (Nat.zero_le _) ?_
    · repeat' (first | exact trivial | apply And.intro | exact ⟨_, rfl, Z.Imp.refl _⟩ | exact ⟨_, rfl, Z.Imp.oslcn (by simp [be_len])⟩)
    · repeat' (first | exact trivial | (intro b hb; cases hb; refine ⟨_, rfl, ⟨rfl, rfl, rfl⟩, Z.imp_eq ?_⟩; first | rfl | exact HI0 _; done) | apply And.intro)
    rintro q HINV
    (try dsimp only at HINV); (try dsimp only)
    by_cases hq : q < x.ins.length
    · obtain ⟨y, hy⟩ := getElem?_some' (xs := x.ins) (i := q) hq
      have haq : (E ++ [x.tag % 256, x.wid % 256] ++ be 8 (IntKind.u64.wrap x.a) ++ be 8 (IntKind.u64.wrap x.b) ++ [((List.map eI x.ins).length : Int) % 256] ++ (x.ins.take (q + 1)).map (· % 256)) = (E ++ [x.tag % 256, x.wid % 256] ++ be 8 (IntKind.u64.wrap x.a) ++ be 8 (IntKind.u64.wrap x.b) ++ [((List.map eI x.ins).length : Int) % 256] ++ (x.ins.take q).map (· % 256)) ++ [y % 256] := by rw [take_snoc hy, List.map_append, ← List.append_assoc]; rfl
      have haql : (E ++ [x.tag % 256, x.wid % 256] ++ be 8 (IntKind.u64.wrap x.a) ++ be 8 (IntKind.u64.wrap x.b) ++ [((List.map eI x.ins).length : Int) % 256] ++ (x.ins.take q).map (· % 256)).length + 1 = (E ++ [x.tag % 256, x.wid % 256] ++ be 8 (IntKind.u64.wrap x.a) ++ be 8 (IntKind.u64.wrap x.b) ++ [((List.map eI x.ins).length : Int) % 256] ++ (x.ins.take (q + 1)).map (· % 256)).length := by rw [haq, List.length_append (bs := [y % 256])]; rfl
      have haqb : (E ++ [x.tag % 256, x.wid % 256] ++ be 8 (IntKind.u64.wrap x.a) ++ be 8 (IntKind.u64.wrap x.b) ++ [((List.map eI x.ins).length : Int) % 256] ++ (x.ins.take q).map (· % 256)).length ≤ 2000000 := by simp only [List.length_append, List.length_map, List.length_take, be_len, List.length_cons, List.length_nil]; omega
      generalize hAq : (E ++ [x.tag % 256, x.wid % 256] ++ be 8 (IntKind.u64.wrap x.a) ++ be 8 (IntKind.u64.wrap x.b) ++ [((List.map eI x.ins).length : Int) % 256] ++ (x.ins.take q).map (· % 256)) = Aq at *
      repeat' ((conv => whnf); first
        | (with_reducible refine spB_dec ?_ ?_ <;> intro _ <;> (try (exfalso; first | contradiction | omega | (rename_i hz; refine hz ?_; simp; done) | (rename_i hz; simp at hz; done) | (simp only [LN] at *; omega))))
        | with_reducible first | refine Z.rowN_known hy ?_
        | ((with_reducible refine apdE_n ?_); (with_reducible refine apdN.mk ?_ ?_ ?_ ?_ ?_ ?_); (focus rfl); (focus (exact one_all (by rfl))); (focus (first | ((try simp only [LN] at *) <;> omega))); (iterate 2 (focus ((try simp only [LN] at *) <;> omega))))
        | with_reducible first | refine wr_mod8 ?_
        | ((with_reducible apply ixN_litp); (focus (exact rfl)); (focus ((try simp only [LN] at *) <;> omega)))
        | with_reducible refine wr_i64 (by first | omega | (simp only [LN] at *; omega)) ?_)
      all_goals (try (conv => whnf))
      all_goals try (show Nat.ble _ _ = true; rfl)
      all_goals try (exfalso; rename_i hz; cases hz; done)
      all_goals try (exfalso; (try simp only [LN] at *) <;> omega)
      all_goals first
        | ((refine Z.rndK ((q + 1)) (fun s => [0, 1, 2, 3, 4, 5, 6, 7, s.idAt 6]) rfl rfl rfl rfl ?_ ?_ ?_ ?_); (focus (repeat' (first | exact trivial | exact congrArg (fun n => some (AV.c (Ce.osl _ 0 n none))) haql | exact rfl | apply And.intro))); (focus (repeat' (first | exact trivial | exact Z.blk_sub rfl ((tk_app (T := [y % 256]) rfl rfl).trans (congrArg (List.map cB) haq.symm)) (ren_map fun _ => rfl) | (intro b hb; cases hb; rfl) | apply And.intro))); (focus ((try dsimp only); omega)); ((try dsimp only); omega))
    have hql : q = x.ins.length := by omega
    subst hql
    rw [List.take_length]
    have hAe : E ++ [x.tag % 256, x.wid % 256] ++ be 8 (IntKind.u64.wrap x.a) ++ be 8 (IntKind.u64.wrap x.b) ++ [((List.map eI x.ins).length : Int) % 256] ++ x.ins.map (· % 256) = ((((List.map eO ops).length : Int) % 256) :: (ops.take (k + 1)).flatMap encO) := by rw [hsn, ← List.cons_append, hE, encO, List.length_map]; simp only [List.append_assoc]
    rw [hAe]
    repeat' ((conv => whnf); first
      | (with_reducible refine spB_dec ?_ ?_ <;> intro _ <;> (try (exfalso; first | contradiction | omega | (rename_i hz; refine hz ?_; simp; done) | (rename_i hz; simp at hz; done) | (simp only [LN] at *; omega))))
      | with_reducible refine wr_i64 (by first | omega | (simp only [LN] at *; omega)) ?_)
    all_goals (try (conv => whnf))
    all_goals try (show Nat.ble _ _ = true; rfl)
    all_goals try (exfalso; rename_i hz; cases hz; done)
    all_goals try (exfalso; (try simp only [LN] at *) <;> omega)
    all_goals first
      | ((refine Z.rndK ((k + 1)) (fun s => [0, s.idAt 6]) rfl rfl rfl rfl ?_ ?_ ?_ ?_); (focus (repeat' (first | exact trivial | exact rfl | apply And.intro))); (focus (repeat' (first | exact trivial | (intro b hb; cases hb; rfl) | exact Z.blk_sub rfl rfl (ren_map fun _ => rfl) | apply And.intro))); (focus ((try dsimp only); omega)); ((try dsimp only); omega))
  have hkl : k = ops.length := by omega
  subst hkl
  rw [List.take_length, List.length_map]
  rw [show (((ops.length : Int) % 256) :: ops.flatMap encO) = encG ops from rfl]
  repeat' ((conv => whnf); first
    | (with_reducible refine spB_dec ?_ ?_ <;> intro _ <;> (try (exfalso; first | contradiction | omega | (rename_i hz; refine hz ?_; simp; done) | (rename_i hz; simp at hz; done) | (simp only [LN] at *; omega)))))
  all_goals (try (conv => whnf))
  all_goals try (show Nat.ble _ _ = true; rfl)
  all_goals try (exfalso; rename_i hz; cases hz; done)
  all_goals try (exfalso; (try simp only [LN] at *) <;> omega)
  all_goals first
    | ((first | (with_reducible apply Z.retF2)); (focus (exact rfl)); (repeat' (first | exact trivial | (with_reducible apply Z.frz_one) | (with_reducible apply Z.fq_int) | ((with_reducible apply Z.fq_osl); (focus (exact rfl)); (focus (first | exact rfl)); (focus (exact fun _ => rfl))) | exact rfl | apply And.intro)); (all_goals (try exact (fun _ => none))); all_goals (rfl))

end Go.Proofs.Ytjjdfiapcpbapaa
namespace Go.Proofs.Ytjjdfiapcpbapaa
open Go Go.RowKit Wx
set_option linter.unusedVariables false
set_option linter.unusedSimpArgs false
set_option maxHeartbeats 4000000
theorem loopZ_unr1 {P : Program} {T : Tab} {n m : Nat} {rd : Option Nat} {s : Z.S} {c : Code} {Q : Exit → Z.S → Prop} (hT : TabOk P T) (hs : Wx.get s.F 5 = some (.val (.int .i64 1))) (h : Z.loopU P T n m rd c Q 2 s) : Z.LoopZ P n m rd c s Q := Z.loopZ_unroll hT 2 h
theorem wr_shl8 {x : Int} {A : Int → Prop} (h : 0 ≤ x ∧ x < 72057594037927936) (k : A (x * 256)) : wr .u64 (x * 2 ^ (min (Int.toNat 8) IntKind.u64.bits)) A := ⟨x * 256, by
  show IntKind.u64.wrap (x * 2 ^ 8) = _
  rw [u64_in _ (by omega)]; omega, k⟩
theorem or_add {x b : Int} (h : 0 ≤ x ∧ x < 72057594037927936) (hb : 0 ≤ b ∧ b ≤ 255) : IntKind.u64.wrap ((BitVec.ofInt IntKind.u64.bits (x * 256) ||| BitVec.ofInt IntKind.u64.bits b).toNat : Int) = x * 256 + b := by
  have e := or256 h hb
  rw [u64_in (x * 2 ^ 8) (by omega), u64_in b (by omega), show x * 2 ^ 8 = x * 256 by omega] at e
  exact e
theorem wr_or0 {b : Int} {A : Int → Prop} (hb : 0 ≤ b ∧ b ≤ 255) (k : A b) : wr .u8 (IntKind.u64.wrap ((BitVec.ofInt IntKind.u64.bits (0 * 256) ||| BitVec.ofInt IntKind.u64.bits b).toNat : Int)) A := ⟨b, by
  rw [or_add (by decide) hb, u8_mod]; omega, k⟩
theorem copy_rows {l : List Int} {m k n : Nat} {z : List Ce} {fl : Bool} (hm : m = l.length) (hk : l.length ≤ k) (hn : n = l.length) : (lay (List.replicate m z) 0 (List.take k ((l.map eB).map (List.map (RT.ce fl))))).take n = l.map cB := by
  subst hn
  rw [Z.lay_copy hm hk (fun _ => rfl)]
  exact List.take_of_length_le (by simp)
theorem tk_map {r : List Int} : List.take r.length (List.map eB r) = List.map eB r := List.take_of_length_le (by simp)
theorem loopQ3 {P : Program} {n m : Nat} {rd : Option Nat} {s : Z.S} {c : Code} {Q : Exit → Z.S → Prop} {s9 : Z.S} (h : ∀ Q0 : Exit → Z.S → Prop, Q0 (.exit 0) s9 → Z.LoopZ P n m rd c s Q0) (k : Q (.exit 0) s9) : Z.LoopZ P n m rd c s Q := h Q k
theorem isB_take {l : List Int} {n : Nat} (h : isB l) : isB (l.take n) := fun b hb => h b (List.mem_of_mem_take hb)
theorem isB_drop {l : List Int} {n : Nat} (h : isB l) : isB (l.drop n) := fun b hb => h b (List.mem_of_mem_drop hb)
theorem rest_at {R : List (List RT)} {l : List Int} {j : Nat} {z : Int} (hR : R = l.map eB) (h : l[j]? = some z) : R[j]? = some (eB z) := by
  rw [hR, List.getElem?_map, h]; rfl
theorem pow_le7 {j : Nat} (h : j ≤ 7) : (256 : Int) ^ j ≤ 256 ^ 7 := by
  have : ∀ j : Fin 8, (256 : Int) ^ j.1 ≤ 256 ^ 7 := by decide
  exact this ⟨j, by omega⟩
theorem num_lt {l : List Int} {i : Nat} (hi : i < 8) (hl : i ≤ l.length) (hB : isB l) : 0 ≤ numR (l.take i) ∧ numR (l.take i) < 72057594037927936 := by
  have h1 := numR_lt (n := i) (l := l.take i) (by simp; omega) (isB_take hB)
  have h2 := pow_le7 (j := i) (by omega)
  have h3 : (256 : Int) ^ 7 = 72057594037927936 := by decide
  rw [h3] at h2
  exact ⟨h1.1, Int.lt_of_lt_of_le h1.2 h2⟩
abbrev zO : Op := ⟨0, 0, [], 0, 0⟩
/-- An operator at the front of bytes: it, the error, what is behind it. -/
def dec1 : List Int → Op × Int × List Int
  | t :: w :: r => match r.drop 16 with
    | [] => (zO, 7, [])
    | n :: q => if 8 < n then (zO, 160, []) else if q.length < n.toNat then (zO, 7, []) else (⟨t, w, q.take n.toNat, IntKind.i64.wrap (numR (r.take 8)), IntKind.i64.wrap (numR ((r.drop 8).take 8))⟩, 0, q.drop n.toNat)
  | _ => (zO, 7, [])
/-- So many operators at the front of bytes. -/
def decN : Nat → List Int → List Op × Int × List Int
  | 0, b => ([], 0, b)
  | n + 1, b => if (dec1 b).2.1 = 0 then
      if (decN n (dec1 b).2.2).2.1 = 0 then ((dec1 b).1 :: (decN n (dec1 b).2.2).1, 0, (decN n (dec1 b).2.2).2.2) else ([], (decN n (dec1 b).2.2).2.1, [])
    else ([], (dec1 b).2.1, [])
/-- The graph that bytes are of, or the error. -/
def decR : List Int → List Op × Int
  | [] => ([], 7)
  | n :: r => if 8 < n then ([], 160) else if (decN n.toNat r).2.1 = 0 then (if (chkR (decN n.toNat r).1).2 = 0 ∧ (decN n.toNat r).2.2 = [] then ((decN n.toNat r).1, 0) else ([], 160)) else ([], (decN n.toNat r).2.1)
/-- What was read so far, and what is to be read yet. -/
def preD (acc : List Op) (x : List Op × Int × List Int) : List Op × Int × List Int := if x.2.1 = 0 then (acc ++ x.1, 0, x.2.2) else ([], x.2.1, [])
theorem preD_step {acc : List Op} {n : Nat} {b : List Int} {e : Op} {r : List Int} (h : dec1 b = (e, 0, r)) : preD acc (decN (n + 1) b) = preD (acc ++ [e]) (decN n r) := by
  unfold preD
  simp only [decN, h, if_true]
  by_cases h2 : (decN n r).2.1 = 0
  · simp [h2]
  · simp [h2]
theorem preD_bad {acc : List Op} {n : Nat} {b : List Int} {er : Int} (h : (dec1 b).2.1 = er) (h0 : er ≠ 0) : preD acc (decN (n + 1) b) = ([], er, []) := by
  unfold preD
  simp only [decN, h, if_neg h0]
theorem preD_nil : ∀ (n : Nat) (b : List Int), decN n b = preD [] (decN n b)
  | 0, b => by simp [preD, decN]
  | n + 1, b => by
    unfold preD
    rw [decN]
    split
    · split
      · simp
      · rename_i h; simp [h]
    · rename_i h; simp [h]
theorem copied_con (l : List Int) (hl : l.length ≤ 1099511627776) : Con Try.prog 57 [.one (.ro false 1 (l.map eB))] (fun rx rK rt => rx = .c (.ro true 1 (l.map eB)) ∧ rK = [] ∧ rt = 0) := by
  refine Z.con_ofF tabOk 11 Try.f57 _ Try.func57 (by kernel_rfl) rfl rfl rfl rfl ?_
  repeat' ((conv => whnf); first
    | ((with_reducible refine cpyN.mk ?_ ?_ ?_ ?_); (focus (first | (simp; done))); (focus (first | exact one_map2 (fun _ => rfl))); (focus ((try simp only [LN] at *) <;> omega)))
    | ((with_reducible refine Z.mkN_nat ?_ ?_ ?_ ?_); (focus ((try simp only [LN] at *) <;> omega)); (focus ((try simp only [LN] at *) <;> omega)); (focus ((try simp only [LN] at *) <;> omega))))
  all_goals (try (conv => whnf))
  all_goals try (show Nat.ble _ _ = true; rfl)
  all_goals try (exfalso; rename_i hz; cases hz; done)
  all_goals try (exfalso; (try simp only [LN] at *) <;> omega)
  all_goals first
    | ((first | (with_reducible apply Z.retF1)); (focus (exact rfl)); (repeat' (first | exact trivial | (refine Z.frz_oslw (l := l) (f := cB) (ty := 5) (bx := false) rfl ?_ ?_ (fun _ => rfl); (focus (simp; done)); exact copy_rows (by simp) (by simp) (by simp)) | (with_reducible apply Z.frz_one) | apply And.intro)); (all_goals (try exact (fun _ => none))); all_goals (first | (simp; done)))

end Go.Proofs.Ytjjdfiapcpbapaa
namespace Go.Proofs.Ytjjdfiapcpbapaa
open Go Go.RowKit Wx
set_option linter.unusedVariables false
set_option linter.unusedSimpArgs false
set_option maxHeartbeats 4000000
theorem one_cut {l : List Int} {q n : Nat} {fl : Bool} : ∀ r ∈ (((l.map eI).drop q).take n).map (List.map (RT.ce fl)), ∀ c ∈ r, c.single = true := fun r hr c hc => by
  obtain ⟨t, ht, rfl⟩ := List.mem_map.1 hr
  obtain ⟨z, _, rfl⟩ := List.mem_map.1 (List.mem_of_mem_drop (List.mem_of_mem_take ht))
  simp only [List.map_cons, List.map_nil, List.mem_singleton] at hc
  subst hc
  rfl
abbrev cO (x : Op) : List Ce := [Ce.v (.int .i64 x.tag), Ce.v (.int .i64 x.wid), Ce.ro true 1 (x.ins.map eI), Ce.v (.int .i64 x.a), Ce.v (.int .i64 x.b)]
def cutO (x : Op) : Op := ⟨x.tag, x.wid, x.ins.take 10, x.a, x.b⟩
theorem cut_rows (l : List Int) : List.map (List.map (RT.ce false)) (List.take ((l.take 10).length - 0) (List.drop 0 (l.map eI))) = (l.take 10).map cI := by
  have e : List.take ((l.take 10).length) l = l.take 10 := List.take_eq_take_iff.2 (by rw [List.length_take]; omega)
  rw [Nat.sub_zero, List.drop_zero, ← List.map_take, List.map_map, e]
  rfl
/-- A graph that can be played in time. -/
def shR (l : List Op) : List Op := (l.take 9).map cutO
theorem shR_snoc {l : List Op} {i : Nat} {x : Op} (h : (l.take 9)[i]? = some x) : ((l.take 9).take (i + 1)).map cutO = ((l.take 9).take i).map cutO ++ [cutO x] := by rw [take_snoc h, List.map_append]; rfl
theorem shR_len (l : List Op) : (shR l).length ≤ 9 := by unfold shR; rw [List.length_map, List.length_take]; exact Nat.min_le_left _ _
theorem shR_ins {l : List Op} : ∀ o ∈ shR l, o.ins.length ≤ 10 := fun o ho => by
  obtain ⟨x, _, rfl⟩ := List.mem_map.1 ho
  simp only [cutO, List.length_take]
  exact Nat.min_le_left _ _
theorem short_con (ops : List Op) (hol : ops.length ≤ 9223372036854775807) (hins : ∀ o ∈ ops, o.ins.length ≤ 9223372036854775807) : Con Try.prog 10 [.agg [.ro false 5 (ops.map eO)]] (fun rx rK rt => rx = .pl (.agg [.ro true 5 ((shR ops).map eO)]) ∧ rK = [] ∧ rt = 0) := by
  refine Z.con_ofF tabOk 34 Try.f10 _ Try.func10 (by kernel_rfl) rfl rfl rfl rfl ?_
  repeat' ((conv => whnf); first
    | with_reducible first | refine spB_t ?_)
  all_goals (try (conv => whnf))
  all_goals try (show Nat.ble _ _ = true; rfl)
  all_goals try (exfalso; rename_i hz; cases hz; done)
  all_goals try (exfalso; (try simp only [LN] at *) <;> omega)
  refine Z.loopK tabOk (fun zq : Nat × List Op => [(9, .val (.int .i64 (zq.1 : Int)))]) (fun zq : Nat × List Op => ([(0, some (Z.Ob.b ⟨[[.ro false 5 (ops.map eO)]], 1, 26, true⟩)), (2, some (Z.Ob.b ⟨[[.gsl 3 (zq.2.map cO)]], 1, 26, true⟩)), (3, (gB 5 34 (zq.2.map cO)).map Z.Ob.b)] : Z.Kr)) (fun zq => zq.1 ≤ ops.length ∧ zq.2 = ((ops.take 9).take zq.1).map cutO) (fun zq => ops.length - zq.1) (0, []) 4 [(2, _), (3, _), (7, _), (8, _)] ⟨rfl, rfl, rfl, rfl, trivial⟩ [(1, some _)] ⟨rfl, trivial⟩ ?_ ?_ rfl rfl ⟨Nat.zero_le _, rfl⟩ ?_
  · repeat' (first | exact trivial | apply And.intro | exact ⟨_, rfl, Z.Imp.refl _⟩)
  · repeat' (first | exact trivial | (intro b hb; cases hb; done) | exact (fun b hb => ⟨b, hb, Z.ImpO.refl b⟩) | (intro b hb; cases hb; refine ⟨_, rfl, ⟨rfl, rfl, rfl⟩, ?_⟩; (repeat' (first | exact trivial | apply And.intro | exact Z.Imp.nilg _)); done) | apply And.intro)
  rintro ⟨i, acc⟩ HINV
  (try dsimp only at HINV); (try dsimp only)
  obtain ⟨HI, HA⟩ := HINV
  have hl9 : (ops.take 9).length ≤ 9 := by rw [List.length_take]; exact Nat.min_le_left _ _
  have hal : acc.length ≤ 9 := by rw [HA, List.length_map, List.length_take]; omega
  by_cases hi : i < ops.length
  · obtain ⟨x, hx⟩ := getElem?_some' (xs := ops) (i := i) hi
    have hxl := hins x (List.mem_of_getElem? hx)
    by_cases h8 : i ≤ 8
    · have hx9 : (ops.take 9)[i]? = some x := by rw [List.getElem?_take, if_pos (by omega)]; exact hx
      have hsn := shR_snoc hx9
      have htl : (x.ins.take 10).length ≤ 10 := by rw [List.length_take]; exact Nat.min_le_left _ _
      have htl2 : (x.ins.take 10).length = min 10 x.ins.length := List.length_take
      have HC := cut_rows x.ins
      repeat' ((conv => whnf); first
        | (with_reducible refine spB_dec ?_ ?_ <;> intro _ <;> (try (exfalso; first | contradiction | omega | (rename_i hz; refine hz ?_; simp; done) | (rename_i hz; simp at hz; done) | (simp only [LN] at *; omega))))
        | ((with_reducible refine ixN_mk (i) ?_ ?_ ?_); (focus (first | rfl)); (focus ((try simp only [LN] at *) <;> omega)))
        | with_reducible first | refine Z.rowN_known hx ?_
        | ((with_reducible refine slN_hi ((x.ins.take 10).length) ?_ ?_ ?_); (focus (rw [htl2, List.length_map]; omega)); (focus (rw [htl2, List.length_map]; omega)))
        | ((with_reducible refine apdE_n ?_); (with_reducible refine apdN.mk ?_ ?_ ?_ ?_ ?_ ?_); (focus (first | ((try simp only [LN]) <;> omega))); (focus (first | exact one_cut)); (focus (first | exact Nat.zero_le _)); (iterate 2 (focus ((try simp only [LN] at *) <;> omega))))
        | ((with_reducible refine posE_pos ?_ ?_); (focus ((try simp only [LN] at *) <;> omega)))
        | ((with_reducible refine apdN.mk ?_ ?_ ?_ ?_ ?_ ?_); (focus (first | rfl)); (focus (first | exact one_all (by rfl))); (focus ((try simp only [LN] at *) <;> omega)); (focus ((try simp only [LN] at *) <;> omega)); (focus ((try simp only [LN] at *) <;> omega)))
        | with_reducible refine wr_i64 (by first | omega | (simp only [LN] at *; omega)) ?_
        | ((with_reducible refine eqN_mk2 ?_ ?_); (focus (exact Z.kb_some rfl))))
      all_goals (try (conv => whnf))
      all_goals try (show Nat.ble _ _ = true; rfl)
      all_goals try (exfalso; rename_i hz; cases hz; done)
      all_goals try (exfalso; (try simp only [LN] at *) <;> omega)
      all_goals first
        | ((refine Z.rnd_fzb 24 2 0 ((acc ++ [cutO x]).map cO) rfl rfl rfl rfl rfl rfl (Z.rows_snoc ⟨?_, ?_, ?_, ?_, ?_, trivial⟩) ?_); (focus (first | exact Z.fzC.refl _)); (focus (first | exact Z.fzC.refl _)); (focus (first | (refine Z.fzC.ogsl (l := x.ins.take 10) (f := cI) (ty := 3) (bx := false) ?_ ?_ (fun _ => rfl); (focus (exact congrArg (fun r => some (⟨r, 1, 3, false⟩ : Blk)) HC)); (focus ((try simp only [LN] at *) <;> omega))))); (focus (first | exact Z.fzC.refl _)); (focus (first | exact Z.fzC.refl _)); ((refine Z.rndK ((i + 1, acc ++ [cutO x])) (fun s => [0, 1, 2, s.idIn 2 0]) rfl rfl rfl rfl ?_ ?_ ?_ ?_); (focus (repeat' (first | exact trivial | exact rfl | apply And.intro))); (focus (repeat' (first | exact trivial | (intro b hb; cases hb; rfl) | exact Z.gB_sub' rfl (by first | rfl | (rw [List.map_append]; rfl) | simp only [List.map_append, List.map_cons, List.map_nil]) (ren_map fun _ => rfl) | apply And.intro))); (focus (exact ⟨by (try dsimp only); omega, by (try dsimp only); rw [hsn, HA]⟩)); ((try dsimp only); omega)))
    · have ht1 : (ops.take 9).take (i + 1) = ops.take 9 := List.take_of_length_le (by omega)
      have ht2 : (ops.take 9).take i = ops.take 9 := List.take_of_length_le (by omega)
      have hsn : ((ops.take 9).take (i + 1)).map cutO = acc := by rw [HA, ht1, ht2]
      repeat' ((conv => whnf); first
        | (with_reducible refine spB_dec ?_ ?_ <;> intro _ <;> (try (exfalso; first | contradiction | omega | (rename_i hz; refine hz ?_; simp; done) | (rename_i hz; simp at hz; done) | (simp only [LN] at *; omega))))
        | ((with_reducible refine ixN_mk (i) ?_ ?_ ?_); (focus (first | rfl)); (focus ((try simp only [LN] at *) <;> omega)))
        | with_reducible first | refine Z.rowN_known hx ?_
        | with_reducible refine wr_i64 (by first | omega | (simp only [LN] at *; omega)) ?_)
      all_goals (try (conv => whnf))
      all_goals try (show Nat.ble _ _ = true; rfl)
      all_goals try (exfalso; rename_i hz; cases hz; done)
      all_goals try (exfalso; (try simp only [LN] at *) <;> omega)
      all_goals first
        | ((refine Z.rndK ((i + 1, acc)) (fun s => [0, 1, 2, s.idIn 2 0]) rfl rfl rfl rfl ?_ ?_ ?_ ?_); (focus (repeat' (first | exact trivial | exact rfl | apply And.intro))); (focus (repeat' (first | exact trivial | (intro b hb; cases hb; rfl) | exact Z.gB_sub rfl rfl (ren_map fun _ => rfl) | apply And.intro))); (focus (exact ⟨by (try dsimp only); omega, hsn.symm⟩)); ((try dsimp only); omega))
  have hil : i = ops.length := by omega
  have htk : (ops.take 9).take i = ops.take 9 := List.take_of_length_le (by rw [List.length_take]; omega)
  have hsh : acc = shR ops := by rw [HA, htk]; rfl
  subst hsh
  repeat' ((conv => whnf); first
    | (with_reducible refine spB_dec ?_ ?_ <;> intro _ <;> (try (exfalso; first | contradiction | omega | (rename_i hz; refine hz ?_; simp; done) | (rename_i hz; simp at hz; done) | (simp only [LN] at *; omega)))))
  all_goals (try (conv => whnf))
  all_goals try (show Nat.ble _ _ = true; rfl)
  all_goals try (exfalso; rename_i hz; cases hz; done)
  all_goals try (exfalso; (try simp only [LN] at *) <;> omega)
  all_goals first
    | ((first | (with_reducible apply Z.retF1)); (focus (exact rfl)); (repeat' (first | exact trivial | (with_reducible apply Z.frz_agg) | ((with_reducible apply Z.fq_gsl); (focus (first | exact Z.isB_map _)); (focus (exact fun _ => rfl))) | exact rfl | apply And.intro)); (all_goals (try exact (fun _ => none))); all_goals (rfl))

end Go.Proofs.Ytjjdfiapcpbapaa
namespace Go.Proofs.Ytjjdfiapcpbapaa
open Go Go.RowKit Wx
set_option linter.unusedVariables false
set_option linter.unusedSimpArgs false
set_option maxHeartbeats 4000000
/-- The bodies of a code's loops. -/
def lbs : Code → List Code
  | .loop b => b :: lbs b
  | .seq a b => lbs a ++ lbs b
  | .cond _ a b => lbs a ++ lbs b
  | .block _ b => lbs b
  | .rangeFunc _ _ a b => lbs a ++ lbs b
  | .scope b => lbs b
  | _ => []
def lbody (f : Func) : Code := ((f.body.map lbs).getD []).headD .skip
def loopPost (R : Z.S → Prop) (Q : Exit → Z.S → Prop) : Exit → Z.S → Prop := fun e s' => match e with
  | .normal => R s'
  | e => Q e s'
theorem tk_drop {α : Type} (l : List α) (k : Nat) : List.take (l.length - k) (l.drop k) = l.drop k := List.take_of_length_le (by simp)
theorem row16 {r : List Int} {n : Int} (h : r[16]? = some n) : (List.take (1 - 0) (List.drop 0 (List.take ((List.map eB (List.drop 8 r)).length - 8) (List.drop 8 (List.map eB (List.drop 8 r))))))[0]? = some (eB n) := by
  rw [tk_drop, List.drop_zero, List.getElem?_take, if_pos (by decide), List.getElem?_drop, List.getElem?_map, List.getElem?_drop]
  show (r[16]?).map eB = _
  rw [h]; rfl
theorem rnd_fzj {m : Nat} {α : Type} {G : α → Z.S} {Inv : α → Prop} {μ : α → Nat} {p : α} {s : Z.S} (j B kx : Nat) {rows : List (List Ce)} (rows' : List (List Ce)) {sz : Nat} {ty : TypeId} {bx : Bool} {rB : List Ce} {szB : Nat} {tyB : TypeId} {bxB : Bool} (hm : Nat.ble m s.top = true) (hne : Nat.beq (s.idIn B kx) j = false) (hneB : Nat.beq B j = false) (hi : Z.kz s.K (s.idIn B kx) = some (.b ⟨rows, sz, ty, bx⟩)) (hB : Z.kz s.K B = some (.b ⟨[rB], szB, tyB, bxB⟩)) (hg : rB[kx]? = some (.gsl (s.idIn B kx) rows)) (h : All2 (All2 (Z.fzC j (Z.kb s.K j))) rows rows')
    (k : Z.rndZ m G Inv μ p ⟨s.F, (s.idIn B kx, some (.b ⟨rows', sz, ty, bx⟩)) :: (B, some (.b ⟨[rB.set kx (.gsl (s.idIn B kx) rows')], szB, tyB, bxB⟩)) :: (j, none) :: s.K, s.top⟩) : Z.rndZ m G Inv μ p s :=
  Z.rndZ_stp (Z.Stp.fz j [] [(s.idIn B kx, some (.b ⟨rows', sz, ty, bx⟩)), (B, some (.b ⟨[rB.set kx (.gsl (s.idIn B kx) rows')], szB, tyB, bxB⟩))] trivial ⟨⟨fun e => by rw [e] at hne; simp at hne, fun b hb => by cases hb; exact ⟨_, hi, ⟨rfl, rfl, rfl⟩, h⟩⟩, ⟨fun e => by rw [e] at hneB; simp at hneB, fun b hb => by cases hb; exact ⟨_, hB, ⟨rfl, rfl, rfl⟩, ⟨Z.set_fz hg (.inl (Z.Imp.gsl h.length)), trivial⟩⟩⟩, trivial⟩ (Nat.le_of_ble_eq_true hm)) k
abbrev dG := Nat × List Int × List Op × Int × Int
abbrev dCH (zq : dG) : Fr := [(8, .val (.int .i64 (zq.1 : Int))), (6, .val (.int .i64 zq.2.2.2.1))]
abbrev dCK (zq : dG) : Z.Kr := [(1, some (Z.Ob.b ⟨[[.ro true 1 (zq.2.1.map eB), .v (.int .i64 zq.2.2.2.2)]], 2, 86, true⟩)), (4, some (Z.Ob.b ⟨[[.gsl 5 (zq.2.2.1.map cO)]], 1, 26, true⟩)), (5, (gB 5 34 (zq.2.2.1.map cO)).map Z.Ob.b)]
abbrev dFk (N : Nat) : Fr := [(2, .c (.own 0 0 0)), (4, .c (.own 1 0 0)), (5, .val (.int .i64 (N : Int))), (7, .c (.own 4 0 0))]
abbrev dKk : Z.Kr := [(0, some (Z.Ob.b ⟨[[.v (.slice none 0 0)]], 1, 26, true⟩))]
abbrev dInv (b : List Int) (N : Nat) (zq : dG) : Prop := zq.1 ≤ N ∧ (isB zq.2.1 ∧ zq.2.1.length ≤ 1099511627776) ∧ zq.2.2.1.length = zq.1 ∧ (∀ o ∈ zq.2.2.1, o.ins.length ≤ 8) ∧ ((zq.2.2.2.1 = 0 ∧ zq.2.2.2.2 = 0 ∧ decN N b = preD zq.2.2.1 (decN (N - zq.1) zq.2.1)) ∨ (zq.2.2.2.1 ≠ 0 ∧ decN N b = ([], zq.2.2.2.1, [])))
abbrev dRnd (b : List Int) (N : Nat) (p : dG) (s' : Z.S) : Prop := Z.rndZ 0 (fun zq => (⟨dCH zq ++ dFk N, dCK zq ++ dKk, 6⟩ : Z.S)) (dInv b N) (fun zq => N - zq.1) p s'
end Go.Proofs.Ytjjdfiapcpbapaa
namespace Go.Proofs.Ytjjdfiapcpbapaa
open Go Go.RowKit Wx
set_option linter.unusedVariables false
set_option linter.unusedSimpArgs false
set_option maxHeartbeats 40000000
theorem dec_a (b : List Int) (N i : Nat) (acc : List Op)  (hB : isB []) (hL : ([] : List Int).length ≤ 1099511627776) (HC : acc.length = i) (HO : ∀ o ∈ acc, o.ins.length ≤ 8) (HD : decN N b = preD acc (decN (N - i) [])) (hi : i < N) (hN : N ≤ 8)  {Q : Exit → Z.S → Prop} : Z.codeZ Try.prog tab 57 0 none (lbody Try.f27) ⟨dCH (i, [], acc, 0, 0) ++ dFk N, dCK (i, [], acc, 0, 0) ++ dKk, 6⟩ (loopPost (dRnd b N (i, [], acc, 0, 0)) Q) := by
  dsimp only [dCH, dFk, dCK, dKk, dRnd]
  repeat' ((conv => whnf); first
    | with_reducible first | refine spB_t ?_
    | ((with_reducible apply spB_cong); (focus (simp only [beq_self_eq_true, bne_self_eq_false, Bool.true_bne, Bool.false_bne, Bool.bne_true, Bool.bne_false, Bool.true_beq, Bool.false_beq, Bool.not_true, Bool.not_false, Bool.not_not, Int.reduceBEq, Int.reduceBNe, Int.reduceLE, Int.reduceLT, Int.reduceEq, decide_true, decide_false]; rfl)))
    | with_reducible first | refine spB_yes (by decide) ?_ | refine spB_no (by decide) ?_
    | (with_reducible refine spB_dec ?_ ?_ <;> intro _ <;> (try (exfalso; first | contradiction | omega | (rename_i hz; refine hz ?_; simp; done) | (rename_i hz; simp at hz; done) | (simp only [LN] at *; omega))))
    | with_reducible refine wr_i64 (by first | omega | (simp only [LN] at *; omega)) ?_
    | with_reducible refine wr_u8 (by omega) ?_
    | with_reducible first | refine Z.callZ_in tabOk 13 Try.f45 _ Try.func45 (by kernel_rfl) rfl rfl rfl ?_ | refine Z.callZ_in tabOk 44 Try.f46 _ Try.func46 (by kernel_rfl) rfl rfl rfl ?_ | refine Z.callZ_in tabOk 6 Try.f58 _ Try.func58 (by kernel_rfl) rfl rfl rfl ?_ | refine Z.callZ_in tabOk 10 Try.f59 _ Try.func59 (by kernel_rfl) rfl rfl rfl ?_ | refine Z.callZ_in tabOk 5 Try.f60 _ Try.func60 (by kernel_rfl) rfl rfl rfl ?_ | refine Z.callZ_in tabOk 10 Try.f74 _ Try.func74 (by kernel_rfl) rfl rfl rfl ?_ | refine Z.callZ_in tabOk 58 Try.f82 _ Try.func82 (by kernel_rfl) rfl rfl rfl ?_
    | ((with_reducible apply ex_and); exact rfl))
  all_goals (try (conv => whnf))
  all_goals try (show Nat.ble _ _ = true; rfl)
  all_goals try (exfalso; rename_i hz; cases hz; done)
  all_goals try (exfalso; (try simp only [LN] at *) <;> omega)
  all_goals (refine Z.loopZ_unroll tabOk 1 ?_)
  repeat' ((conv => whnf); first
    | ((with_reducible apply spB_cong); (focus (simp only [beq_self_eq_true, bne_self_eq_false, Bool.true_bne, Bool.false_bne, Bool.bne_true, Bool.bne_false, Bool.true_beq, Bool.false_beq, Bool.not_true, Bool.not_false, Bool.not_not, Int.reduceBEq, Int.reduceBNe, Int.reduceLE, Int.reduceLT, Int.reduceEq, decide_true, decide_false]; rfl)))
    | with_reducible first | refine spB_no (by decide) ?_
    | ((with_reducible refine posE_pos ?_ ?_); (focus ((try simp only [LN] at *) <;> omega)))
    | ((with_reducible refine apdN.mk ?_ ?_ ?_ ?_ ?_ ?_); (focus (first | rfl)); (focus (first | exact one_all (by rfl))); (focus ((try simp only [LN] at *) <;> omega)); (focus ((try simp only [LN] at *) <;> omega)); (focus ((try simp only [LN] at *) <;> omega)))
    | with_reducible refine wr_i64 (by first | omega | (simp only [LN] at *; omega)) ?_
    | ((with_reducible refine eqN_mk2 ?_ ?_); (focus (exact Z.kb_some rfl)))
    | ((with_reducible apply ex_and); exact rfl))
  all_goals (try (conv => whnf))
  all_goals try (show Nat.ble _ _ = true; rfl)
  all_goals try (exfalso; rename_i hz; cases hz; done)
  all_goals try (exfalso; (try simp only [LN] at *) <;> omega)
  all_goals first
    | ((refine rnd_fzj 6 4 0 ((acc ++ [(⟨0, 0, [], 0, 0⟩ : Op)]).map cO) rfl rfl rfl rfl rfl rfl (Z.rows_snoc ⟨?_, ?_, ?_, ?_, ?_, trivial⟩) ?_); (focus (first | exact Z.fzC.refl _)); (focus (first | exact Z.fzC.refl _)); (focus (first | exact .inl (Z.Imp.nilr _ _))); (focus (first | exact Z.fzC.refl _)); (focus (first | exact Z.fzC.refl _)); ((refine Z.rndK ((i + 1, ([] : List Int), acc ++ [(⟨0, 0, [], 0, 0⟩ : Op)], 7, 7)) (fun s => [0, 1, 2, 3, 4, s.idIn 4 0]) rfl rfl rfl rfl ?_ ?_ ?_ ?_); (focus (repeat' (first | exact trivial | exact rfl | apply And.intro))); (focus (repeat' (first | exact trivial | (intro b hb; cases hb; rfl) | exact Z.gB_sub' rfl (by first | rfl | (rw [List.map_append]; rfl) | simp only [List.map_append, List.map_cons, List.map_nil]) (ren_map fun _ => rfl) | apply And.intro))); (focus (exact ⟨by (try dsimp only); omega, ⟨by (try dsimp only); first | (intro x hx; cases hx; done) | exact hBr | exact isB_drop hBr, by (try dsimp only); (try simp only [List.length_cons, List.length_drop, List.length_nil] at *); omega⟩, by (try dsimp only); rw [List.length_append, HC]; rfl, fun o ho => by rcases List.mem_append.1 ho with h | h; exact HO o h; rw [List.mem_singleton.1 h]; exact Nat.zero_le _, .inr ⟨by (try dsimp only); decide, by (try dsimp only); rw [HD, show N - i = (N - (i + 1)) + 1 by omega]; exact preD_bad (rfl) (by decide)⟩⟩)); ((try dsimp only); omega)))
end Go.Proofs.Ytjjdfiapcpbapaa
namespace Go.Proofs.Ytjjdfiapcpbapaa
open Go Go.RowKit Wx
set_option linter.unusedVariables false
set_option linter.unusedSimpArgs false
set_option maxHeartbeats 40000000
theorem dec_b (b : List Int) (N i : Nat) (acc : List Op) (t : Int) (hB : isB [t]) (hL : ([t] : List Int).length ≤ 1099511627776) (HC : acc.length = i) (HO : ∀ o ∈ acc, o.ins.length ≤ 8) (HD : decN N b = preD acc (decN (N - i) [t])) (hi : i < N) (hN : N ≤ 8)  {Q : Exit → Z.S → Prop} : Z.codeZ Try.prog tab 57 0 none (lbody Try.f27) ⟨dCH (i, [t], acc, 0, 0) ++ dFk N, dCK (i, [t], acc, 0, 0) ++ dKk, 6⟩ (loopPost (dRnd b N (i, [t], acc, 0, 0)) Q) := by
  dsimp only [dCH, dFk, dCK, dKk, dRnd]
  have hb_t := hB t (by simp)
  repeat' ((conv => whnf); first
    | with_reducible first | refine spB_t ?_
    | ((with_reducible apply spB_cong); (focus (simp only [beq_self_eq_true, bne_self_eq_false, Bool.true_bne, Bool.false_bne, Bool.bne_true, Bool.bne_false, Bool.true_beq, Bool.false_beq, Bool.not_true, Bool.not_false, Bool.not_not, Int.reduceBEq, Int.reduceBNe, Int.reduceLE, Int.reduceLT, Int.reduceEq, decide_true, decide_false]; rfl)))
    | with_reducible first | refine spB_no (by decide) ?_
    | (with_reducible refine spB_dec ?_ ?_ <;> intro _ <;> (try (exfalso; first | contradiction | omega | (rename_i hz; refine hz ?_; simp; done) | (rename_i hz; simp at hz; done) | (simp only [LN] at *; omega))))
    | ((refine sl3N_mk 0 1 1 rfl rfl rfl ?_ ?_ ?_ ?_ ?_); (iterate 4 (focus (first | exact .inl rfl | ((try simp only [LN] at *) <;> omega)))))
    | ((with_reducible refine Z.slN_lo 1 ?_ ?_ ?_); (focus rfl); (focus ((try simp only [LN] at *) <;> omega)))
    | (refine loopZ_unr1 tabOk rfl ?_)
    | ((with_reducible refine wr_shl8 ?_ ?_); (focus omega))
    | ((with_reducible refine wr_or0 ?_ ?_); (focus omega))
    | with_reducible first | refine rowN_mk _ rfl ?_
    | ((with_reducible apply ixN_lit); (focus (exact rfl)); (focus (exact rfl)))
    | ((with_reducible refine eqN_mk2 ?_ ?_); (focus rfl))
    | with_reducible refine wr_i64 (by first | omega | (simp only [LN] at *; omega)) ?_
    | with_reducible refine wr_u64 (by omega) ?_
    | with_reducible refine wr_u8 (by omega) ?_
    | with_reducible first | refine Z.callZ_in tabOk 18 Try.f83 _ Try.func83 (by kernel_rfl) rfl rfl rfl ?_ | refine Z.callZ_in tabOk 13 Try.f45 _ Try.func45 (by kernel_rfl) rfl rfl rfl ?_ | refine Z.callZ_in tabOk 44 Try.f46 _ Try.func46 (by kernel_rfl) rfl rfl rfl ?_ | refine Z.callZ_in tabOk 6 Try.f58 _ Try.func58 (by kernel_rfl) rfl rfl rfl ?_ | refine Z.callZ_in tabOk 10 Try.f59 _ Try.func59 (by kernel_rfl) rfl rfl rfl ?_ | refine Z.callZ_in tabOk 5 Try.f60 _ Try.func60 (by kernel_rfl) rfl rfl rfl ?_ | refine Z.callZ_in tabOk 10 Try.f74 _ Try.func74 (by kernel_rfl) rfl rfl rfl ?_ | refine Z.callZ_in tabOk 58 Try.f82 _ Try.func82 (by kernel_rfl) rfl rfl rfl ?_
    | ((with_reducible apply ex_and); exact rfl)
    | with_reducible first | refine Z.drawZ_rule tabOk mixOk ?_ | refine Z.apZ_mk (by kernel_rfl) ?_)
  all_goals (try (conv => whnf))
  all_goals try (show Nat.ble _ _ = true; rfl)
  all_goals try (exfalso; rename_i hz; cases hz; done)
  all_goals try (exfalso; (try simp only [LN] at *) <;> omega)
  all_goals (refine Z.loopZ_unroll tabOk 1 ?_)
  repeat' ((conv => whnf); first
    | ((with_reducible apply spB_cong); (focus (simp only [beq_self_eq_true, bne_self_eq_false, Bool.true_bne, Bool.false_bne, Bool.bne_true, Bool.bne_false, Bool.true_beq, Bool.false_beq, Bool.not_true, Bool.not_false, Bool.not_not, Int.reduceBEq, Int.reduceBNe, Int.reduceLE, Int.reduceLT, Int.reduceEq, decide_true, decide_false]; rfl)))
    | with_reducible first | refine spB_no (by decide) ?_
    | ((with_reducible refine posE_pos ?_ ?_); (focus ((try simp only [LN] at *) <;> omega)))
    | ((with_reducible refine apdN.mk ?_ ?_ ?_ ?_ ?_ ?_); (focus (first | rfl)); (focus (first | exact one_all (by rfl))); (focus ((try simp only [LN] at *) <;> omega)); (focus ((try simp only [LN] at *) <;> omega)); (focus ((try simp only [LN] at *) <;> omega)))
    | with_reducible refine wr_i64 (by first | omega | (simp only [LN] at *; omega)) ?_
    | ((with_reducible refine eqN_mk2 ?_ ?_); (focus (exact Z.kb_some rfl)))
    | ((with_reducible apply ex_and); exact rfl))
  all_goals (try (conv => whnf))
  all_goals try (show Nat.ble _ _ = true; rfl)
  all_goals try (exfalso; rename_i hz; cases hz; done)
  all_goals try (exfalso; (try simp only [LN] at *) <;> omega)
  all_goals first
    | ((refine rnd_fzj 6 4 0 ((acc ++ [(⟨t, 0, [], 0, 0⟩ : Op)]).map cO) rfl rfl rfl rfl rfl rfl (Z.rows_snoc ⟨?_, ?_, ?_, ?_, ?_, trivial⟩) ?_); (focus (first | exact Z.fzC.refl _)); (focus (first | exact Z.fzC.refl _)); (focus (first | exact .inl (Z.Imp.nilr _ _))); (focus (first | exact Z.fzC.refl _)); (focus (first | exact Z.fzC.refl _)); ((refine Z.rndK ((i + 1, ([] : List Int), acc ++ [(⟨t, 0, [], 0, 0⟩ : Op)], 7, 7)) (fun s => [0, 1, 2, 3, 4, s.idIn 4 0]) rfl rfl rfl rfl ?_ ?_ ?_ ?_); (focus (repeat' (first | exact trivial | exact rfl | apply And.intro))); (focus (repeat' (first | exact trivial | (intro b hb; cases hb; rfl) | exact Z.gB_sub' rfl (by first | rfl | (rw [List.map_append]; rfl) | simp only [List.map_append, List.map_cons, List.map_nil]) (ren_map fun _ => rfl) | apply And.intro))); (focus (exact ⟨by (try dsimp only); omega, ⟨by (try dsimp only); first | (intro x hx; cases hx; done) | exact hBr | exact isB_drop hBr, by (try dsimp only); (try simp only [List.length_cons, List.length_drop, List.length_nil] at *); omega⟩, by (try dsimp only); rw [List.length_append, HC]; rfl, fun o ho => by rcases List.mem_append.1 ho with h | h; exact HO o h; rw [List.mem_singleton.1 h]; exact Nat.zero_le _, .inr ⟨by (try dsimp only); decide, by (try dsimp only); rw [HD, show N - i = (N - (i + 1)) + 1 by omega]; exact preD_bad (rfl) (by decide)⟩⟩)); ((try dsimp only); omega)))
end Go.Proofs.Ytjjdfiapcpbapaa
namespace Go.Proofs.Ytjjdfiapcpbapaa
open Go Go.RowKit Wx
set_option linter.unusedVariables false
set_option linter.unusedSimpArgs false
set_option maxHeartbeats 40000000
theorem dec_c (b : List Int) (N i : Nat) (acc : List Op) (t w : Int) (r : List Int) (hB : isB (t :: w :: r)) (hL : ((t :: w :: r) : List Int).length ≤ 1099511627776) (HC : acc.length = i) (HO : ∀ o ∈ acc, o.ins.length ≤ 8) (HD : decN N b = preD acc (decN (N - i) (t :: w :: r))) (hi : i < N) (hN : N ≤ 8) (h4 : r.length < 8) {Q : Exit → Z.S → Prop} : Z.codeZ Try.prog tab 57 0 none (lbody Try.f27) ⟨dCH (i, (t :: w :: r), acc, 0, 0) ++ dFk N, dCK (i, (t :: w :: r), acc, 0, 0) ++ dKk, 6⟩ (loopPost (dRnd b N (i, (t :: w :: r), acc, 0, 0)) Q) := by
  dsimp only [dCH, dFk, dCK, dKk, dRnd]
  have hb_t := hB t (by simp)
  have hb_w := hB w (by simp)
  have hBr : isB r := fun x hx => hB x (by simp [hx])
  repeat' ((conv => whnf); first
    | with_reducible first | refine spB_t ?_
    | ((with_reducible apply spB_cong); (focus (simp only [beq_self_eq_true, bne_self_eq_false, Bool.true_bne, Bool.false_bne, Bool.bne_true, Bool.bne_false, Bool.true_beq, Bool.false_beq, Bool.not_true, Bool.not_false, Bool.not_not, Int.reduceBEq, Int.reduceBNe, Int.reduceLE, Int.reduceLT, Int.reduceEq, decide_true, decide_false]; rfl)))
    | with_reducible first | refine spB_no (by decide) ?_
    | (with_reducible refine spB_dec ?_ ?_ <;> intro _ <;> (try (exfalso; first | contradiction | omega | (rename_i hz; refine hz ?_; simp; done) | (rename_i hz; simp at hz; done) | (simp only [LN] at *; omega))))
    | ((refine sl3N_mk 0 1 1 rfl rfl rfl ?_ ?_ ?_ ?_ ?_); (iterate 4 (focus (first | exact .inl rfl | ((try simp only [LN] at *) <;> omega)))))
    | ((with_reducible refine Z.slN_lo 1 ?_ ?_ ?_); (focus rfl); (focus ((try simp only [LN] at *) <;> omega)))
    | (refine loopZ_unr1 tabOk rfl ?_)
    | ((with_reducible refine wr_shl8 ?_ ?_); (focus omega))
    | ((with_reducible refine wr_or0 ?_ ?_); (focus omega))
    | with_reducible first | refine rowN_mk _ rfl ?_
    | ((with_reducible apply ixN_lit); (focus (exact rfl)); (focus (exact rfl)))
    | ((with_reducible refine eqN_mk2 ?_ ?_); (focus rfl))
    | with_reducible refine wr_i64 (by first | omega | (simp only [LN] at *; omega)) ?_
    | with_reducible refine wr_u64 (by omega) ?_
    | with_reducible refine wr_u8 (by omega) ?_
    | with_reducible first | refine Z.callZ_in tabOk 18 Try.f83 _ Try.func83 (by kernel_rfl) rfl rfl rfl ?_ | refine Z.callZ_in tabOk 13 Try.f45 _ Try.func45 (by kernel_rfl) rfl rfl rfl ?_ | refine Z.callZ_in tabOk 44 Try.f46 _ Try.func46 (by kernel_rfl) rfl rfl rfl ?_ | refine Z.callZ_in tabOk 6 Try.f58 _ Try.func58 (by kernel_rfl) rfl rfl rfl ?_ | refine Z.callZ_in tabOk 10 Try.f59 _ Try.func59 (by kernel_rfl) rfl rfl rfl ?_ | refine Z.callZ_in tabOk 5 Try.f60 _ Try.func60 (by kernel_rfl) rfl rfl rfl ?_ | refine Z.callZ_in tabOk 10 Try.f74 _ Try.func74 (by kernel_rfl) rfl rfl rfl ?_ | refine Z.callZ_in tabOk 58 Try.f82 _ Try.func82 (by kernel_rfl) rfl rfl rfl ?_
    | ((with_reducible apply ex_and); exact rfl)
    | with_reducible first | refine Z.drawZ_rule tabOk mixOk ?_ | refine Z.apZ_mk (by kernel_rfl) ?_)
  all_goals (try (conv => whnf))
  all_goals try (show Nat.ble _ _ = true; rfl)
  all_goals try (exfalso; rename_i hz; cases hz; done)
  all_goals try (exfalso; (try simp only [LN] at *) <;> omega)
  all_goals (refine Z.loopZ_unroll tabOk 1 ?_)
  repeat' ((conv => whnf); first
    | ((with_reducible apply spB_cong); (focus (simp only [beq_self_eq_true, bne_self_eq_false, Bool.true_bne, Bool.false_bne, Bool.bne_true, Bool.bne_false, Bool.true_beq, Bool.false_beq, Bool.not_true, Bool.not_false, Bool.not_not, Int.reduceBEq, Int.reduceBNe, Int.reduceLE, Int.reduceLT, Int.reduceEq, decide_true, decide_false]; rfl)))
    | with_reducible first | refine spB_no (by decide) ?_
    | ((with_reducible refine posE_pos ?_ ?_); (focus ((try simp only [LN] at *) <;> omega)))
    | ((with_reducible refine apdN.mk ?_ ?_ ?_ ?_ ?_ ?_); (focus (first | rfl)); (focus (first | exact one_all (by rfl))); (focus ((try simp only [LN] at *) <;> omega)); (focus ((try simp only [LN] at *) <;> omega)); (focus ((try simp only [LN] at *) <;> omega)))
    | with_reducible refine wr_i64 (by first | omega | (simp only [LN] at *; omega)) ?_
    | ((with_reducible refine eqN_mk2 ?_ ?_); (focus (exact Z.kb_some rfl)))
    | ((with_reducible apply ex_and); exact rfl))
  all_goals (try (conv => whnf))
  all_goals try (show Nat.ble _ _ = true; rfl)
  all_goals try (exfalso; rename_i hz; cases hz; done)
  all_goals try (exfalso; (try simp only [LN] at *) <;> omega)
  all_goals first
    | ((refine rnd_fzj 6 4 0 ((acc ++ [(⟨t, w, [], 0, 0⟩ : Op)]).map cO) rfl rfl rfl rfl rfl rfl (Z.rows_snoc ⟨?_, ?_, ?_, ?_, ?_, trivial⟩) ?_); (focus (first | exact Z.fzC.refl _)); (focus (first | exact Z.fzC.refl _)); (focus (first | exact .inl (Z.Imp.nilr _ _))); (focus (first | exact Z.fzC.refl _)); (focus (first | exact Z.fzC.refl _)); ((refine Z.rnd_bi 1 [[.ro true 1 (r.map eB), _]] rfl rfl ⟨⟨Z.Imp.of_eq (congrArg (Ce.ro true 1) (by first | ((try simp only [tk_drop]); simp only [← List.map_drop, List.drop_drop, List.map_cons, List.drop_succ_cons, List.drop_zero]; done) | ((try simp only [tk_drop]); simp only [← List.map_drop, List.drop_drop]; (rw [h51]; done)) | (simp; done) | (simp [tk_map]; done) | (simp [tk_map, List.take_of_length_le]; done))), Z.Imp.refl _, trivial⟩, trivial⟩ ?_); ((refine Z.rndK ((i + 1, r, acc ++ [(⟨t, w, [], 0, 0⟩ : Op)], 7, 7)) (fun s => [0, 1, 2, 3, 4, s.idIn 4 0]) rfl rfl rfl rfl ?_ ?_ ?_ ?_); (focus (repeat' (first | exact trivial | exact rfl | apply And.intro))); (focus (repeat' (first | exact trivial | (intro b hb; cases hb; rfl) | exact Z.gB_sub' rfl (by first | rfl | (rw [List.map_append]; rfl) | simp only [List.map_append, List.map_cons, List.map_nil]) (ren_map fun _ => rfl) | apply And.intro))); (focus (exact ⟨by (try dsimp only); omega, ⟨by (try dsimp only); first | (intro x hx; cases hx; done) | exact hBr | exact isB_drop hBr, by (try dsimp only); (try simp only [List.length_cons, List.length_drop, List.length_nil] at *); omega⟩, by (try dsimp only); rw [List.length_append, HC]; rfl, fun o ho => by rcases List.mem_append.1 ho with h | h; exact HO o h; rw [List.mem_singleton.1 h]; exact Nat.zero_le _, .inr ⟨by (try dsimp only); decide, by (try dsimp only); rw [HD, show N - i = (N - (i + 1)) + 1 by omega]; exact preD_bad (by simp only [dec1]; rw [List.drop_eq_nil_of_le (by omega)]) (by decide)⟩⟩)); ((try dsimp only); omega))))
end Go.Proofs.Ytjjdfiapcpbapaa
namespace Go.Proofs.Ytjjdfiapcpbapaa
open Go Go.RowKit Wx
set_option linter.unusedVariables false
set_option linter.unusedSimpArgs false
set_option maxHeartbeats 40000000
theorem dec_d (b : List Int) (N i : Nat) (acc : List Op) (t w : Int) (r : List Int) (hB : isB (t :: w :: r)) (hL : ((t :: w :: r) : List Int).length ≤ 1099511627776) (HC : acc.length = i) (HO : ∀ o ∈ acc, o.ins.length ≤ 8) (HD : decN N b = preD acc (decN (N - i) (t :: w :: r))) (hi : i < N) (hN : N ≤ 8) (h4 : 8 ≤ r.length) (h5 : r.length < 16) {Q : Exit → Z.S → Prop} : Z.codeZ Try.prog tab 57 0 none (lbody Try.f27) ⟨dCH (i, (t :: w :: r), acc, 0, 0) ++ dFk N, dCK (i, (t :: w :: r), acc, 0, 0) ++ dKk, 6⟩ (loopPost (dRnd b N (i, (t :: w :: r), acc, 0, 0)) Q) := by
  dsimp only [dCH, dFk, dCK, dKk, dRnd]
  have hb_t := hB t (by simp)
  have hb_w := hB w (by simp)
  have hBr : isB r := fun x hx => hB x (by simp [hx])
  repeat' ((conv => whnf); first
    | with_reducible first | refine spB_t ?_
    | ((with_reducible apply spB_cong); (focus (simp only [beq_self_eq_true, bne_self_eq_false, Bool.true_bne, Bool.false_bne, Bool.bne_true, Bool.bne_false, Bool.true_beq, Bool.false_beq, Bool.not_true, Bool.not_false, Bool.not_not, Int.reduceBEq, Int.reduceBNe, Int.reduceLE, Int.reduceLT, Int.reduceEq, decide_true, decide_false]; rfl)))
    | with_reducible first | refine spB_no (by decide) ?_
    | (with_reducible refine spB_dec ?_ ?_ <;> intro _ <;> (try (exfalso; first | contradiction | omega | (rename_i hz; refine hz ?_; simp; done) | (rename_i hz; simp at hz; done) | (simp only [LN] at *; omega))))
    | ((refine sl3N_mk 0 1 1 rfl rfl rfl ?_ ?_ ?_ ?_ ?_); (iterate 4 (focus (first | exact .inl rfl | ((try simp only [LN] at *) <;> omega)))))
    | ((refine sl3N_mk 0 8 8 rfl rfl rfl ?_ ?_ ?_ ?_ ?_); (iterate 4 (focus (first | exact .inl rfl | ((try simp only [LN] at *) <;> omega)))))
    | ((with_reducible refine Z.slN_lo 1 ?_ ?_ ?_); (focus rfl); (focus ((try simp only [LN] at *) <;> omega)))
    | (refine loopZ_unr1 tabOk rfl ?_)
    | ((with_reducible refine wr_shl8 ?_ ?_); (focus omega))
    | ((with_reducible refine wr_or0 ?_ ?_); (focus omega))
    | with_reducible first | refine rowN_mk _ rfl ?_
    | ((with_reducible apply ixN_lit); (focus (exact rfl)); (focus (exact rfl)))
    | ((with_reducible refine eqN_mk2 ?_ ?_); (focus rfl))
    | with_reducible refine wr_i64 (by first | omega | (simp only [LN] at *; omega)) ?_
    | with_reducible refine wr_u64 (by omega) ?_
    | with_reducible first | refine Z.callZ_in tabOk 18 Try.f83 _ Try.func83 (by kernel_rfl) rfl rfl rfl ?_ | refine Z.callZ_in tabOk 44 Try.f46 _ Try.func46 (by kernel_rfl) rfl rfl rfl ?_ | refine Z.callZ_in tabOk 6 Try.f58 _ Try.func58 (by kernel_rfl) rfl rfl rfl ?_ | refine Z.callZ_in tabOk 5 Try.f60 _ Try.func60 (by kernel_rfl) rfl rfl rfl ?_ | refine Z.callZ_in tabOk 10 Try.f74 _ Try.func74 (by kernel_rfl) rfl rfl rfl ?_ | refine Z.callZ_in tabOk 58 Try.f82 _ Try.func82 (by kernel_rfl) rfl rfl rfl ?_
    | ((with_reducible apply ex_and); exact rfl)
    | with_reducible first | refine Z.drawZ_rule tabOk mixOk ?_ | refine Z.apZ_mk (by kernel_rfl) ?_)
  all_goals (try (conv => whnf))
  all_goals try (show Nat.ble _ _ = true; rfl)
  all_goals try (exfalso; rename_i hz; cases hz; done)
  all_goals try (exfalso; (try simp only [LN] at *) <;> omega)
  all_goals (
    apply loopQ3
    · intro Q0 hq9
      refine Z.loopK tabOk (fun zq : Nat => [(6, .val (.int .i64 (zq : Int)))]) (fun zq : Nat => ([(13, some (Z.Ob.b ⟨[[.v (.int .u64 (numR (r.take zq)))]], 1, 66, true⟩)), (0, some (Z.Ob.b ⟨[[.v (.slice none 0 0)]], 1, 26, true⟩)), (1, some (Z.Ob.b ⟨[[.ro true 1 (r.map eB), .v (.int .i64 0)]], 2, 86, true⟩)), (4, some (Z.Ob.b ⟨[[.gsl 5 (acc.map cO)]], 1, 26, true⟩)), (5, (gB 5 34 (acc.map cO)).map Z.Ob.b), (6, some (Z.Ob.b ⟨[[.v (.int .i64 0), .v (.int .i64 0), .v (.slice none 0 0), .v (.int .i64 0), .v (.int .i64 0)]], 5, 34, true⟩)), (7, some (Z.Ob.b ⟨[[.v (.int .i64 t), .v (.int .i64 w), .v (.slice none 0 0), .v (.int .i64 (0)), .v (.int .i64 0)]], 5, 34, true⟩))] : Z.Kr)) (fun zq => zq ≤ 8) (fun zq => 8 - zq) 0 14 [(0, _), (2, _), (5, _)] ⟨rfl, rfl, rfl, trivial⟩ [] trivial ?_ ?_ rfl rfl (Nat.zero_le _) ?_
      · repeat' (first | exact trivial | apply And.intro | exact ⟨_, rfl, Z.Imp.refl _⟩)
      · repeat' (first | exact trivial | exact (fun b hb => ⟨b, hb, Z.ImpO.refl b⟩) | (intro b hb; cases hb; refine ⟨_, rfl, ⟨rfl, rfl, rfl⟩, ⟨⟨Z.Imp.of_eq (congrArg (Ce.ro true 1) (by first | ((try simp only [tk_drop]); simp only [← List.map_drop, List.drop_drop, List.map_cons, List.drop_succ_cons, List.drop_zero]; done) | ((try simp only [tk_drop]); simp only [← List.map_drop, List.drop_drop]; (rw [h51]; done)) | (simp [tk_map]; done) | (simp [tk_map, List.take_of_length_le]; done))), Z.Imp.refl _, trivial⟩, trivial⟩⟩; done) | apply And.intro)
      rintro j HINV
      (try dsimp only at HINV); (try dsimp only)
      by_cases hj : j < 8
      · obtain ⟨z9, hzr⟩ := getElem?_some' (xs := r) (i := j) (by (try rw [List.length_drop]); omega)
        have hzd : (r.take 8)[j]? = some z9 := by rw [List.getElem?_take, if_pos hj]; exact hzr
        have hzb := hBr z9 (List.mem_of_getElem? hzr)
        have hnl := num_lt (l := r) (i := j) (by omega) (by (try rw [List.length_drop]); omega) hBr
        generalize hnv : numR (r.take j) = nv at *
        repeat' ((conv => whnf); first
          | (with_reducible refine spB_dec ?_ ?_ <;> intro _ <;> (try (exfalso; first | contradiction | omega | (rename_i hz; refine hz ?_; simp; done) | (rename_i hz; simp at hz; done) | (simp only [LN] at *; omega))))
          | ((with_reducible refine wr_shl8 ?_ ?_); (focus omega))
          | ((with_reducible refine rowN_mk (eB z9) ?_ ?_); (focus (exact rest_at (by first | ((try simp only [tk_drop]); simp only [Nat.sub_zero, List.drop_zero, ← List.map_drop, ← List.map_take, List.map_cons, List.drop_succ_cons]; done) | (simp [tk_map]; done)) hzd)))
          | ((with_reducible refine ixN_mk (j) ?_ ?_ ?_); (focus (first | rfl)); (focus ((try simp only [LN] at *) <;> omega)))
          | ((with_reducible refine eqN_mk2 ?_ ?_); (focus rfl))
          | with_reducible refine wr_i64 (by first | omega | (simp only [LN] at *; omega)) ?_
          | with_reducible refine wr_u64 (by omega) ?_
          | with_reducible first | refine Z.drawZ_rule tabOk mixOk ?_ | refine Z.apZ_mk (by kernel_rfl) ?_)
        all_goals (try (conv => whnf))
        all_goals try (show Nat.ble _ _ = true; rfl)
        all_goals try (exfalso; rename_i hz; cases hz; done)
        all_goals try (exfalso; (try simp only [LN] at *) <;> omega)
        all_goals first
          | ((refine Z.rnd_rw 13 ([[.v (.int .u64 (numR (r.take (j + 1))))]]) rfl rfl ?_ ?_); (focus (rw [take_snoc hzr, numR_snoc, hnv]; exact congrArg (fun z => [[Ce.v (.int .u64 z)]]) (or_add hnl hzb))); ((refine Z.rndK ((j + 1)) (fun s => [0, 1, 2, 3, 4, 5, 6, 7, 8, 9, 10, 11, 12, 13]) rfl rfl rfl rfl ?_ ?_ ?_ ?_); (focus (repeat' (first | exact trivial | exact rfl | apply And.intro))); (focus (repeat' (first | exact trivial | (intro b hb; cases hb; rfl) | exact Z.gB_sub rfl rfl (ren_map fun _ => rfl) | apply And.intro))); (focus (((try dsimp only); omega))); ((try dsimp only); omega)))
      have hj8 : j = 8 := by omega
      repeat' ((conv => whnf); first
        | (with_reducible refine spB_dec ?_ ?_ <;> intro _ <;> (try (exfalso; first | contradiction | omega | (rename_i hz; refine hz ?_; simp; done) | (rename_i hz; simp at hz; done) | (simp only [LN] at *; omega)))))
      all_goals (try (conv => whnf))
      subst hj8
      exact hq9
    generalize hnv8 : numR (r.take 8) = v8 at *)
  repeat' ((conv => whnf); first
    | with_reducible first | refine spB_t ?_
    | ((with_reducible apply spB_cong); (focus (simp only [beq_self_eq_true, bne_self_eq_false, Bool.true_bne, Bool.false_bne, Bool.bne_true, Bool.bne_false, Bool.true_beq, Bool.false_beq, Bool.not_true, Bool.not_false, Bool.not_not, Int.reduceBEq, Int.reduceBNe, Int.reduceLE, Int.reduceLT, Int.reduceEq, decide_true, decide_false]; rfl)))
    | with_reducible first | refine spB_no (by decide) ?_
    | (with_reducible refine spB_dec ?_ ?_ <;> intro _ <;> (try (exfalso; first | contradiction | omega | (rename_i hz; refine hz ?_; simp; done) | (rename_i hz; simp at hz; done) | (simp only [LN] at *; omega))))
    | ((with_reducible refine Z.slN_lo 8 ?_ ?_ ?_); (focus rfl); (focus ((try simp only [LN] at *) <;> omega)))
    | (refine wr_mk (IntKind.i64.wrap v8) rfl ?_)
    | with_reducible refine wr_i64 (by first | omega | (simp only [LN] at *; omega)) ?_
    | with_reducible refine wr_u8 (by omega) ?_
    | with_reducible first | refine Z.callZ_in tabOk 13 Try.f45 _ Try.func45 (by kernel_rfl) rfl rfl rfl ?_ | refine Z.callZ_in tabOk 6 Try.f58 _ Try.func58 (by kernel_rfl) rfl rfl rfl ?_ | refine Z.callZ_in tabOk 10 Try.f59 _ Try.func59 (by kernel_rfl) rfl rfl rfl ?_ | refine Z.callZ_in tabOk 5 Try.f60 _ Try.func60 (by kernel_rfl) rfl rfl rfl ?_ | refine Z.callZ_in tabOk 10 Try.f74 _ Try.func74 (by kernel_rfl) rfl rfl rfl ?_ | refine Z.callZ_in tabOk 58 Try.f82 _ Try.func82 (by kernel_rfl) rfl rfl rfl ?_
    | ((with_reducible apply ex_and); exact rfl))
  all_goals (try (conv => whnf))
  all_goals try (show Nat.ble _ _ = true; rfl)
  all_goals try (exfalso; rename_i hz; cases hz; done)
  all_goals try (exfalso; (try simp only [LN] at *) <;> omega)
  all_goals (refine Z.loopZ_unroll tabOk 1 ?_)
  repeat' ((conv => whnf); first
    | ((with_reducible apply spB_cong); (focus (simp only [beq_self_eq_true, bne_self_eq_false, Bool.true_bne, Bool.false_bne, Bool.bne_true, Bool.bne_false, Bool.true_beq, Bool.false_beq, Bool.not_true, Bool.not_false, Bool.not_not, Int.reduceBEq, Int.reduceBNe, Int.reduceLE, Int.reduceLT, Int.reduceEq, decide_true, decide_false]; rfl)))
    | with_reducible first | refine spB_no (by decide) ?_
    | ((with_reducible refine posE_pos ?_ ?_); (focus ((try simp only [LN] at *) <;> omega)))
    | ((with_reducible refine apdN.mk ?_ ?_ ?_ ?_ ?_ ?_); (focus (first | rfl)); (focus (first | exact one_all (by rfl))); (focus ((try simp only [LN] at *) <;> omega)); (focus ((try simp only [LN] at *) <;> omega)); (focus ((try simp only [LN] at *) <;> omega)))
    | with_reducible refine wr_i64 (by first | omega | (simp only [LN] at *; omega)) ?_
    | ((with_reducible refine eqN_mk2 ?_ ?_); (focus (exact Z.kb_some rfl)))
    | ((with_reducible apply ex_and); exact rfl))
  all_goals (try (conv => whnf))
  all_goals try (show Nat.ble _ _ = true; rfl)
  all_goals try (exfalso; rename_i hz; cases hz; done)
  all_goals try (exfalso; (try simp only [LN] at *) <;> omega)
  all_goals first
    | ((refine rnd_fzj 6 4 0 ((acc ++ [(⟨t, w, [], IntKind.i64.wrap (numR (r.take 8)), 0⟩ : Op)]).map cO) rfl rfl rfl rfl rfl rfl (Z.rows_snoc ⟨?_, ?_, ?_, ?_, ?_, trivial⟩) ?_); (focus (first | exact Z.fzC.refl _)); (focus (first | exact Z.fzC.refl _)); (focus (first | exact .inl (Z.Imp.nilr _ _))); (focus (first | exact .inl (Z.Imp.of_eq (by first | (rw [hnv8]; done) | (rw [hnv9]; done) | (simp; done))))); (focus (first | exact Z.fzC.refl _)); ((refine Z.rnd_bi 1 [[.ro true 1 ((r.drop 8).map eB), _]] rfl rfl ⟨⟨Z.Imp.of_eq (congrArg (Ce.ro true 1) (by first | ((try simp only [tk_drop]); simp only [← List.map_drop, List.drop_drop, List.map_cons, List.drop_succ_cons, List.drop_zero]; done) | ((try simp only [tk_drop]); simp only [← List.map_drop, List.drop_drop]; (rw [h51]; done)) | (simp; done) | (simp [tk_map]; done) | (simp [tk_map, List.take_of_length_le]; done))), Z.Imp.refl _, trivial⟩, trivial⟩ ?_); ((refine Z.rndK ((i + 1, (r.drop 8), acc ++ [(⟨t, w, [], IntKind.i64.wrap (numR (r.take 8)), 0⟩ : Op)], 7, 7)) (fun s => [0, 1, 2, 3, 4, s.idIn 4 0]) rfl rfl rfl rfl ?_ ?_ ?_ ?_); (focus (repeat' (first | exact trivial | exact rfl | apply And.intro))); (focus (repeat' (first | exact trivial | (intro b hb; cases hb; rfl) | exact Z.gB_sub' rfl (by first | rfl | (rw [List.map_append]; rfl) | simp only [List.map_append, List.map_cons, List.map_nil]) (ren_map fun _ => rfl) | apply And.intro))); (focus (exact ⟨by (try dsimp only); omega, ⟨by (try dsimp only); first | (intro x hx; cases hx; done) | exact hBr | exact isB_drop hBr, by (try dsimp only); (try simp only [List.length_cons, List.length_drop, List.length_nil] at *); omega⟩, by (try dsimp only); rw [List.length_append, HC]; rfl, fun o ho => by rcases List.mem_append.1 ho with h | h; exact HO o h; rw [List.mem_singleton.1 h]; exact Nat.zero_le _, .inr ⟨by (try dsimp only); decide, by (try dsimp only); rw [HD, show N - i = (N - (i + 1)) + 1 by omega]; exact preD_bad (by simp only [dec1]; rw [List.drop_eq_nil_of_le (by omega)]) (by decide)⟩⟩)); ((try dsimp only); omega))))
end Go.Proofs.Ytjjdfiapcpbapaa
namespace Go.Proofs.Ytjjdfiapcpbapaa
open Go Go.RowKit Wx
set_option linter.unusedVariables false
set_option linter.unusedSimpArgs false
set_option maxHeartbeats 40000000
theorem dec_e (b : List Int) (N i : Nat) (acc : List Op) (t w : Int) (r : List Int) (hB : isB (t :: w :: r)) (hL : ((t :: w :: r) : List Int).length ≤ 1099511627776) (HC : acc.length = i) (HO : ∀ o ∈ acc, o.ins.length ≤ 8) (HD : decN N b = preD acc (decN (N - i) (t :: w :: r))) (hi : i < N) (hN : N ≤ 8) (h4 : r.length = 16) {Q : Exit → Z.S → Prop} : Z.codeZ Try.prog tab 57 0 none (lbody Try.f27) ⟨dCH (i, (t :: w :: r), acc, 0, 0) ++ dFk N, dCK (i, (t :: w :: r), acc, 0, 0) ++ dKk, 6⟩ (loopPost (dRnd b N (i, (t :: w :: r), acc, 0, 0)) Q) := by
  dsimp only [dCH, dFk, dCK, dKk, dRnd]
  have hb_t := hB t (by simp)
  have hb_w := hB w (by simp)
  have hBr : isB r := fun x hx => hB x (by simp [hx])
  repeat' ((conv => whnf); first
    | with_reducible first | refine spB_t ?_
    | ((with_reducible apply spB_cong); (focus (simp only [beq_self_eq_true, bne_self_eq_false, Bool.true_bne, Bool.false_bne, Bool.bne_true, Bool.bne_false, Bool.true_beq, Bool.false_beq, Bool.not_true, Bool.not_false, Bool.not_not, Int.reduceBEq, Int.reduceBNe, Int.reduceLE, Int.reduceLT, Int.reduceEq, decide_true, decide_false]; rfl)))
    | with_reducible first | refine spB_no (by decide) ?_
    | (with_reducible refine spB_dec ?_ ?_ <;> intro _ <;> (try (exfalso; first | contradiction | omega | (rename_i hz; refine hz ?_; simp; done) | (rename_i hz; simp at hz; done) | (simp only [LN] at *; omega))))
    | ((refine sl3N_mk 0 1 1 rfl rfl rfl ?_ ?_ ?_ ?_ ?_); (iterate 4 (focus (first | exact .inl rfl | ((try simp only [LN] at *) <;> omega)))))
    | ((refine sl3N_mk 0 8 8 rfl rfl rfl ?_ ?_ ?_ ?_ ?_); (iterate 4 (focus (first | exact .inl rfl | ((try simp only [LN] at *) <;> omega)))))
    | ((with_reducible refine Z.slN_lo 1 ?_ ?_ ?_); (focus rfl); (focus ((try simp only [LN] at *) <;> omega)))
    | (refine loopZ_unr1 tabOk rfl ?_)
    | ((with_reducible refine wr_shl8 ?_ ?_); (focus omega))
    | ((with_reducible refine wr_or0 ?_ ?_); (focus omega))
    | with_reducible first | refine rowN_mk _ rfl ?_
    | ((with_reducible apply ixN_lit); (focus (exact rfl)); (focus (exact rfl)))
    | ((with_reducible refine eqN_mk2 ?_ ?_); (focus rfl))
    | with_reducible refine wr_i64 (by first | omega | (simp only [LN] at *; omega)) ?_
    | with_reducible refine wr_u64 (by omega) ?_
    | with_reducible first | refine Z.callZ_in tabOk 18 Try.f83 _ Try.func83 (by kernel_rfl) rfl rfl rfl ?_ | refine Z.callZ_in tabOk 44 Try.f46 _ Try.func46 (by kernel_rfl) rfl rfl rfl ?_ | refine Z.callZ_in tabOk 6 Try.f58 _ Try.func58 (by kernel_rfl) rfl rfl rfl ?_ | refine Z.callZ_in tabOk 5 Try.f60 _ Try.func60 (by kernel_rfl) rfl rfl rfl ?_ | refine Z.callZ_in tabOk 10 Try.f74 _ Try.func74 (by kernel_rfl) rfl rfl rfl ?_ | refine Z.callZ_in tabOk 58 Try.f82 _ Try.func82 (by kernel_rfl) rfl rfl rfl ?_
    | ((with_reducible apply ex_and); exact rfl)
    | with_reducible first | refine Z.drawZ_rule tabOk mixOk ?_ | refine Z.apZ_mk (by kernel_rfl) ?_)
  all_goals (try (conv => whnf))
  all_goals try (show Nat.ble _ _ = true; rfl)
  all_goals try (exfalso; rename_i hz; cases hz; done)
  all_goals try (exfalso; (try simp only [LN] at *) <;> omega)
  all_goals (
    apply loopQ3
    · intro Q0 hq9
      refine Z.loopK tabOk (fun zq : Nat => [(6, .val (.int .i64 (zq : Int)))]) (fun zq : Nat => ([(13, some (Z.Ob.b ⟨[[.v (.int .u64 (numR (r.take zq)))]], 1, 66, true⟩)), (0, some (Z.Ob.b ⟨[[.v (.slice none 0 0)]], 1, 26, true⟩)), (1, some (Z.Ob.b ⟨[[.ro true 1 (r.map eB), .v (.int .i64 0)]], 2, 86, true⟩)), (4, some (Z.Ob.b ⟨[[.gsl 5 (acc.map cO)]], 1, 26, true⟩)), (5, (gB 5 34 (acc.map cO)).map Z.Ob.b), (6, some (Z.Ob.b ⟨[[.v (.int .i64 0), .v (.int .i64 0), .v (.slice none 0 0), .v (.int .i64 0), .v (.int .i64 0)]], 5, 34, true⟩)), (7, some (Z.Ob.b ⟨[[.v (.int .i64 t), .v (.int .i64 w), .v (.slice none 0 0), .v (.int .i64 (0)), .v (.int .i64 0)]], 5, 34, true⟩))] : Z.Kr)) (fun zq => zq ≤ 8) (fun zq => 8 - zq) 0 14 [(0, _), (2, _), (5, _)] ⟨rfl, rfl, rfl, trivial⟩ [] trivial ?_ ?_ rfl rfl (Nat.zero_le _) ?_
      · repeat' (first | exact trivial | apply And.intro | exact ⟨_, rfl, Z.Imp.refl _⟩)
      · repeat' (first | exact trivial | exact (fun b hb => ⟨b, hb, Z.ImpO.refl b⟩) | (intro b hb; cases hb; refine ⟨_, rfl, ⟨rfl, rfl, rfl⟩, ⟨⟨Z.Imp.of_eq (congrArg (Ce.ro true 1) (by first | ((try simp only [tk_drop]); simp only [← List.map_drop, List.drop_drop, List.map_cons, List.drop_succ_cons, List.drop_zero]; done) | ((try simp only [tk_drop]); simp only [← List.map_drop, List.drop_drop]; (rw [h51]; done)) | (simp [tk_map]; done) | (simp [tk_map, List.take_of_length_le]; done))), Z.Imp.refl _, trivial⟩, trivial⟩⟩; done) | apply And.intro)
      rintro j HINV
      (try dsimp only at HINV); (try dsimp only)
      by_cases hj : j < 8
      · obtain ⟨z9, hzr⟩ := getElem?_some' (xs := r) (i := j) (by (try rw [List.length_drop]); omega)
        have hzd : (r.take 8)[j]? = some z9 := by rw [List.getElem?_take, if_pos hj]; exact hzr
        have hzb := hBr z9 (List.mem_of_getElem? hzr)
        have hnl := num_lt (l := r) (i := j) (by omega) (by (try rw [List.length_drop]); omega) hBr
        generalize hnv : numR (r.take j) = nv at *
        repeat' ((conv => whnf); first
          | (with_reducible refine spB_dec ?_ ?_ <;> intro _ <;> (try (exfalso; first | contradiction | omega | (rename_i hz; refine hz ?_; simp; done) | (rename_i hz; simp at hz; done) | (simp only [LN] at *; omega))))
          | ((with_reducible refine wr_shl8 ?_ ?_); (focus omega))
          | ((with_reducible refine rowN_mk (eB z9) ?_ ?_); (focus (exact rest_at (by first | ((try simp only [tk_drop]); simp only [Nat.sub_zero, List.drop_zero, ← List.map_drop, ← List.map_take, List.map_cons, List.drop_succ_cons]; done) | (simp [tk_map]; done)) hzd)))
          | ((with_reducible refine ixN_mk (j) ?_ ?_ ?_); (focus (first | rfl)); (focus ((try simp only [LN] at *) <;> omega)))
          | ((with_reducible refine eqN_mk2 ?_ ?_); (focus rfl))
          | with_reducible refine wr_i64 (by first | omega | (simp only [LN] at *; omega)) ?_
          | with_reducible refine wr_u64 (by omega) ?_
          | with_reducible first | refine Z.drawZ_rule tabOk mixOk ?_ | refine Z.apZ_mk (by kernel_rfl) ?_)
        all_goals (try (conv => whnf))
        all_goals try (show Nat.ble _ _ = true; rfl)
        all_goals try (exfalso; rename_i hz; cases hz; done)
        all_goals try (exfalso; (try simp only [LN] at *) <;> omega)
        all_goals first
          | ((refine Z.rnd_rw 13 ([[.v (.int .u64 (numR (r.take (j + 1))))]]) rfl rfl ?_ ?_); (focus (rw [take_snoc hzr, numR_snoc, hnv]; exact congrArg (fun z => [[Ce.v (.int .u64 z)]]) (or_add hnl hzb))); ((refine Z.rndK ((j + 1)) (fun s => [0, 1, 2, 3, 4, 5, 6, 7, 8, 9, 10, 11, 12, 13]) rfl rfl rfl rfl ?_ ?_ ?_ ?_); (focus (repeat' (first | exact trivial | exact rfl | apply And.intro))); (focus (repeat' (first | exact trivial | (intro b hb; cases hb; rfl) | exact Z.gB_sub rfl rfl (ren_map fun _ => rfl) | apply And.intro))); (focus (((try dsimp only); omega))); ((try dsimp only); omega)))
      have hj8 : j = 8 := by omega
      repeat' ((conv => whnf); first
        | (with_reducible refine spB_dec ?_ ?_ <;> intro _ <;> (try (exfalso; first | contradiction | omega | (rename_i hz; refine hz ?_; simp; done) | (rename_i hz; simp at hz; done) | (simp only [LN] at *; omega)))))
      all_goals (try (conv => whnf))
      subst hj8
      exact hq9
    generalize hnv8 : numR (r.take 8) = v8 at *)
  repeat' ((conv => whnf); first
    | ((with_reducible apply spB_cong); (focus (simp only [beq_self_eq_true, bne_self_eq_false, Bool.true_bne, Bool.false_bne, Bool.bne_true, Bool.bne_false, Bool.true_beq, Bool.false_beq, Bool.not_true, Bool.not_false, Bool.not_not, Int.reduceBEq, Int.reduceBNe, Int.reduceLE, Int.reduceLT, Int.reduceEq, decide_true, decide_false]; rfl)))
    | with_reducible first | refine spB_no (by decide) ?_
    | (with_reducible refine spB_dec ?_ ?_ <;> intro _ <;> (try (exfalso; first | contradiction | omega | (rename_i hz; refine hz ?_; simp; done) | (rename_i hz; simp at hz; done) | (simp only [LN] at *; omega))))
    | ((refine sl3N_mk 0 8 8 rfl rfl rfl ?_ ?_ ?_ ?_ ?_); (iterate 4 (focus (first | exact .inl rfl | ((try simp only [LN] at *) <;> omega)))))
    | ((with_reducible refine Z.slN_lo 8 ?_ ?_ ?_); (focus rfl); (focus ((try simp only [LN] at *) <;> omega)))
    | (refine wr_mk (IntKind.i64.wrap v8) rfl ?_)
    | with_reducible first | refine Z.callZ_in tabOk 18 Try.f83 _ Try.func83 (by kernel_rfl) rfl rfl rfl ?_ | refine Z.callZ_in tabOk 5 Try.f60 _ Try.func60 (by kernel_rfl) rfl rfl rfl ?_ | refine Z.callZ_in tabOk 10 Try.f74 _ Try.func74 (by kernel_rfl) rfl rfl rfl ?_ | refine Z.callZ_in tabOk 58 Try.f82 _ Try.func82 (by kernel_rfl) rfl rfl rfl ?_
    | ((with_reducible apply ex_and); exact rfl))
  all_goals (try (conv => whnf))
  all_goals try (show Nat.ble _ _ = true; rfl)
  all_goals try (exfalso; rename_i hz; cases hz; done)
  all_goals try (exfalso; (try simp only [LN] at *) <;> omega)
  all_goals (
    apply loopQ3
    · intro Q0 hq9
      refine Z.loopK tabOk (fun zq : Nat => [(6, .val (.int .i64 (zq : Int)))]) (fun zq : Nat => ([(15, some (Z.Ob.b ⟨[[.v (.int .u64 (numR ((r.drop 8).take zq)))]], 1, 66, true⟩)), (0, some (Z.Ob.b ⟨[[.v (.slice none 0 0)]], 1, 26, true⟩)), (1, some (Z.Ob.b ⟨[[.ro true 1 ((r.drop 8).map eB), .v (.int .i64 0)]], 2, 86, true⟩)), (4, some (Z.Ob.b ⟨[[.gsl 5 (acc.map cO)]], 1, 26, true⟩)), (5, (gB 5 34 (acc.map cO)).map Z.Ob.b), (6, some (Z.Ob.b ⟨[[.v (.int .i64 0), .v (.int .i64 0), .v (.slice none 0 0), .v (.int .i64 0), .v (.int .i64 0)]], 5, 34, true⟩)), (7, some (Z.Ob.b ⟨[[.v (.int .i64 t), .v (.int .i64 w), .v (.slice none 0 0), .v (.int .i64 (0)), .v (.int .i64 0)]], 5, 34, true⟩))] : Z.Kr)) (fun zq => zq ≤ 8) (fun zq => 8 - zq) 0 16 [(0, _), (2, _), (5, _)] ⟨rfl, rfl, rfl, trivial⟩ [] trivial ?_ ?_ rfl rfl (Nat.zero_le _) ?_
      · repeat' (first | exact trivial | apply And.intro | exact ⟨_, rfl, Z.Imp.refl _⟩)
      · repeat' (first | exact trivial | exact (fun b hb => ⟨b, hb, Z.ImpO.refl b⟩) | (intro b hb; cases hb; refine ⟨_, rfl, ⟨rfl, rfl, rfl⟩, ⟨⟨Z.Imp.of_eq (congrArg (Ce.ro true 1) (by first | ((try simp only [tk_drop]); simp only [← List.map_drop, List.drop_drop, List.map_cons, List.drop_succ_cons, List.drop_zero]; done) | ((try simp only [tk_drop]); simp only [← List.map_drop, List.drop_drop]; (rw [h51]; done)) | (simp [tk_map]; done) | (simp [tk_map, List.take_of_length_le]; done))), Z.Imp.refl _, trivial⟩, trivial⟩⟩; done) | apply And.intro)
      rintro j HINV
      (try dsimp only at HINV); (try dsimp only)
      by_cases hj : j < 8
      · obtain ⟨z9, hzr⟩ := getElem?_some' (xs := (r.drop 8)) (i := j) (by (try rw [List.length_drop]); omega)
        have hzd : ((r.drop 8).take 8)[j]? = some z9 := by rw [List.getElem?_take, if_pos hj]; exact hzr
        have hzb := (isB_drop hBr) z9 (List.mem_of_getElem? hzr)
        have hnl := num_lt (l := (r.drop 8)) (i := j) (by omega) (by (try rw [List.length_drop]); omega) (isB_drop hBr)
        generalize hnv : numR ((r.drop 8).take j) = nv at *
        repeat' ((conv => whnf); first
          | (with_reducible refine spB_dec ?_ ?_ <;> intro _ <;> (try (exfalso; first | contradiction | omega | (rename_i hz; refine hz ?_; simp; done) | (rename_i hz; simp at hz; done) | (simp only [LN] at *; omega))))
          | ((with_reducible refine wr_shl8 ?_ ?_); (focus omega))
          | ((with_reducible refine rowN_mk (eB z9) ?_ ?_); (focus (exact rest_at (by first | ((try simp only [tk_drop]); simp only [Nat.sub_zero, List.drop_zero, ← List.map_drop, ← List.map_take, List.map_cons, List.drop_succ_cons]; done) | (simp [tk_map]; done)) hzd)))
          | ((with_reducible refine ixN_mk (j) ?_ ?_ ?_); (focus (first | rfl)); (focus ((try simp only [LN] at *) <;> omega)))
          | ((with_reducible refine eqN_mk2 ?_ ?_); (focus rfl))
          | with_reducible refine wr_i64 (by first | omega | (simp only [LN] at *; omega)) ?_
          | with_reducible refine wr_u64 (by omega) ?_
          | with_reducible first | refine Z.drawZ_rule tabOk mixOk ?_ | refine Z.apZ_mk (by kernel_rfl) ?_)
        all_goals (try (conv => whnf))
        all_goals try (show Nat.ble _ _ = true; rfl)
        all_goals try (exfalso; rename_i hz; cases hz; done)
        all_goals try (exfalso; (try simp only [LN] at *) <;> omega)
        all_goals first
          | ((refine Z.rnd_rw 15 ([[.v (.int .u64 (numR ((r.drop 8).take (j + 1))))]]) rfl rfl ?_ ?_); (focus (rw [take_snoc hzr, numR_snoc, hnv]; exact congrArg (fun z => [[Ce.v (.int .u64 z)]]) (or_add hnl hzb))); ((refine Z.rndK ((j + 1)) (fun s => [0, 1, 2, 3, 4, 5, 6, 7, 8, 9, 10, 11, 12, 13, 14, 15]) rfl rfl rfl rfl ?_ ?_ ?_ ?_); (focus (repeat' (first | exact trivial | exact rfl | apply And.intro))); (focus (repeat' (first | exact trivial | (intro b hb; cases hb; rfl) | exact Z.gB_sub rfl rfl (ren_map fun _ => rfl) | apply And.intro))); (focus (((try dsimp only); omega))); ((try dsimp only); omega)))
      have hj8 : j = 8 := by omega
      repeat' ((conv => whnf); first
        | (with_reducible refine spB_dec ?_ ?_ <;> intro _ <;> (try (exfalso; first | contradiction | omega | (rename_i hz; refine hz ?_; simp; done) | (rename_i hz; simp at hz; done) | (simp only [LN] at *; omega)))))
      all_goals (try (conv => whnf))
      subst hj8
      exact hq9
    generalize hnv9 : numR ((r.drop 8).take 8) = v9 at *)
  repeat' ((conv => whnf); first
    | ((with_reducible apply spB_cong); (focus (simp only [beq_self_eq_true, bne_self_eq_false, Bool.true_bne, Bool.false_bne, Bool.bne_true, Bool.bne_false, Bool.true_beq, Bool.false_beq, Bool.not_true, Bool.not_false, Bool.not_not, Int.reduceBEq, Int.reduceBNe, Int.reduceLE, Int.reduceLT, Int.reduceEq, decide_true, decide_false]; rfl)))
    | with_reducible first | refine spB_no (by decide) ?_
    | (with_reducible refine spB_dec ?_ ?_ <;> intro _ <;> (try (exfalso; first | contradiction | omega | (rename_i hz; refine hz ?_; simp; done) | (rename_i hz; simp at hz; done) | (simp only [LN] at *; omega))))
    | ((with_reducible refine Z.slN_lo 8 ?_ ?_ ?_); (focus rfl); (focus ((try simp only [LN] at *) <;> omega)))
    | (refine wr_mk (IntKind.i64.wrap v9) rfl ?_)
    | with_reducible refine wr_i64 (by first | omega | (simp only [LN] at *; omega)) ?_
    | with_reducible refine wr_u8 (by omega) ?_
    | with_reducible first | refine Z.callZ_in tabOk 13 Try.f45 _ Try.func45 (by kernel_rfl) rfl rfl rfl ?_ | refine Z.callZ_in tabOk 6 Try.f58 _ Try.func58 (by kernel_rfl) rfl rfl rfl ?_ | refine Z.callZ_in tabOk 10 Try.f59 _ Try.func59 (by kernel_rfl) rfl rfl rfl ?_ | refine Z.callZ_in tabOk 10 Try.f74 _ Try.func74 (by kernel_rfl) rfl rfl rfl ?_ | refine Z.callZ_in tabOk 58 Try.f82 _ Try.func82 (by kernel_rfl) rfl rfl rfl ?_
    | ((with_reducible apply ex_and); exact rfl))
  all_goals (try (conv => whnf))
  all_goals try (show Nat.ble _ _ = true; rfl)
  all_goals try (exfalso; rename_i hz; cases hz; done)
  all_goals try (exfalso; (try simp only [LN] at *) <;> omega)
  all_goals (refine Z.loopZ_unroll tabOk 1 ?_)
  repeat' ((conv => whnf); first
    | ((with_reducible apply spB_cong); (focus (simp only [beq_self_eq_true, bne_self_eq_false, Bool.true_bne, Bool.false_bne, Bool.bne_true, Bool.bne_false, Bool.true_beq, Bool.false_beq, Bool.not_true, Bool.not_false, Bool.not_not, Int.reduceBEq, Int.reduceBNe, Int.reduceLE, Int.reduceLT, Int.reduceEq, decide_true, decide_false]; rfl)))
    | with_reducible first | refine spB_no (by decide) ?_
    | ((with_reducible refine posE_pos ?_ ?_); (focus ((try simp only [LN] at *) <;> omega)))
    | ((with_reducible refine apdN.mk ?_ ?_ ?_ ?_ ?_ ?_); (focus (first | rfl)); (focus (first | exact one_all (by rfl))); (focus ((try simp only [LN] at *) <;> omega)); (focus ((try simp only [LN] at *) <;> omega)); (focus ((try simp only [LN] at *) <;> omega)))
    | with_reducible refine wr_i64 (by first | omega | (simp only [LN] at *; omega)) ?_
    | ((with_reducible refine eqN_mk2 ?_ ?_); (focus (exact Z.kb_some rfl)))
    | ((with_reducible apply ex_and); exact rfl))
  all_goals (try (conv => whnf))
  all_goals try (show Nat.ble _ _ = true; rfl)
  all_goals try (exfalso; rename_i hz; cases hz; done)
  all_goals try (exfalso; (try simp only [LN] at *) <;> omega)
  all_goals first
    | ((refine rnd_fzj 6 4 0 ((acc ++ [(⟨t, w, [], IntKind.i64.wrap (numR (r.take 8)), IntKind.i64.wrap (numR ((r.drop 8).take 8))⟩ : Op)]).map cO) rfl rfl rfl rfl rfl rfl (Z.rows_snoc ⟨?_, ?_, ?_, ?_, ?_, trivial⟩) ?_); (focus (first | exact Z.fzC.refl _)); (focus (first | exact Z.fzC.refl _)); (focus (first | exact .inl (Z.Imp.nilr _ _))); (focus (first | exact .inl (Z.Imp.of_eq (by first | (rw [hnv8]; done) | (rw [hnv9]; done) | (simp; done))))); (focus (first | exact .inl (Z.Imp.of_eq (by first | (rw [hnv8]; done) | (rw [hnv9]; done) | (simp; done))))); ((refine Z.rnd_bi 1 [[.ro true 1 ((r.drop 16).map eB), _]] rfl rfl ⟨⟨Z.Imp.of_eq (congrArg (Ce.ro true 1) (by first | ((try simp only [tk_drop]); simp only [← List.map_drop, List.drop_drop, List.map_cons, List.drop_succ_cons, List.drop_zero]; done) | ((try simp only [tk_drop]); simp only [← List.map_drop, List.drop_drop]; (rw [h51]; done)) | (simp; done) | (simp [tk_map]; done) | (simp [tk_map, List.take_of_length_le]; done))), Z.Imp.refl _, trivial⟩, trivial⟩ ?_); ((refine Z.rndK ((i + 1, (r.drop 16), acc ++ [(⟨t, w, [], IntKind.i64.wrap (numR (r.take 8)), IntKind.i64.wrap (numR ((r.drop 8).take 8))⟩ : Op)], 7, 7)) (fun s => [0, 1, 2, 3, 4, s.idIn 4 0]) rfl rfl rfl rfl ?_ ?_ ?_ ?_); (focus (repeat' (first | exact trivial | exact rfl | apply And.intro))); (focus (repeat' (first | exact trivial | (intro b hb; cases hb; rfl) | exact Z.gB_sub' rfl (by first | rfl | (rw [List.map_append]; rfl) | simp only [List.map_append, List.map_cons, List.map_nil]) (ren_map fun _ => rfl) | apply And.intro))); (focus (exact ⟨by (try dsimp only); omega, ⟨by (try dsimp only); first | (intro x hx; cases hx; done) | exact hBr | exact isB_drop hBr, by (try dsimp only); (try simp only [List.length_cons, List.length_drop, List.length_nil] at *); omega⟩, by (try dsimp only); rw [List.length_append, HC]; rfl, fun o ho => by rcases List.mem_append.1 ho with h | h; exact HO o h; rw [List.mem_singleton.1 h]; exact Nat.zero_le _, .inr ⟨by (try dsimp only); decide, by (try dsimp only); rw [HD, show N - i = (N - (i + 1)) + 1 by omega]; exact preD_bad (by simp only [dec1]; rw [List.drop_eq_nil_of_le (by omega)]) (by decide)⟩⟩)); ((try dsimp only); omega))))
end Go.Proofs.Ytjjdfiapcpbapaa
