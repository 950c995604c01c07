/-
  Proved: 'OctetWiden' (P1.1, P1.4) returns true for every number of 64 bits, and leaves it as it was. Conditions: none but those of the given row.
-/
import Derived.Test.YtngnhieddblnmaaBytes
import Derived.Test.YtngnhieddblnmaaCasts
import Derived.ChangeOld
namespace Go.Proofs.Ytngnhieddblnmaa.octetWiden
open Go.ChangeShapes Go.WideShapes Go.ChangeAt Go.RowKit
open Go.Proofs.Ytngnhieddblnmaa.octetCasts (be_ok p16 p32 p64)
set_option linter.unusedVariables false

theorem row_adds {w : World} {g : Nat} {xs : List Int} (h : w.heap[g]? = some (.cells (By xs).toArray 5 (0, 0))) : ∀ j u, (By xs)[j]? = some u → w.cell? ((⟨g, 0, none⟩ : Addr).add j) = some u := by
  intro j u hj
  have h0 : 0 < xs.length := by
    rcases Nat.eq_zero_or_pos xs.length with h | h
    · rw [List.eq_nil_of_length_eq_zero h] at hj; simp [By] at hj
    · exact h
  obtain ⟨ad', he, hc⟩ := Seen.row h h0
  obtain rfl : (⟨g, 0, none⟩ : Addr) = ad' := by simpa using he
  exact hc j u hj
theorem keep_alloc {b : Nat} {w : World} {o : Obj} (o' : Obj) (h : w.heap[b]? = some o) : (w.alloc o').heap[b]? = some o := (Below.heap_alloc _ _ _ (lt_of_block h)).trans h
theorem own_seen {B n : Nat} {w : World} {v : Value} {xs : List Int} (h : w.ownsRow B 5 1 v n (By xs)) : ∃ a c, v = .slice a n c ∧ Seen w a xs ∧ (a = none → n = 0) := by
  obtain ⟨hl, h⟩ := h
  rw [By_length, Nat.mul_one] at hl
  rcases h with ⟨rfl, rfl⟩ | ⟨g, cap, cur, rfl, hB, hg, hn, hc, hs, ht⟩
  · exact ⟨none, 0, rfl, fun h => by omega, fun _ => rfl⟩
  · refine ⟨some ⟨g, 0, none⟩, cap, rfl, fun _ => ⟨_, rfl, fun j v hj => ?_⟩, fun h => by cases h⟩
    have e : (⟨g, 0, none⟩ : Addr).add j = ⟨g, j, none⟩ := by cases j <;> simp [Addr.add]
    rw [e]
    have hcell : w.cell? ⟨g, j, none⟩ = cur[j]? := by simp [World.cell?, hg]
    rw [hcell, ← hj, ← ht, Nat.mul_one]
    have hj' : j < n := by
      rcases Nat.lt_or_ge j (By xs).length with h' | h'
      · rw [By_length] at h'; omega
      · rw [List.getElem?_eq_none h'] at hj; cases hj
    rw [List.getElem?_take_of_lt hj', Array.getElem?_toList]
theorem By_append (xs ys : List Int) : By xs ++ By ys = By (xs ++ ys) := by simp [By]
theorem bytesOk_append {xs ys : List Int} (h : bytesOk xs) (k : bytesOk ys) : bytesOk (xs ++ ys) := by
  intro j hj
  by_cases hl : j < xs.length
  · rw [List.getElem?_append_left hl]; exact h j hl
  · rw [List.getElem?_append_right (by omega)]; exact k _ (by simp at hj; omega)
theorem ok_zero (n : Nat) : bytesOk (List.replicate n 0) := by
  intro j hj
  have : j < n := by simpa using hj
  simp [this]
/-- Noughts ahead. -/
theorem be_zero (n k : Nat) : ∀ x : Int, 0 ≤ x → x < 256 ^ n → be (n + k) x = List.replicate k 0 ++ be n x := by
  induction k with
  | zero => intro x _ _; simp
  | succ k ih =>
    intro x h0 h1
    have hp : (1 : Int) ≤ 256 ^ k := by have := Int.pow_pos (n := 256) (m := k) (by decide); omega
    have hq := Int.mul_le_mul_of_nonneg_left hp (Int.pow_nonneg (n := 256) (m := n) (by decide))
    have h2 : x / 256 ^ (n + k) = 0 := Int.ediv_eq_zero_of_lt h0 (by rw [Int.pow_add]; omega)
    rw [← Nat.add_assoc, be_front, ih x h0 h1, h2]
    simp [List.replicate_succ]
theorem same_self (xs ys : List Int) (h : xs = ys) : same xs ys = true := by simp [same, h]


theorem keepB {b : Nat} {w w1 : World} {o : Obj} (hb : Below w.heap.size w w1) (h : w.heap[b]? = some o) : w1.heap[b]? = some o := (hb.block b (lt_of_block h)).trans h
theorem wpList_append_own_if {P : Program} {w : World} {ops : Array Oper} {rest : List Oper} {o : Oper} {a : Act} {Q : Exit → Act → World → Prop} (hw : Region.wanted o (yielded ops a.tmps) = true) (s x : Operand) (t : TypeId)
    (ho : o.op = .call { callee := .builtin .append, args := #[s, x], argTypes := #[t, t] })
    (base : Nat) (e : TypeId) (i : TypeInfo) (z : Value) (size bytes : Nat) (ht : P.underlying t = some (.slice e)) (hi : P.info? e = some i) (hz : i.zero = some z)
    (hsize : i.size = size) (hby : i.bytes = bytes) (hzs : z.cells.size = size) (hsz : 0 < size)
    (v : Value) (n : Nat) (xs : List Value) (hs : a.eval s = v) (hown : w.ownsRow base e size v n xs)
    (ad : Addr) (m c : Nat) (news : List Value) (hx : a.eval x = .slice (some ad) m c) (hl : news.length = m * size) (hnews : ∀ j u, news[j]? = some u → w.cell? (ad.add j) = some u) (h1 : ∀ u ∈ news, u.oneCell' = true)
    (h63 : n + m ≤ maxLen) (hbytes : (n + m) * bytes ≤ 140737488355328) (hbase : base ≤ w.heap.size)
    (h : ∀ v' w', w'.ownsRow base e size v' (n + m) (xs ++ news) → w.grownBy w' v.ownBlock → (v' = .slice none 0 0 ↔ v = .slice none 0 0 ∧ m = 0) → wpList P ops Q rest (a.put o.dst v') w') : wpList P ops Q (o :: rest) a w :=
  wpList_step fun K hK => by
    rw [if_pos hw]
    exact wp_append_own w s x t ho base e i z size bytes ht hi hz hsize hby hzs hsz v n xs hs hown ad m c news hx hl hnews h1 h63 hbytes hbase fun v' w' h2 h3 h4 => hK _ _ (h v' w' h2 h3 h4)
theorem p32lit (x : Int) (w : World) (h0 : 0 ≤ x) (h1 : x < 4294967296) :
    Calls Try.prog 14 #[.slice none 0 0, .int .u32 x] (w.alloc (.cells #[.int .u8 0, .int .u8 0, .int .u8 0, .int .u8 0] 5)) fun e w' => e = .returned (.slice (some ⟨w.heap.size + 1, 0, none⟩) 4 4) ∧ w'.heap[w.heap.size + 1]? = some (.cells (By (be 4 x)).toArray 5 (0, 0)) ∧ Below (w.heap.size + 1) (w.alloc (.cells #[.int .u8 0, .int .u8 0, .int .u8 0, .int .u8 0] 5)) w' := by
  have := p32 x (w.alloc (.cells #[.int .u8 0, .int .u8 0, .int .u8 0, .int .u8 0] 5)) h0 h1
  rwa [show (w.alloc (.cells #[.int .u8 0, .int .u8 0, .int .u8 0, .int .u8 0] 5)).heap.size = w.heap.size + 1 from by simp] at this
theorem p32size {w w' : World} {o : Obj} {B : Nat} (hb : Below B (w.alloc o) w') : w.heap.size ≤ w'.heap.size := by
  have := hb.size
  simp at this
  omega
theorem own4_at {w : World} {g : Nat} (h : w.heap[g]? = some (.cells #[.int .u8 0, .int .u8 0, .int .u8 0, .int .u8 0] 5 (0, 0))) : w.ownsRow g 5 1 (.slice (some ⟨g, 0, none⟩) 4 4) 4 (By [0, 0, 0, 0]) :=
  ⟨rfl, .inr ⟨g, 4, _, rfl, Nat.le_refl _, h, Nat.le_refl _, by decide, rfl, rfl⟩⟩
theorem z2 : ([.int .u8 0, .int .u8 0] : List Value) = By [0, 0] := rfl
theorem z4 : ([.int .u8 0, .int .u8 0, .int .u8 0, .int .u8 0] : List Value) = By [0, 0, 0, 0] := rfl
def lit2 : Obj := .cells #[.int .u8 0, .int .u8 0] 5
def lit4 : Obj := .cells #[.int .u8 0, .int .u8 0, .int .u8 0, .int .u8 0] 5
theorem own2 (w : World) : (w.alloc (.cells #[.int .u8 0, .int .u8 0] 5)).ownsRow w.heap.size 5 1 (.slice (some ⟨w.heap.size, 0, none⟩) 2 2) 2 (By [0, 0]) := World.ownsRow_lit w #[.int .u8 0, .int .u8 0] 2 (Nat.le_refl _) (by decide) rfl
theorem own4 (w : World) : (w.alloc (.cells #[.int .u8 0, .int .u8 0, .int .u8 0, .int .u8 0] 5)).ownsRow w.heap.size 5 1 (.slice (some ⟨w.heap.size, 0, none⟩) 4 4) 4 (By [0, 0, 0, 0]) := World.ownsRow_lit w #[.int .u8 0, .int .u8 0, .int .u8 0, .int .u8 0] 4 (Nat.le_refl _) (by decide) rfl

set_option maxHeartbeats 800000 in
theorem walk (x : Int) (w : World) (h0 : 0 ≤ x) (h1 : x < 18446744073709551616) : Calls Try.prog 7 #[.int .u64 x] w fun e w' => e = .returned (.bool true) ∧ Below w.heap.size w w' := by
  have g0 : 0 ≤ x % 4294967296 := by omega
  have g1 : x % 4294967296 < 4294967296 := by omega
  have f0 : 0 ≤ IntKind.u16.wrap x := by show 0 ≤ x % 65536; omega
  have f1 : IntKind.u16.wrap x < 65536 := by show x % 65536 < 65536; omega
  obtain ⟨i0, hi, hz0, hz1, hz2⟩ := info_parts Try.info5
  have HI := Lib.hid hi; clear hi
  have HZ0 := Lib.hid hz0; clear hz0
  have HZ1 := Lib.hid hz1; clear hz1
  have HZ2 := Lib.hid hz2; clear hz2
  have HAL : Hid ((By (be 2 (IntKind.u16.wrap x))).length = 2 * 1) := Lib.hid (by rw [By_length, be_length])
  have HBL : Hid ((By (be 4 (IntKind.u16.wrap x))).length = 4 * 1) := Lib.hid (by rw [By_length, be_length])
  have HE1 : Hid ((be 4 (IntKind.u16.wrap x)).length = 4) := Lib.hid (be_length _ _)
  have HE2 : Hid (([0, 0] ++ be 2 (IntKind.u16.wrap x)).length = 2 + 2) := Lib.hid (by rw [List.length_append, be_length]; rfl)
  have HE3 : Hid (bytesOk ([0, 0] ++ be 2 (IntKind.u16.wrap x))) := Lib.hid (bytesOk_append (ok_zero 2) (be_ok _ _))
  have HE4 : Hid (same (be 4 (IntKind.u16.wrap x)) ([0, 0] ++ be 2 (IntKind.u16.wrap x)) = true) := Lib.hid (same_self _ _ (be_zero 2 2 _ f0 (by simpa using f1)))
  have HF1 : Hid ((be 8 (IntKind.u16.wrap x)).length = 8) := Lib.hid (be_length _ _)
  have HF2 : Hid (([0, 0, 0, 0] ++ be 4 (IntKind.u16.wrap x)).length = 4 + 4) := Lib.hid (by rw [List.length_append, be_length]; rfl)
  have HF3 : Hid (bytesOk ([0, 0, 0, 0] ++ be 4 (IntKind.u16.wrap x))) := Lib.hid (bytesOk_append (ok_zero 4) (be_ok _ _))
  have HF4 : Hid (same (be 8 (IntKind.u16.wrap x)) ([0, 0, 0, 0] ++ be 4 (IntKind.u16.wrap x)) = true) := Lib.hid (same_self _ _ (be_zero 4 4 _ f0 (by simp; omega)))
  have HP2 : Hid (([0, 0, 0, 0] ++ be 4 (x % 4294967296)).length = 4 + 4) := Lib.hid (by rw [List.length_append, be_length]; rfl)
  have HP1 : Hid ((be 8 (x % 4294967296)).length = 8) := Lib.hid (be_length _ _)
  have HP3 : Hid (bytesOk ([0, 0, 0, 0] ++ be 4 (x % 4294967296))) := Lib.hid (bytesOk_append (ok_zero 4) (be_ok _ _))
  have HP4 : Hid (same (be 8 (x % 4294967296)) ([0, 0, 0, 0] ++ be 4 (x % 4294967296)) = true) := Lib.hid (same_self _ _ (be_zero 4 4 _ g0 (by simpa using g1)))
  have HCL : Hid ((By (be 4 (x % 4294967296))).length = 4 * 1) := Lib.hid (by rw [By_length, be_length])
  go_enter Try.func7, Try.ntmps7
  go_wp2_with (first
    | (go_at_call 9; refine (wakes_any _).mono ?_; rintro e w1 ⟨rfl, hb1⟩)
    | (go_at_call 13; ((with_reducible refine (p16 _ w1 f0 f1).mono ?_); rintro e w2 ⟨rfl, hg, hb2⟩; have HG2 := Lib.hid hg; clear hg))
    | (go_at_call 14; ((with_reducible refine (p32 _ w2 f0 (by omega)).mono ?_); rintro e w3 ⟨rfl, hg, hb3⟩; have HG3 := Lib.hid hg; clear hg))
    | (go_at_call 15; ((with_reducible refine (p64 _ w3 f0 (by omega)).mono ?_); rintro e w4 ⟨rfl, hg, hb4⟩; have HG4 := Lib.hid hg; clear hg))
    | (go_at_call 15; ((with_reducible refine (p64 _ w4 g0 (by omega)).mono ?_); rintro e w5 ⟨rfl, hg, hb5⟩; have HG5 := Lib.hid hg; clear hg; have R2 := Lib.hid (keepB hb5 (keepB hb4 (keepB hb3 HG2.out))); have R3 := Lib.hid (keepB hb5 (keepB hb4 HG3.out)); have R4 := Lib.hid (keepB hb5 HG4.out)))
    | (at_builtin; refine wpList_append_own _ rfl (.tmp 25) (.tmp 26) 22 rfl w5.heap.size 5 i0 (.int .u8 0) 1 1 Try.underlying22 HI.out HZ0.out HZ1.out HZ2.out rfl (by decide) _ 2 (By [0, 0]) rfl (own2 w5) ⟨w1.heap.size, 0, none⟩ 2 2 (By (be 2 (IntKind.u16.wrap x))) rfl HAL.out (row_adds (keep_alloc _ R2.out)) (By_one _) (by decide) (by decide) (by simp) ?_; intro vA w6 hown hgrow _; rw [By_append] at hown; obtain ⟨aA, cA, hvA, hs, hnA⟩ := own_seen hown; subst hvA; have HSA := Lib.hid hs; clear hs hown; have HNA := Lib.hid hnA; clear hnA; have HBA : Hid (Below w5.heap.size w5 w6) := Lib.hid (((Below.refl _ _).alloc (Nat.le_refl _) _).grown hgrow (by simp) (fun k hk => Nat.le_of_eq (Option.some.inj hk))); clear hgrow)
    | (go_at_call 28; ((with_reducible refine (bytesEqual_any (some ⟨w2.heap.size, 0, none⟩) aA 4 (2 + 2) 4 cA (be 4 (IntKind.u16.wrap x)) ([0, 0] ++ be 2 (IntKind.u16.wrap x)) w6 HE1.out HE2.out (Seen.row (keepB HBA.out R3.out)) HSA.out (be_ok _ _) HE3.out (fun h => by cases h) HNA.out).mono ?_); rw [HE4.out]; rintro e w' ⟨rfl, rfl⟩))
    | (at_builtin; refine wpList_append_own_if (by simp [Region.wanted, yielded]) (.tmp 31) (.tmp 32) 22 rfl w6.heap.size 5 i0 (.int .u8 0) 1 1 Try.underlying22 HI.out HZ0.out HZ1.out HZ2.out rfl (by decide) _ 4 (By [0, 0, 0, 0]) rfl (own4 w6) ⟨w2.heap.size, 0, none⟩ 4 4 (By (be 4 (IntKind.u16.wrap x))) rfl HBL.out (row_adds (keep_alloc _ (keepB HBA.out R3.out))) (By_one _) (by decide) (by decide) (by simp) ?_; intro vB w7 hown hgrow _; rw [By_append] at hown; obtain ⟨aB, cB, hvB, hs, hnB⟩ := own_seen hown; subst hvB; have HSB := Lib.hid hs; clear hs hown; have HNB := Lib.hid hnB; clear hnB; have HBB : Hid (Below w6.heap.size w6 w7) := Lib.hid (((Below.refl _ _).alloc (Nat.le_refl _) _).grown hgrow (by simp) (fun k hk => Nat.le_of_eq (Option.some.inj hk))); clear hgrow)
    | (go_at_call 28; ((with_reducible refine (bytesEqual_any (some ⟨w3.heap.size, 0, none⟩) aB 8 (4 + 4) 8 cB (be 8 (IntKind.u16.wrap x)) ([0, 0, 0, 0] ++ be 4 (IntKind.u16.wrap x)) w7 HF1.out HF2.out (Seen.row (keepB HBB.out (keepB HBA.out R4.out))) HSB.out (be_ok _ _) HF3.out (fun h => by cases h) HNB.out).mono ?_); rw [HF4.out]; rintro e w' ⟨rfl, rfl⟩))
    | (go_at_call 14; ((with_reducible refine (p32lit _ w7 g0 g1).mono ?_); rintro e w8 ⟨rfl, hg, hb8⟩; have HG8 := Lib.hid hg; clear hg; have HO8 := Lib.hid (own4_at (hb8.block w7.heap.size (Nat.lt_succ_self _) |>.trans (heap_alloc_new _ _))); have HL8 := Lib.hid (p32size hb8)))
    | (at_builtin; refine wpList_append_own_if (by simp [Region.wanted, yielded]) (.tmp 38) (.tmp 41) 22 rfl w7.heap.size 5 i0 (.int .u8 0) 1 1 Try.underlying22 HI.out HZ0.out HZ1.out HZ2.out rfl (by decide) _ 4 (By [0, 0, 0, 0]) rfl HO8.out ⟨w7.heap.size + 1, 0, none⟩ 4 4 (By (be 4 (x % 4294967296))) rfl HCL.out (row_adds HG8.out) (By_one _) (by decide) (by decide) HL8.out ?_; intro vC w9 hown hgrow _; rw [By_append] at hown; obtain ⟨aC, cC, hvC, hs, hnC⟩ := own_seen hown; subst hvC; have HSC := Lib.hid hs; clear hs hown; have HNC := Lib.hid hnC; clear hnC; have HBC : Hid (Below w7.heap.size w7 w9) := Lib.hid ((((Below.refl _ _).alloc (Nat.le_refl _) _).trans (hb8.mono (Nat.le_succ _))).grown hgrow HL8.out (fun k hk => Nat.le_of_eq (Option.some.inj hk))); clear hgrow)
    | (go_at_call 28; ((with_reducible refine (bytesEqual_any (some ⟨w4.heap.size, 0, none⟩) aC 8 (4 + 4) 8 cC (be 8 (x % 4294967296)) ([0, 0, 0, 0] ++ be 4 (x % 4294967296)) w9 HP1.out HP2.out (Seen.row (keepB HBC.out (keepB HBB.out (keepB HBA.out HG5.out)))) HSC.out (be_ok _ _) HP3.out (fun h => by cases h) HNC.out).mono ?_); rw [HP4.out]; rintro e w' ⟨rfl, rfl⟩)))
  go_ret
  have z1 := hb1.size
  have z2 := hb2.size
  have z3 := hb3.size
  have z4 := hb4.size
  have z5 := hb5.size
  have z6 := HBA.out.size
  have z7 := HBB.out.size
  have y5 : Below w.heap.size w w5 := (((hb1.trans (hb2.mono z1)).trans (hb3.mono (by omega))).trans (hb4.mono (by omega))).trans (hb5.mono (by omega))
  exact ⟨rfl, ((y5.trans (HBA.out.mono (by omega))).trans (HBB.out.mono (by omega))).trans (HBC.out.mono (by omega))⟩

theorem own : ownKnob Try.prog.godebug = none := by kernel_rfl

set_option maxRecDepth 100000 in
theorem lifted (os : Os) (started : os.Started) (H : Type) (enc : TypeId × Value → H) :
    ReturnsInHanded {} Try.checked os 7 .any (Rows.octetWidenSpec.pre6 enc Try.prog Try.f7 Rows.octetWidenRow.domain false) (Rows.octetWidenSpec.post enc Try.prog Try.f7 false true false false) := by
  refine returnsInHanded_of_change (C := Try.checked) own started (by kernel_rfl) Try.func7
    (ChangeSpec.witness6 (enc := enc) (C := Try.checked) false ⟨#[], #[.int .u64 0], []⟩ 8 (by kernel_rfl) (by kernel_rfl) (by kernel_rfl) (by kernel_rfl)) ?_
  intro W base args ds gs before hval0 hW hcnd _
  have hval : ∀ (j : Nat) t v, Try.f7.params[j]? = some t → args[j]? = some v → Value.okWide Try.prog W .any base t v := hval0
  have hW' := hW
  obtain ⟨p, q, hA0, hV, rfl, hfz, hnd⟩ := hW
  have hA : DataW.TrodAll enc Try.prog W 0 (fun _ => true) true Try.f7.params.toList args.toList ds p := hA0
  rw [Try.params7] at hA hval
  obtain ⟨v0, vs0, d0, ds0, p0, q0, hargs, rfl, rfl, h0, r0⟩ := trodAll_cons hA
  obtain ⟨rfl, rfl, rfl⟩ := trodAll_nil r0
  obtain rfl : args = #[v0] := by cases args; simp_all
  obtain ⟨rfl, rfl⟩ := trodVars_none hV
  obtain ⟨a0, rfl, rfl, rfl, w0⟩ := open_int Try.underlying23 (hval 0 23 v0 rfl rfl) h0
  clear hA0 hval0
  simp only [List.append_nil] at hW'
  refine (walk a0 W (bounds_u64 w0).1 (by have := (bounds_u64 w0).2; omega)).mono fun e W' ⟨he, bel⟩ => ?_
  subst he
  exact ⟨_, rfl, _, _, _, [], [], [], hW', trodAll_mk1 (shut_bool Try.underlying4 _), (trodAll_cons_mk (shut_int Try.underlying23 w0) trodAll_mk0), rfl, bel.frame _, fun h => by cases h⟩

theorem over : Rows.octetWidenRow.holds Try.pinned (OpenSpec.ofChange Rows.octetWidenSpec) :=
  OpenClaim.holds_of_wide 7 Try.f7 rfl rfl rfl rfl rfl rfl rfl ⟨rfl, rfl, rfl, rfl, rfl⟩ rfl rfl rfl rfl rfl (by kernel_rfl) Try.func7 (by kernel_rfl)
    (of_decide_eq_true (by kernel_rfl)) (by unfold Func.isWrapper; first | (rw [if_pos (by decide +kernel)]; kernel_rfl) | (rw [if_neg (by decide +kernel)]; exact ⟨rfl, rfl⟩))
    (fun os started H enc _ => lifted os started H enc)

end Go.Proofs.Ytngnhieddblnmaa.octetWiden
namespace Go.Proofs.Ytngnhieddblnmaa
theorem octetWiden_holds : Rows.OctetWidenSaid := octetWiden.over
#print axioms octetWiden_holds
end Go.Proofs.Ytngnhieddblnmaa
