import Derived.Test.YtakfkbciijahgaaOwn6
import Derived.Test.YtakfkbciijahgaaRows
namespace Go.Proofs.Ytakfkbciijahgaa
open Go Go.RowKit Wx
set_option linter.unusedVariables false
set_option linter.unusedSimpArgs false
set_option maxHeartbeats 4000000
abbrev cQf (x : Qu) : List Ce := [Ce.ro false 5 (x.es.map eE), Ce.v (.int .u64 x.last), Ce.v (.bool x.held), Ce.v (.bool x.ended)]
section
open Z
variable {m : Nat}
/-- At a round's end: the block of slot tj is frozen in rows of block B. -/
theorem rnd_fzr {α : Type} {G : α → Z.S} {Inv : α → Prop} {μ : α → Nat} {p : α} {s : Z.S} (tj B : Nat) {rows : List (List Ce)} (rows' : List (List Ce)) {sz : Nat} {ty : TypeId} {bx : Bool} (hm : Nat.ble m s.top = true) (hne : Nat.beq B (s.idAt tj) = false) (hB : kz s.K B = some (.b ⟨rows, sz, ty, bx⟩)) (h : All2 (All2 (fzC (s.idAt tj) (kb s.K (s.idAt tj)))) rows rows')
    (k : rndZ m G Inv μ p ⟨s.F, (B, some (.b ⟨rows', sz, ty, bx⟩)) :: (s.idAt tj, none) :: s.K, s.top⟩) : rndZ m G Inv μ p s :=
  rndZ_stp (Stp.fz (s.idAt tj) [] [(B, some (.b ⟨rows', sz, ty, bx⟩))] trivial ⟨⟨fun e => by rw [e] at hne; simp at hne, fun b hb => by cases hb; exact ⟨_, hB, ⟨rfl, rfl, rfl⟩, h⟩⟩, trivial⟩ (Nat.le_of_ble_eq_true hm)) k
theorem rows_mid {j : Nat} {o : Option Blk} {qs : List Qu} {i : Nat} {x : Qu} {r : List Ce} (hx : qs[i]? = some x) (h : All2 (fzC j o) r (cQ x)) : All2 (All2 (fzC j o)) (((qs.take i).map cQ ++ (qs.drop i).map cQf).set (0 + i) r) ((qs.take (i + 1)).map cQ ++ (qs.drop (i + 1)).map cQf) := by
  have hi := (List.getElem?_eq_some_iff.1 hx).1
  rw [Nat.zero_add, drop_cons hx, take_snoc hx, List.map_cons, List.map_append, List.append_assoc, List.set_append_right _ _ (by rw [List.length_map, List.length_take]; exact Nat.min_le_left _ _), show i - ((qs.take i).map cQ).length = 0 by rw [List.length_map, List.length_take]; omega, List.set_cons_zero]
  exact All2.append (All2.self (All2.self fzC.refl) _) ⟨h, All2.self (All2.self fzC.refl) _⟩
end
namespace Wx.Z
/-- A function's end, behind a step of its own. -/
structure retG (T : Tab) (rs : List ResultVar) (s : Z.S) (post : AV → Prop) : Prop where
  h : ∃ s0 : Z.S, Stp 0 s s0 ∧ retF T rs ⟨s0.F, kbl s0.K, s0.top⟩ post
theorem retG_0 {T : Tab} {rs : List ResultVar} {s : Z.S} {post : AV → Prop} (h : retF T rs ⟨s.F, kbl s.K, s.top⟩ post) : retG T rs s post := ⟨s, Stp.refl (Nat.zero_le _), h⟩
theorem retG_stp {T : Tab} {rs : List ResultVar} {s s1 : Z.S} {post : AV → Prop} (h : Stp 0 s s1) (k : retG T rs s1 post) : retG T rs s post := by
  obtain ⟨s0, h1, h2⟩ := k.h
  exact ⟨s0, h.trans h1, h2⟩
theorem retG_fz {T : Tab} {rs : List ResultVar} {s : Z.S} {post : AV → Prop} (tj B : Nat) {rows : List (List Ce)} (rows' : List (List Ce)) {sz : Nat} {ty : TypeId} {bx : Bool} (hne : Nat.beq B (s.idAt tj) = false) (hB : kz s.K B = some (.b ⟨rows, sz, ty, bx⟩)) (h : All2 (All2 (fzC (s.idAt tj) (kb s.K (s.idAt tj)))) rows rows')
    (k : retG T rs ⟨s.F, (B, some (.b ⟨rows', sz, ty, bx⟩)) :: (s.idAt tj, none) :: s.K, s.top⟩ post) : retG T rs s post :=
  retG_stp (Stp.fz (s.idAt tj) [] [(B, some (.b ⟨rows', sz, ty, bx⟩))] trivial ⟨⟨fun e => by rw [e] at hne; simp at hne, fun b hb => by cases hb; exact ⟨_, hB, ⟨rfl, rfl, rfl⟩, h⟩⟩, trivial⟩ (Nat.zero_le _)) k
theorem con_ofG {P : Program} {T : Tab} {g : FuncId} {args : List A0} {post : AV → Prop} (hT : TabOk P T) (n : Nat) (fn : Func) (c : Code) (hf : P.funcs[g]? = some fn) (hfn : fnB P g = true) (hb : fn.body = some c) (hn : fn.ntmps = n) (hle : Nat.ble args.length n = true) (hlow : args.all A0.low' = true)
    (h : codeZ P T n 0 none c ⟨argF 0 (args.map .pl), [], 0⟩ fun e s => match s with
      | ⟨F', K', t'⟩ => match e with
        | .normal => retG T fn.results.toList ⟨F', K', t'⟩ post
        | .ret => retG T fn.results.toList ⟨F', K', t'⟩ post
        | _ => False) : Con P g args (fun x K t => post x ∧ K = [] ∧ t = 0) := by
  refine ⟨hfn, fun w vs hvs => ?_⟩
  have hle' : args.length ≤ n := by simpa [Nat.ble_eq] using hle
  let R0 : RM := fun fl b o => match fl with | true => none | false => w.cell? ⟨b, o, none⟩
  have hw : Wd (Wo.of w) (kg []) (fun _ => none) R0 w := by
    refine ⟨fun i b h => by simp [kg] at h, fun i j bi bj p q h => by simp [kg] at h, fun i b p h => by simp [kg] at h, ?_, fun i b p f o h => by simp [kg] at h, ?_, ?_, .refl _, fun _ _ _ _ _ h => h, fun _ h => h.elim⟩
    · intro f b o u hu
      cases f with
      | true => cases hu
      | false => exact hu
    · intro b o u hu; cases hu
    · intro b o u hu; cases hu
  have hv : All2 (AV.rel (fun _ => none) R0) (args.map .pl) vs := by
    refine All2.map _ (hvs.mono_mem fun a ha b hb => ?_)
    exact A0.rel_low (by rfl) (List.all_eq_true.1 hlow a ha) hb
  have h0 := Wx.st_args (n := n) hv hw (by rw [← hvs.length]; exact hle')
  have hwz : Y.Wz (Wo.of w) (ky []) (fun _ => none) R0 w := ⟨by rw [kb_eq]; exact hw, fun i o h => (by cases h), fun i j oi oj p q h => (by cases h)⟩
  subst hn
  refine Y.fr_calls (r := none) (n := 0) (callsIn_of_wp_marks hf hb trivial (wpIn_mono (codeZ_sound hT (fun _ h => by cases h) c _ _ h (Wo.of w) none _ R0 _ w rfl ⟨h0.size, trivial, h0.fr, hwz⟩ (fun _ _ => rfl) (Nat.le_refl _)) ?_))
  rintro e' a' w' ⟨⟨F', K', t'⟩, I', R', h1, h2, h3, h4, h5, h6⟩
  have h1 : Y.St fn.ntmps (Wo.of w) (get F') (ky K') I' R' a' w' := h1
  have fin : retG T fn.results.toList ⟨F', K', t'⟩ post → LeavesInM (Y.fr none) 0 P fn a'.tmps (fun e w' => ∃ v_1 x Kc tc I Rf, e = .returned v_1 ∧ Wd (Wo.of w) (kg Kc) I (fun _ => Rf) w' ∧ (∀ j, tc ≤ j → I j = none) ∧ (∀ p ∈ Kc, p.1 < tc) ∧ x.rel I (fun _ => Rf) v_1 ∧ (post x ∧ Kc = [] ∧ tc = 0)) a'.defers .returning w' := by
    rintro ⟨s0, hst, xs, hx, ys, hy, hp⟩
    obtain ⟨I2, R2, m1, m2, _, _, _⟩ := hst _ _ I' R' a' w' h1 h2
    refine Y.leaves_marks _ _ m1.mks m1.wz fun w2 hw2 => ?_
    have k1' : Wx.St fn.ntmps (Wo.of w) (get s0.F) (kg (kbl s0.K)) I2 R2 ⟨a'.tmps, []⟩ w2 := ⟨m1.size, rfl, fun t x hx => m1.fr t x hx, by rw [kg_kbl, ← kb_eq]; exact hw2.wd⟩
    obtain ⟨v, j1, j2⟩ := resL_results hT k1' hx
    obtain ⟨g1, g2⟩ := retV_frz k1'.wd hy j2
    have g3 := (fz_all k1'.wd).1
    have g4 := (g3.weak (s := ⟨[], [], s0.top⟩) (K0 := []) (l := []) List.nodup_nil trivial m2).own (fun j b h => by simp [kg] at h)
    refine ⟨v, j1, v, _, [], 0, _, fzR (Wo.of w) R2 w2 true, rfl, g4, fun j _ => ?_, by simp, fzV_rel g2 g1, hp, rfl, rfl⟩
    simp only [rn, List.getElem?_nil]
    exact m2 _ (Nat.le_add_right _ _)
  cases e' with
  | normal => exact fin h6
  | ret => exact fin h6
  | _ => exact h6.elim
end Wx.Z
theorem rows_at {qs : List Qu} {i : Nat} {x : Qu} (hx : qs[i]? = some x) : ((qs.take i).map cQ ++ (qs.drop i).map cQf)[0 + i]? = some (cQf x) := by
  have hi := (List.getElem?_eq_some_iff.1 hx).1
  rw [Nat.zero_add, List.getElem?_append_right (by simp; omega), drop_cons hx, show i - ((qs.take i).map cQ).length = 0 by simp; omega]; rfl
theorem rows_set {α : Type} {l : List α} {i : Nat} {x : α} (h : i < l.length) : (l.set (0 + i) x)[0 + i]? = some x := by rw [Nat.zero_add]; simp [h]
/-! ### Queues, of which one keeps a block of its own -/
abbrev rwB (qs : List Qu) (i : Nat) : List (List Ce) := (qs.take i).map cQ ++ (qs.drop i).map cQf
abbrev rwQ (qs : List Qu) (k i : Nat) (r : List Ce) : Bool → List (List Ce)
  | false => rwB qs i
  | true => (rwB qs i).set k r
abbrev blQ (b : Z.Ob) : Bool → Option Z.Ob
  | false => none
  | true => some b
theorem rwB_len {qs : List Qu} {i : Nat} : (rwB qs i).length = qs.length := by
  simp only [rwB, List.length_append, List.length_map, List.length_take, List.length_drop]; omega
theorem rwB_ren {qs : List Qu} {i : Nat} {r : Nat → Nat} : (rwB qs i).map (List.map (Ce.ren r)) = rwB qs i := by
  unfold rwB; rw [List.map_append]; congr 1
  · exact ren_map fun _ => rfl
  · exact ren_map fun _ => rfl
theorem blk_set0 {K : Z.Kr} {r : Nat → Nat} {j k sz : Nat} {ty : TypeId} {bx : Bool} {L : List (List Ce)} {RK r0 : List Ce} (h : Z.kz K (r j) = some (.b ⟨L.set k r0, sz, ty, bx⟩)) (hL : L.map (List.map (Ce.ren r)) = L) (hr : RK.map (Ce.ren r) = r0) : ∀ b, some (Z.Ob.b ⟨L.set k RK, sz, ty, bx⟩) = some b → Z.kz K (r j) = some (b.ren r) := fun b hb => by
  cases hb
  rw [h]
  show some (Z.Ob.b ⟨_, _, _, _⟩) = some (Z.Ob.b ⟨_, _, _, _⟩)
  rw [List.map_set, hL, hr]
theorem rows_atS {qs : List Qu} {i k : Nat} {x : Qu} {RK : List Ce} (hx : qs[i]? = some x) (hk : k ≠ i) : ((rwB qs i).set k RK)[0 + i]? = some (cQf x) := by
  rw [Nat.zero_add, List.getElem?_set_ne hk]
  have := rows_at hx
  rw [Nat.zero_add] at this
  exact this
theorem rows_midS {j : Nat} {o : Option Blk} {qs : List Qu} {i k : Nat} {x : Qu} {r RK : List Ce} (hx : qs[i]? = some x) (hk : k ≠ i) (h : All2 (Z.fzC j o) r (cQ x)) : All2 (All2 (Z.fzC j o)) (((rwB qs i).set k RK).set (0 + i) r) ((rwB qs (i + 1)).set k RK) := by
  rw [Nat.zero_add, List.set_comm _ _ hk]
  have h1 := rows_mid hx h
  rw [Nat.zero_add] at h1
  exact Y.All2.setAt k h1 (Z.All2.self Z.fzC.refl _)
theorem setB_len {qs : List Qu} {i k : Nat} {RK : List Ce} : ((rwB qs i).set k RK).length = qs.length := by rw [List.length_set, rwB_len]
theorem g_app' {α : Type} {f : α → List Ce} {l : List α} {n : Nat} {S : List (List Ce)} {v : α} (hn : n = l.length) (hS : S = [f v]) : List.take n (l.map f) ++ S = (l ++ [v]).map f := by
  subst hn hS; rw [List.take_of_length_le (by simp)]; simp
theorem rows_end {j : Nat} {o : Option Blk} {qs : List Qu} {k : Nat} {q : Qu} {r RK : List Ce} (h : All2 (Z.fzC j o) r (cQ q)) : All2 (All2 (Z.fzC j o)) (((rwB qs qs.length).set k RK).set (0 + k) r) ((qs.set k q).map cQ) := by
  rw [Nat.zero_add, List.set_set, List.map_set]
  unfold rwB
  rw [List.take_length, List.drop_length, List.map_nil, List.append_nil]
  exact Y.All2.setAt k (Z.All2.self (Z.All2.self Z.fzC.refl) _) h
theorem rows_end2 {j : Nat} {o : Option Blk} {qs : List Qu} {k : Nat} {q : Qu} {r r2 RK : List Ce} (h : All2 (Z.fzC j o) r (cQ q)) : All2 (All2 (Z.fzC j o)) ((((rwB qs qs.length).set k RK).set (0 + k) r2).set (0 + k) r) ((qs.set k q).map cQ) := by
  rw [Nat.zero_add, List.set_set]
  have := rows_end (RK := RK) (qs := qs) (k := k) h
  rw [Nat.zero_add] at this
  exact this
theorem rows_set0 {L : List (List Ce)} {k : Nat} {r : List Ce} (h : k < L.length) : (L.set k r)[0 + k]? = some r := by rw [Nat.zero_add]; simp [h]
theorem Z.fzC.of_eq {j : Nat} {o : Option Blk} {c c' : Ce} (h : c = c') : Z.fzC j o c c' := by subst h; exact Z.fzC.refl _
/-- Where the one queue gets its block: its row is put. -/
theorem blk_setM {K : Z.Kr} {r : Nat → Nat} {j i sz : Nat} {ty : TypeId} {bx : Bool} {qs : List Qu} {x : Qu} {RK r0 : List Ce} (h : Z.kz K (r j) = some (.b ⟨(rwB qs i).set (0 + i) r0, sz, ty, bx⟩)) (hL : ∀ m, (rwB qs m).map (List.map (Ce.ren r)) = rwB qs m) (hr : RK.map (Ce.ren r) = r0) (hx : qs[i]? = some x) : ∀ b, some (Z.Ob.b ⟨(rwB qs (i + 1)).set i RK, sz, ty, bx⟩) = some b → Z.kz K (r j) = some (b.ren r) := fun b hb => by
  cases hb
  rw [h]
  show some (Z.Ob.b ⟨_, _, _, _⟩) = some (Z.Ob.b ⟨_, _, _, _⟩)
  rw [List.map_set, hL, hr, Nat.zero_add]
  have hi := (List.getElem?_eq_some_iff.1 hx).1
  unfold rwB
  rw [drop_cons hx, take_snoc hx, List.map_cons, List.map_append, List.append_assoc, List.set_append_right _ _ (by rw [List.length_map, List.length_take]; exact Nat.min_le_left _ _), List.set_append_right _ _ (by rw [List.length_map, List.length_take]; exact Nat.min_le_left _ _), show i - ((qs.take i).map cQ).length = 0 by rw [List.length_map, List.length_take]; omega, List.set_cons_zero]
  rfl
theorem rows_done {qs : List Qu} {k : Nat} {x : Qu} (hx : qs[k]? = some x) : ((qs.take qs.length).map cQ ++ (qs.drop qs.length).map cQf)[0 + k]? = some (cQ x) := by
  rw [Nat.zero_add, List.take_length, List.drop_length, List.map_nil, List.append_nil, List.getElem?_map, hx]; rfl
end Go.Proofs.Ytakfkbciijahgaa
namespace Go.Proofs.Ytakfkbciijahgaa
open Go Go.RowKit Wx
set_option linter.unusedVariables false
set_option linter.unusedSimpArgs false
set_option maxHeartbeats 4000000
theorem push_ok (qs : List Qu) (n d : Int) (k : Nat) (x : Qu) (e : El) (hq : qs.length ≤ 9223372036854775807) (hlq : ∀ q ∈ qs, q.es.length ≤ 9223372036854775807) (huq : ∀ q ∈ qs, ∀ e ∈ q.es, 0 ≤ e.num) (he : 0 ≤ e.num) (hk : okG qs n d = true) (hx : qs[k]? = some x) (hoe : okE e = true) (hcl : clsQ x = false) (hnb : ¬ (e.kd = 2 ∧ e.num ≤ x.last)) (hfl : x.es.length < 4) : Con Try.prog 12 [.agg [.ro false 4 (qs.map eQ), .v (.int .u64 n), .v (.int .u64 d)], .one (.v (.int .i64 (k : Int))), .agg [.v (.int .i64 e.kd), .v (.int .i64 e.src), .v (.int .i64 e.key), .v (.int .i64 e.val), .v (.int .u64 e.num)]] (fun rx rK rt => rx = .tup [.agg [.ro true 4 ((qs.set k (pushQ e x)).map eQ), .v (.int .u64 n), .v (.int .u64 d)], .one (.v (.int .i64 0))] ∧ rK = [] ∧ rt = 0) := by
  refine Z.con_ofG tabOk 82 Try.f12 _ Try.func12 (by kernel_rfl) rfl rfl rfl rfl ?_
  have ck := check_con qs n d hq hlq huq
  rw [hk] at ck
  simp only [cond_true] at ck
  obtain ⟨hn1, hn4⟩ := okG_all hk
  have ch := has_con qs n d (k : Int)
  rw [decide_eq_true (p := (0 : Int) ≤ (k : Int) ∧ (k : Int) < (qs.length : Int)) (by have := (List.getElem?_eq_some_iff.1 hx).1; omega)] at ch
  have hkl := (List.getElem?_eq_some_iff.1 hx).1
  have hx4 := hn4 x (List.mem_of_getElem? hx)
  have ce := checkE_con e he
  rw [hoe] at ce
  simp only [cond_true] at ce
  have cc := closed_con x (by omega)
  rw [hcl] at cc
  repeat' ((conv => whnf); first
    | ((with_reducible apply spB_cong); (focus (simp only [beq_self_eq_true, bne_self_eq_false, Bool.true_bne, Bool.false_bne, Bool.bne_true, Bool.bne_false, Bool.true_beq, Bool.false_beq, Bool.not_true, Bool.not_false, Bool.not_not, Int.reduceBEq, Int.reduceBNe, Int.reduceLE, Int.reduceLT, Int.reduceEq, decide_true, decide_false]; rfl)))
    | with_reducible first | refine spB_no (by decide) ?_
    | ((with_reducible refine cpyN.mk ?_ ?_ ?_ ?_); (focus (first | (simp; done))); (focus (first | exact one_map2 (fun _ => rfl))); (focus ((try simp only [LN] at *) <;> omega)))
    | with_reducible first | refine Z.callZ_in tabOk 41 Try.f30 _ Try.func30 (by kernel_rfl) rfl rfl rfl ?_
    | ((first | (with_reducible refine Z.callZ_mk ?_ (ck) ?_) | (with_reducible refine Z.callZ_mk ?_ (ch) ?_) | (with_reducible refine Z.callZ_mk ?_ (ce) ?_)); (focus ((repeat' (first | exact trivial | exact rfl | apply And.intro)); done)))
    | ((with_reducible refine Z.mkN_nat ?_ ?_ ?_ ?_); (focus ((try simp only [LN] at *) <;> omega)); (focus ((try simp only [LN] at *) <;> omega)); (focus ((try simp only [LN] at *) <;> omega))))
  all_goals (try (conv => whnf))
  all_goals try (show Nat.ble _ _ = true; rfl)
  all_goals try (exfalso; rename_i hz; cases hz; done)
  all_goals try (exfalso; (try simp only [LN] at *) <;> omega)
  refine Z.loopK tabOk (fun zq : Nat × Bool => [(16, .val (.int .i64 (zq.1 : Int)))]) (fun zq : Nat × Bool => ([(5, some (Z.Ob.b ⟨rwQ qs k zq.1 [.osl 6 0 (x.es.map eE).length (some (x.es.map eE).length), .v (.int .u64 x.last), .v (.bool x.held), .v (.bool x.ended)] zq.2, 4, 39, false⟩)), (6, blQ (.b ⟨x.es.map cE, 5, 29, false⟩) zq.2)] : Z.Kr)) (fun zq => zq.1 ≤ qs.length ∧ (zq.2 = true ↔ k < zq.1)) (fun zq => qs.length - zq.1) (0, false) 7 [(1, _), (2, _), (3, _), (14, _), (15, _)] ⟨rfl, rfl, rfl, rfl, rfl, trivial⟩ [(0, some _), (1, some _), (2, some _), (3, some _), (4, some _)] ⟨rfl, rfl, rfl, rfl, rfl, trivial⟩ ?_ ?_ rfl rfl ⟨Nat.zero_le _, by simp⟩ ?_
  · repeat' (first | exact trivial | apply And.intro | exact ⟨_, rfl, Z.Imp.refl _⟩)
  · repeat' (first | exact trivial | (intro b hb; cases hb; done) | (intro b hb; cases hb; refine ⟨_, rfl, ⟨rfl, rfl, rfl⟩, Z.imp_eq ?_⟩; first | rfl | exact Z.lay_copy (by simp) (Nat.le_min.2 ⟨by simp, by simp⟩) (fun _ => rfl); done) | apply And.intro)
  rintro ⟨i, ph⟩ HINV
  dsimp only at HINV ⊢
  obtain ⟨HI, HP⟩ := HINV
  by_cases hi : i < qs.length
  · obtain ⟨y, hy⟩ := getElem?_some' (xs := qs) (i := i) hi
    have hy4 := hn4 y (List.mem_of_getElem? hy)
    cases ph
    · dsimp only [rwQ, blQ]
      have hik : i ≤ k := by
        rcases Nat.lt_or_ge k i with h9 | h9
        · exact absurd (HP.2 h9) (by simp)
        · exact h9
      repeat' ((conv => whnf); first
        | (with_reducible refine spB_dec ?_ ?_ <;> intro _ <;> (try (exfalso; first | contradiction | omega | (rename_i hz; refine hz ?_; simp; done) | (rename_i hz; simp at hz; done) | (simp only [LN] at *; omega))))
        | ((with_reducible refine rowN_mk (cQf y) ?_ ?_); (focus (exact rows_at hy)))
        | ((with_reducible apply rowN_mk); (focus (exact rows_set (by first | (rw [rwB_len]; exact hi) | (simp only [rwB, List.length_set, List.length_append, List.length_map, List.length_take, List.length_drop]; omega)))))
        | ((with_reducible apply ixN_litp); (focus (exact rfl)); (focus ((try simp only [LN] at *) <;> omega)))
        | ((with_reducible refine cpyN.mk ?_ ?_ ?_ ?_); (focus (first | (simp; done))); (focus (first | exact one_map2 (fun _ => rfl))); (focus ((try simp only [LN] at *) <;> omega)))
        | with_reducible refine wr_i64 (by first | omega | (simp only [LN] at *; omega)) ?_
        | ((with_reducible refine Z.mkN_nat ?_ ?_ ?_ ?_); (focus ((try simp only [LN] at *) <;> omega)); (focus ((try simp only [LN] at *) <;> omega)); (focus ((try simp only [LN] at *) <;> omega)))
        | with_reducible first | refine Z.drawZ_rule tabOk mixOk ?_ | refine Z.apZ_mk (by kernel_rfl) ?_)
      all_goals (try (conv => whnf))
      all_goals try (show Nat.ble _ _ = true; rfl)
      rcases Nat.lt_or_ge i k with hlt | hge
      · skip
        all_goals first
          | ((refine Z.rnd_rw 8 (y.es.map cE) rfl rfl ?_ ?_); (focus (exact Z.lay_copy (by simp) (Nat.le_min.2 ⟨by simp, by simp⟩) (fun _ => rfl))); ((refine rnd_fzr 26 5 (rwB qs (i + 1)) rfl rfl rfl (rows_mid hy ⟨?_, ?_, ?_, ?_, trivial⟩) ?_); (focus (first | exact Z.fzC.ogsl rfl (by simp only [List.length_map, Nat.zero_add]) (fun _ => rfl))); (focus (first | exact Z.fzC.refl _)); (focus (first | exact Z.fzC.refl _)); (focus (first | exact Z.fzC.refl _)); ((refine Z.rndK ((i + 1, false)) (fun s => [0, 1, 2, 3, 4, 5, 6]) rfl rfl rfl rfl ?_ ?_ ?_ ?_); (focus (repeat' (first | exact trivial | exact rfl | apply And.intro))); (focus (repeat' (first | exact trivial | (intro b hb; cases hb; rfl) | (intro b hb; cases hb; done) | exact Z.blk_sub rfl rfl (Z.ren_app (ren_map fun _ => rfl) (ren_map fun _ => rfl)) | apply And.intro))); (focus (exact ⟨by (try dsimp only); omega, by (try dsimp only); first | (constructor; (focus (intro h9; cases h9)); (intro h9; omega)) | (constructor; (focus (intro _; omega)); (intro _; rfl))⟩)); ((try dsimp only); omega))))
      have hik2 : i = k := by omega
      subst hik2
      obtain rfl : y = x := by rw [hx] at hy; exact (Option.some.inj hy).symm
      all_goals first
        | ((refine Z.rnd_rw 8 (y.es.map cE) rfl rfl ?_ ?_); (focus (exact Z.lay_copy (by simp) (Nat.le_min.2 ⟨by simp, by simp⟩) (fun _ => rfl))); ((refine Z.rndK ((i + 1, true)) (fun s => [0, 1, 2, 3, 4, 5, s.idAt 26]) rfl rfl rfl rfl ?_ ?_ ?_ ?_); (focus (repeat' (first | exact trivial | exact rfl | apply And.intro))); (focus (repeat' (first | exact trivial | exact blk_setM rfl (fun _ => rwB_ren) rfl hx | (intro b hb; cases hb; rfl) | exact Z.blk_sub rfl rfl (ren_map fun _ => rfl) | apply And.intro))); (focus (exact ⟨by (try dsimp only); omega, by (try dsimp only); exact ⟨fun _ => by omega, fun _ => rfl⟩⟩)); ((try dsimp only); omega)))
    · dsimp only [rwQ, blQ]
      have hik : k < i := HP.1 rfl
      have hki : k ≠ i := by omega
      repeat' ((conv => whnf); first
        | (with_reducible refine spB_dec ?_ ?_ <;> intro _ <;> (try (exfalso; first | contradiction | omega | (rename_i hz; refine hz ?_; simp; done) | (rename_i hz; simp at hz; done) | (simp only [LN] at *; omega))))
        | ((with_reducible refine rowN_mk (cQf y) ?_ ?_); (focus (exact rows_atS hy hki)))
        | ((with_reducible apply rowN_mk); (focus (exact rows_set (by first | (rw [setB_len]; exact hi) | (simp only [rwB, List.length_set, List.length_append, List.length_map, List.length_take, List.length_drop]; omega)))))
        | ((with_reducible apply ixN_litp); (focus (exact rfl)); (focus ((try simp only [LN] at *) <;> omega)))
        | ((with_reducible refine cpyN.mk ?_ ?_ ?_ ?_); (focus (first | (simp; done))); (focus (first | exact one_map2 (fun _ => rfl))); (focus ((try simp only [LN] at *) <;> omega)))
        | with_reducible refine wr_i64 (by first | omega | (simp only [LN] at *; omega)) ?_
        | ((with_reducible refine Z.mkN_nat ?_ ?_ ?_ ?_); (focus ((try simp only [LN] at *) <;> omega)); (focus ((try simp only [LN] at *) <;> omega)); (focus ((try simp only [LN] at *) <;> omega)))
        | with_reducible first | refine Z.drawZ_rule tabOk mixOk ?_ | refine Z.apZ_mk (by kernel_rfl) ?_)
      all_goals (try (conv => whnf))
      all_goals try (show Nat.ble _ _ = true; rfl)
      all_goals first
        | ((refine Z.rnd_rw 8 (y.es.map cE) rfl rfl ?_ ?_); (focus (exact Z.lay_copy (by simp) (Nat.le_min.2 ⟨by simp, by simp⟩) (fun _ => rfl))); ((refine rnd_fzr 26 5 ((rwB qs (i + 1)).set k [.osl 6 0 (x.es.map eE).length (some (x.es.map eE).length), .v (.int .u64 x.last), .v (.bool x.held), .v (.bool x.ended)]) rfl rfl rfl (rows_midS hy hki ⟨?_, ?_, ?_, ?_, trivial⟩) ?_); (focus (first | exact Z.fzC.ogsl rfl (by simp only [List.length_map, Nat.zero_add]) (fun _ => rfl))); (focus (first | exact Z.fzC.refl _)); (focus (first | exact Z.fzC.refl _)); (focus (first | exact Z.fzC.refl _)); ((refine Z.rndK ((i + 1, true)) (fun s => [0, 1, 2, 3, 4, 5, 6]) rfl rfl rfl rfl ?_ ?_ ?_ ?_); (focus (repeat' (first | exact trivial | exact rfl | apply And.intro))); (focus (repeat' (first | exact trivial | exact blk_set0 rfl rwB_ren rfl | (intro b hb; cases hb; rfl) | exact Z.blk_sub rfl rfl (ren_map fun _ => rfl) | apply And.intro))); (focus (exact ⟨by (try dsimp only); omega, by (try dsimp only); first | (constructor; (focus (intro h9; cases h9)); (intro h9; omega)) | (constructor; (focus (intro _; omega)); (intro _; rfl))⟩)); ((try dsimp only); omega))))
  have hiq : i = qs.length := by omega
  subst hiq
  obtain rfl : ph = true := HP.2 hkl
  dsimp only [rwQ, blQ]
  repeat' ((conv => whnf); first
    | with_reducible first | refine spB_t ?_
    | with_reducible first | refine spB_no (by decide) ?_
    | (with_reducible refine spB_dec ?_ ?_ <;> intro _ <;> (try (exfalso; first | contradiction | omega | (rename_i hz; refine hz ?_; simp; done) | (rename_i hz; simp at hz; done) | (simp only [LN] at *; omega))))
    | (with_reducible refine spB_beq ?_ ?_ <;> intro _ <;> (try (exfalso; first | contradiction | omega | (rename_i hz; refine hz ?_; simp; done) | (rename_i hz; simp at hz; done) | (simp only [LN] at *; omega))))
    | ((with_reducible refine ixN_mk (k) ?_ ?_ ?_); (focus (first | rfl)); (focus ((try simp only [LN] at *) <;> omega)))
    | ((with_reducible refine rowN_mk [.osl 6 0 (x.es.map eE).length (some (x.es.map eE).length), .v (.int .u64 x.last), .v (.bool x.held), .v (.bool x.ended)] ?_ ?_); (focus (exact rows_set0 (by rw [rwB_len]; exact hkl))))
    | ((with_reducible apply rowN_mk); (focus (exact rows_set (by first | (rw [setB_len]; exact hkl) | (rw [rwB_len]; exact hkl) | (rw [List.length_set, setB_len]; exact hkl)))))
    | ((with_reducible refine apdE_k ?_); (with_reducible refine apkN.mk ⟨_, rfl, ?_⟩ ?_); (focus omega); (with_reducible refine apdN.mk ?_ ?_ ?_ ?_ ?_ ?_); (focus rfl); (focus (exact one_all (by rfl))); (focus (simp; done)); (focus ((try simp only [LN] at *) <;> omega)); (focus ((try simp only [LN] at *) <;> omega)))
    | ((first | (with_reducible refine Z.conZ_mz ?_ (cc) ?_)); (focus ((repeat' (first | exact trivial | exact rfl | (refine Z.low_osln ?_ (fun _ => rfl); (simp only [List.length_map]; done)) | apply And.intro)); done)))
    | ((with_reducible apply ex_and); exact rfl)
    | with_reducible first | refine Z.drawZ_rule tabOk mixOk ?_ | refine Z.apZ_mk (by kernel_rfl) ?_)
  all_goals (try (conv => whnf))
  all_goals try (show Nat.ble _ _ = true; rfl)
  all_goals try (exfalso; rename_i hz; cases hz; done)
  all_goals try (exfalso; (try simp only [LN] at *) <;> omega)
  all_goals first
    | ((refine Z.retG_fz 70 5 ((qs.set k (pushQ e x)).map cQ) rfl rfl (rows_end (q := pushQ e x) ?_) ?_); (focus (refine ⟨?_, ?_, ?_, ?_, trivial⟩; (focus (exact Z.fzC.ogsl (l := x.es ++ [e]) (f := cE) (ty := 29) (bx := false) (congrArg (fun r => some (Blk.mk r 5 29 false)) (g_app' (f := cE) (by simp) rfl)) (by simp) (fun _ => rfl))); (focus (exact Z.fzC.of_eq (by unfold pushQ; simp_all))); (focus exact Z.fzC.refl _); (exact Z.fzC.refl _))); (refine Z.retG_0 ?_); (refine Z.retF2 [.agg [.osl 5 0 (qs.map eQ).length (some (qs.map eQ).length), .v (.int .u64 n), .v (.int .u64 d)], .one (.v (.int .i64 0))] (by rfl) ⟨⟨Z.frz_osl (l := qs.set k (pushQ e x)) (f := cQ) (ty := 39) (bx := false) (by rfl) (by simp) (fun _ => rfl), rfl, rfl, trivial⟩, rfl, trivial⟩))
    | ((refine Z.retG_fz 70 5 ((qs.set k (pushQ e x)).map cQ) rfl rfl (rows_end2 (q := pushQ e x) ?_) ?_); (focus (refine ⟨?_, ?_, ?_, ?_, trivial⟩; (focus (exact Z.fzC.ogsl (l := x.es ++ [e]) (f := cE) (ty := 29) (bx := false) (congrArg (fun r => some (Blk.mk r 5 29 false)) (g_app' (f := cE) (by simp) rfl)) (by simp) (fun _ => rfl))); (focus (exact Z.fzC.of_eq (by unfold pushQ; simp_all))); (focus exact Z.fzC.refl _); (exact Z.fzC.refl _))); (refine Z.retG_0 ?_); (refine Z.retF2 [.agg [.osl 5 0 (qs.map eQ).length (some (qs.map eQ).length), .v (.int .u64 n), .v (.int .u64 d)], .one (.v (.int .i64 0))] (by rfl) ⟨⟨Z.frz_osl (l := qs.set k (pushQ e x)) (f := cQ) (ty := 39) (bx := false) (by rfl) (by simp) (fun _ => rfl), rfl, rfl, trivial⟩, rfl, trivial⟩))

end Go.Proofs.Ytakfkbciijahgaa
namespace Go.Proofs.Ytakfkbciijahgaa
open Go Go.RowKit Wx
set_option linter.unusedVariables false
set_option linter.unusedSimpArgs false
set_option maxHeartbeats 4000000
theorem push_bad (qs : List Qu) (n d : Int) (i : Int) (e : El) (hq : qs.length ≤ 9223372036854775807) (hlq : ∀ q ∈ qs, q.es.length ≤ 9223372036854775807) (huq : ∀ q ∈ qs, ∀ e ∈ q.es, 0 ≤ e.num) (he : 0 ≤ e.num) (hk : okG qs n d = false) : Con Try.prog 12 [.agg [.ro false 4 (qs.map eQ), .v (.int .u64 n), .v (.int .u64 d)], .one (.v (.int .i64 i)), .agg [.v (.int .i64 e.kd), .v (.int .i64 e.src), .v (.int .i64 e.key), .v (.int .i64 e.val), .v (.int .u64 e.num)]] (fun rx rK rt => rx = .tup [.agg [.ro true 4 (([] : List Qu).map eQ), .v (.int .u64 0), .v (.int .u64 0)], .one (.v (.int .i64 250))] ∧ rK = [] ∧ rt = 0) := by
  refine Z.con_ofF tabOk 82 Try.f12 _ Try.func12 (by kernel_rfl) rfl rfl rfl rfl ?_
  have ck := check_con qs n d hq hlq huq
  rw [hk] at ck
  simp only [cond_false] at ck
  repeat' ((conv => whnf); first
    | with_reducible first | refine spB_t ?_
    | ((with_reducible apply spB_cong); (focus (simp only [beq_self_eq_true, bne_self_eq_false, Bool.true_bne, Bool.false_bne, Bool.bne_true, Bool.bne_false, Bool.true_beq, Bool.false_beq, Bool.not_true, Bool.not_false, Bool.not_not, Int.reduceBEq, Int.reduceBNe, Int.reduceLE, Int.reduceLT, Int.reduceEq, decide_true, decide_false]; rfl)))
    | ((first | (with_reducible refine Z.callZ_mk ?_ (ck) ?_)); (focus ((repeat' (first | exact trivial | exact rfl | apply And.intro)); done))))
  all_goals (try (conv => whnf))
  all_goals try (show Nat.ble _ _ = true; rfl)
  all_goals first
    | ((first | (with_reducible apply Z.retF2)); (focus (exact rfl)); (repeat' (first | exact trivial | (with_reducible apply Z.frz_agg) | (with_reducible apply Z.fq_int) | (exact Z.frz_nil) | exact rfl | apply And.intro)); (all_goals (try exact (fun _ => none))); all_goals (first | (simp; done)))

theorem push_has (qs : List Qu) (n d : Int) (i : Int) (e : El) (hq : qs.length ≤ 9223372036854775807) (hlq : ∀ q ∈ qs, q.es.length ≤ 9223372036854775807) (huq : ∀ q ∈ qs, ∀ e ∈ q.es, 0 ≤ e.num) (he : 0 ≤ e.num) (hk : okG qs n d = true) (hi : ¬ (0 ≤ i ∧ i < qs.length)) : Con Try.prog 12 [.agg [.ro false 4 (qs.map eQ), .v (.int .u64 n), .v (.int .u64 d)], .one (.v (.int .i64 i)), .agg [.v (.int .i64 e.kd), .v (.int .i64 e.src), .v (.int .i64 e.key), .v (.int .i64 e.val), .v (.int .u64 e.num)]] (fun rx rK rt => rx = .tup [.agg [.ro true 4 (([] : List Qu).map eQ), .v (.int .u64 0), .v (.int .u64 0)], .one (.v (.int .i64 2))] ∧ rK = [] ∧ rt = 0) := by
  refine Z.con_ofF tabOk 82 Try.f12 _ Try.func12 (by kernel_rfl) rfl rfl rfl rfl ?_
  have ck := check_con qs n d hq hlq huq
  rw [hk] at ck
  simp only [cond_true] at ck
  obtain ⟨hn1, hn4⟩ := okG_all hk
  have ch := has_con qs n d i
  rw [decide_eq_false hi] at ch
  repeat' ((conv => whnf); first
    | with_reducible first | refine spB_t ?_
    | ((with_reducible apply spB_cong); (focus (simp only [beq_self_eq_true, bne_self_eq_false, Bool.true_bne, Bool.false_bne, Bool.bne_true, Bool.bne_false, Bool.true_beq, Bool.false_beq, Bool.not_true, Bool.not_false, Bool.not_not, Int.reduceBEq, Int.reduceBNe, Int.reduceLE, Int.reduceLT, Int.reduceEq, decide_true, decide_false]; rfl)))
    | with_reducible first | refine spB_no (by decide) ?_
    | ((first | (with_reducible refine Z.callZ_mk ?_ (ck) ?_) | (with_reducible refine Z.callZ_mk ?_ (ch) ?_)); (focus ((repeat' (first | exact trivial | exact rfl | apply And.intro)); done))))
  all_goals (try (conv => whnf))
  all_goals try (show Nat.ble _ _ = true; rfl)
  all_goals first
    | ((first | (with_reducible apply Z.retF2)); (focus (exact rfl)); (repeat' (first | exact trivial | (with_reducible apply Z.frz_one) | (with_reducible apply Z.frz_agg) | (with_reducible apply Z.fq_int) | (exact Z.frz_nil) | exact rfl | apply And.intro)); (all_goals (try exact (fun _ => none))); all_goals (first | (simp; done)))

theorem push_elem (qs : List Qu) (n d : Int) (i : Int) (e : El) (hq : qs.length ≤ 9223372036854775807) (hlq : ∀ q ∈ qs, q.es.length ≤ 9223372036854775807) (huq : ∀ q ∈ qs, ∀ e ∈ q.es, 0 ≤ e.num) (he : 0 ≤ e.num) (hk : okG qs n d = true) (hi : 0 ≤ i ∧ i < qs.length) (hoe : okE e = false) : Con Try.prog 12 [.agg [.ro false 4 (qs.map eQ), .v (.int .u64 n), .v (.int .u64 d)], .one (.v (.int .i64 i)), .agg [.v (.int .i64 e.kd), .v (.int .i64 e.src), .v (.int .i64 e.key), .v (.int .i64 e.val), .v (.int .u64 e.num)]] (fun rx rK rt => rx = .tup [.agg [.ro true 4 (([] : List Qu).map eQ), .v (.int .u64 0), .v (.int .u64 0)], .one (.v (.int .i64 151))] ∧ rK = [] ∧ rt = 0) := by
  refine Z.con_ofF tabOk 82 Try.f12 _ Try.func12 (by kernel_rfl) rfl rfl rfl rfl ?_
  have ck := check_con qs n d hq hlq huq
  rw [hk] at ck
  simp only [cond_true] at ck
  obtain ⟨hn1, hn4⟩ := okG_all hk
  have ch := has_con qs n d i
  rw [decide_eq_true hi] at ch
  have ce := checkE_con e he
  rw [hoe] at ce
  simp only [cond_false] at ce
  repeat' ((conv => whnf); first
    | with_reducible first | refine spB_t ?_
    | ((with_reducible apply spB_cong); (focus (simp only [beq_self_eq_true, bne_self_eq_false, Bool.true_bne, Bool.false_bne, Bool.bne_true, Bool.bne_false, Bool.true_beq, Bool.false_beq, Bool.not_true, Bool.not_false, Bool.not_not, Int.reduceBEq, Int.reduceBNe, Int.reduceLE, Int.reduceLT, Int.reduceEq, decide_true, decide_false]; rfl)))
    | with_reducible first | refine spB_no (by decide) ?_
    | ((first | (with_reducible refine Z.callZ_mk ?_ (ck) ?_) | (with_reducible refine Z.callZ_mk ?_ (ch) ?_) | (with_reducible refine Z.callZ_mk ?_ (ce) ?_)); (focus ((repeat' (first | exact trivial | exact rfl | apply And.intro)); done))))
  all_goals (try (conv => whnf))
  all_goals try (show Nat.ble _ _ = true; rfl)
  all_goals first
    | ((first | (with_reducible apply Z.retF2)); (focus (exact rfl)); (repeat' (first | exact trivial | (with_reducible apply Z.frz_agg) | (with_reducible apply Z.fq_int) | (exact Z.frz_nil) | exact rfl | apply And.intro)); (all_goals (try exact (fun _ => none))); all_goals (first | (simp; done)))

theorem push_cls (qs : List Qu) (n d : Int) (k : Nat) (x : Qu) (e : El) (hq : qs.length ≤ 9223372036854775807) (hlq : ∀ q ∈ qs, q.es.length ≤ 9223372036854775807) (huq : ∀ q ∈ qs, ∀ e ∈ q.es, 0 ≤ e.num) (he : 0 ≤ e.num) (hk : okG qs n d = true) (hx : qs[k]? = some x) (hoe : okE e = true) (hcl : clsQ x = true) : Con Try.prog 12 [.agg [.ro false 4 (qs.map eQ), .v (.int .u64 n), .v (.int .u64 d)], .one (.v (.int .i64 (k : Int))), .agg [.v (.int .i64 e.kd), .v (.int .i64 e.src), .v (.int .i64 e.key), .v (.int .i64 e.val), .v (.int .u64 e.num)]] (fun rx rK rt => rx = .tup [.agg [.ro true 4 (([] : List Qu).map eQ), .v (.int .u64 0), .v (.int .u64 0)], .one (.v (.int .i64 2))] ∧ rK = [] ∧ rt = 0) := by
  refine Z.con_ofF tabOk 82 Try.f12 _ Try.func12 (by kernel_rfl) rfl rfl rfl rfl ?_
  have ck := check_con qs n d hq hlq huq
  rw [hk] at ck
  simp only [cond_true] at ck
  obtain ⟨hn1, hn4⟩ := okG_all hk
  have ch := has_con qs n d (k : Int)
  rw [decide_eq_true (p := (0 : Int) ≤ (k : Int) ∧ (k : Int) < (qs.length : Int)) (by have := (List.getElem?_eq_some_iff.1 hx).1; omega)] at ch
  have hkl := (List.getElem?_eq_some_iff.1 hx).1
  have hx4 := hn4 x (List.mem_of_getElem? hx)
  have ce := checkE_con e he
  rw [hoe] at ce
  simp only [cond_true] at ce
  have cc := closed_con x (by omega)
  rw [hcl] at cc
  repeat' ((conv => whnf); first
    | ((with_reducible apply spB_cong); (focus (simp only [beq_self_eq_true, bne_self_eq_false, Bool.true_bne, Bool.false_bne, Bool.bne_true, Bool.bne_false, Bool.true_beq, Bool.false_beq, Bool.not_true, Bool.not_false, Bool.not_not, Int.reduceBEq, Int.reduceBNe, Int.reduceLE, Int.reduceLT, Int.reduceEq, decide_true, decide_false]; rfl)))
    | with_reducible first | refine spB_no (by decide) ?_
    | ((with_reducible refine cpyN.mk ?_ ?_ ?_ ?_); (focus (first | (simp; done))); (focus (first | exact one_map2 (fun _ => rfl))); (focus ((try simp only [LN] at *) <;> omega)))
    | with_reducible first | refine Z.callZ_in tabOk 41 Try.f30 _ Try.func30 (by kernel_rfl) rfl rfl rfl ?_
    | ((first | (with_reducible refine Z.callZ_mk ?_ (ck) ?_) | (with_reducible refine Z.callZ_mk ?_ (ch) ?_) | (with_reducible refine Z.callZ_mk ?_ (ce) ?_)); (focus ((repeat' (first | exact trivial | exact rfl | apply And.intro)); done)))
    | ((with_reducible refine Z.mkN_nat ?_ ?_ ?_ ?_); (focus ((try simp only [LN] at *) <;> omega)); (focus ((try simp only [LN] at *) <;> omega)); (focus ((try simp only [LN] at *) <;> omega))))
  all_goals (try (conv => whnf))
  all_goals try (show Nat.ble _ _ = true; rfl)
  all_goals try (exfalso; rename_i hz; cases hz; done)
  all_goals try (exfalso; (try simp only [LN] at *) <;> omega)
  refine Z.loopK tabOk (fun zq : Nat => [(16, .val (.int .i64 (zq : Int)))]) (fun zq : Nat => ([(5, some (Z.Ob.b ⟨(qs.take zq).map cQ ++ (qs.drop zq).map cQf, 4, 39, false⟩))] : Z.Kr)) (fun zq => zq ≤ qs.length) (fun zq => qs.length - zq) 0 6 [(1, _), (2, _), (3, _), (14, _), (15, _)] ⟨rfl, rfl, rfl, rfl, rfl, trivial⟩ [(0, some _), (1, some _), (2, some _), (3, some _), (4, some _)] ⟨rfl, rfl, rfl, rfl, rfl, trivial⟩ ?_ ?_ rfl rfl (Nat.zero_le _) ?_
  · repeat' (first | exact trivial | apply And.intro | exact ⟨_, rfl, Z.Imp.refl _⟩)
  · repeat' (first | exact trivial | (intro b hb; cases hb; refine ⟨_, rfl, ⟨rfl, rfl, rfl⟩, Z.imp_eq ?_⟩; first | rfl | exact Z.lay_copy (by simp) (Nat.le_min.2 ⟨by simp, by simp⟩) (fun _ => rfl); done) | apply And.intro)
  rintro i HINV
  dsimp only at HINV ⊢
  by_cases hi : i < qs.length
  · obtain ⟨y, hy⟩ := getElem?_some' (xs := qs) (i := i) hi
    have hy4 := hn4 y (List.mem_of_getElem? hy)
    repeat' ((conv => whnf); first
      | (with_reducible refine spB_dec ?_ ?_ <;> intro _ <;> (try (exfalso; first | contradiction | omega | (rename_i hz; refine hz ?_; simp; done) | (rename_i hz; simp at hz; done) | (simp only [LN] at *; omega))))
      | ((with_reducible refine rowN_mk (cQf y) ?_ ?_); (focus (exact rows_at hy)))
      | ((with_reducible apply rowN_mk); (focus (exact rows_set (by simp only [List.length_append, List.length_map, List.length_take, List.length_drop]; omega))))
      | ((with_reducible apply ixN_litp); (focus (exact rfl)); (focus ((try simp only [LN] at *) <;> omega)))
      | ((with_reducible refine cpyN.mk ?_ ?_ ?_ ?_); (focus (first | (simp; done))); (focus (first | exact one_map2 (fun _ => rfl))); (focus ((try simp only [LN] at *) <;> omega)))
      | with_reducible refine wr_i64 (by first | omega | (simp only [LN] at *; omega)) ?_
      | ((with_reducible refine Z.mkN_nat ?_ ?_ ?_ ?_); (focus ((try simp only [LN] at *) <;> omega)); (focus ((try simp only [LN] at *) <;> omega)); (focus ((try simp only [LN] at *) <;> omega)))
      | with_reducible first | refine Z.drawZ_rule tabOk mixOk ?_ | refine Z.apZ_mk (by kernel_rfl) ?_)
    all_goals (try (conv => whnf))
    all_goals try (show Nat.ble _ _ = true; rfl)
    all_goals first
      | ((refine Z.rnd_rw 7 (y.es.map cE) rfl rfl ?_ ?_); (focus (exact Z.lay_copy (by simp) (Nat.le_min.2 ⟨by simp, by simp⟩) (fun _ => rfl))); ((refine rnd_fzr 26 5 ((qs.take (i + 1)).map cQ ++ (qs.drop (i + 1)).map cQf) rfl rfl rfl (rows_mid hy ⟨?_, ?_, ?_, ?_, trivial⟩) ?_); (focus (first | exact Z.fzC.ogsl rfl (by simp only [List.length_map, Nat.zero_add]) (fun _ => rfl))); (focus (first | exact Z.fzC.refl _)); (focus (first | exact Z.fzC.refl _)); (focus (first | exact Z.fzC.refl _)); ((refine Z.rndK ((i + 1)) (fun s => [0, 1, 2, 3, 4, 5]) rfl rfl rfl rfl ?_ ?_ ?_ ?_); (focus (repeat' (first | exact trivial | exact rfl | apply And.intro))); (focus (repeat' (first | exact trivial | (intro b hb; cases hb; rfl) | exact Z.blk_sub rfl rfl (Z.ren_app (ren_map fun _ => rfl) (ren_map fun _ => rfl)) | apply And.intro))); (focus (((try dsimp only); omega))); ((try dsimp only); omega))))
  have hiq : i = qs.length := by omega
  subst hiq
  repeat' ((conv => whnf); first
    | with_reducible first | refine spB_t ?_
    | (with_reducible refine spB_dec ?_ ?_ <;> intro _ <;> (try (exfalso; first | contradiction | omega | (rename_i hz; refine hz ?_; simp; done) | (rename_i hz; simp at hz; done) | (simp only [LN] at *; omega))))
    | ((with_reducible refine ixN_mk (k) ?_ ?_ ?_); (focus (first | rfl)); (focus ((try simp only [LN] at *) <;> omega)))
    | ((with_reducible refine rowN_mk (cQ x) ?_ ?_); (focus (exact rows_done hx)))
    | ((first | (with_reducible refine Z.conZ_mz ?_ (cc) ?_)); (focus ((repeat' (first | exact trivial | exact rfl | apply And.intro)); done)))
    | ((with_reducible apply ex_and); exact rfl)
    | with_reducible first | refine Z.drawZ_rule tabOk mixOk ?_ | refine Z.apZ_mk (by kernel_rfl) ?_)
  all_goals (try (conv => whnf))
  all_goals try (show Nat.ble _ _ = true; rfl)
  all_goals first
    | ((first | (with_reducible apply Z.retF2)); (focus (exact rfl)); (repeat' (first | exact trivial | (with_reducible apply Z.frz_one) | (with_reducible apply Z.frz_agg) | (with_reducible apply Z.fq_int) | (exact Z.frz_nil) | exact rfl | apply And.intro)); (all_goals (try exact (fun _ => none))); all_goals (first | (simp; done)))

theorem push_bar (qs : List Qu) (n d : Int) (k : Nat) (x : Qu) (e : El) (hq : qs.length ≤ 9223372036854775807) (hlq : ∀ q ∈ qs, q.es.length ≤ 9223372036854775807) (huq : ∀ q ∈ qs, ∀ e ∈ q.es, 0 ≤ e.num) (he : 0 ≤ e.num) (hk : okG qs n d = true) (hx : qs[k]? = some x) (hoe : okE e = true) (hcl : clsQ x = false) (hb : e.kd = 2 ∧ e.num ≤ x.last) : Con Try.prog 12 [.agg [.ro false 4 (qs.map eQ), .v (.int .u64 n), .v (.int .u64 d)], .one (.v (.int .i64 (k : Int))), .agg [.v (.int .i64 e.kd), .v (.int .i64 e.src), .v (.int .i64 e.key), .v (.int .i64 e.val), .v (.int .u64 e.num)]] (fun rx rK rt => rx = .tup [.agg [.ro true 4 (([] : List Qu).map eQ), .v (.int .u64 0), .v (.int .u64 0)], .one (.v (.int .i64 2))] ∧ rK = [] ∧ rt = 0) := by
  refine Z.con_ofF tabOk 82 Try.f12 _ Try.func12 (by kernel_rfl) rfl rfl rfl rfl ?_
  have ck := check_con qs n d hq hlq huq
  rw [hk] at ck
  simp only [cond_true] at ck
  obtain ⟨hn1, hn4⟩ := okG_all hk
  have ch := has_con qs n d (k : Int)
  rw [decide_eq_true (p := (0 : Int) ≤ (k : Int) ∧ (k : Int) < (qs.length : Int)) (by have := (List.getElem?_eq_some_iff.1 hx).1; omega)] at ch
  have hkl := (List.getElem?_eq_some_iff.1 hx).1
  have hx4 := hn4 x (List.mem_of_getElem? hx)
  have ce := checkE_con e he
  rw [hoe] at ce
  simp only [cond_true] at ce
  have cc := closed_con x (by omega)
  rw [hcl] at cc
  repeat' ((conv => whnf); first
    | ((with_reducible apply spB_cong); (focus (simp only [beq_self_eq_true, bne_self_eq_false, Bool.true_bne, Bool.false_bne, Bool.bne_true, Bool.bne_false, Bool.true_beq, Bool.false_beq, Bool.not_true, Bool.not_false, Bool.not_not, Int.reduceBEq, Int.reduceBNe, Int.reduceLE, Int.reduceLT, Int.reduceEq, decide_true, decide_false]; rfl)))
    | with_reducible first | refine spB_no (by decide) ?_
    | ((with_reducible refine cpyN.mk ?_ ?_ ?_ ?_); (focus (first | (simp; done))); (focus (first | exact one_map2 (fun _ => rfl))); (focus ((try simp only [LN] at *) <;> omega)))
    | with_reducible first | refine Z.callZ_in tabOk 41 Try.f30 _ Try.func30 (by kernel_rfl) rfl rfl rfl ?_
    | ((first | (with_reducible refine Z.callZ_mk ?_ (ck) ?_) | (with_reducible refine Z.callZ_mk ?_ (ch) ?_) | (with_reducible refine Z.callZ_mk ?_ (ce) ?_)); (focus ((repeat' (first | exact trivial | exact rfl | apply And.intro)); done)))
    | ((with_reducible refine Z.mkN_nat ?_ ?_ ?_ ?_); (focus ((try simp only [LN] at *) <;> omega)); (focus ((try simp only [LN] at *) <;> omega)); (focus ((try simp only [LN] at *) <;> omega))))
  all_goals (try (conv => whnf))
  all_goals try (show Nat.ble _ _ = true; rfl)
  all_goals try (exfalso; rename_i hz; cases hz; done)
  all_goals try (exfalso; (try simp only [LN] at *) <;> omega)
  refine Z.loopK tabOk (fun zq : Nat => [(16, .val (.int .i64 (zq : Int)))]) (fun zq : Nat => ([(5, some (Z.Ob.b ⟨(qs.take zq).map cQ ++ (qs.drop zq).map cQf, 4, 39, false⟩))] : Z.Kr)) (fun zq => zq ≤ qs.length) (fun zq => qs.length - zq) 0 6 [(1, _), (2, _), (3, _), (14, _), (15, _)] ⟨rfl, rfl, rfl, rfl, rfl, trivial⟩ [(0, some _), (1, some _), (2, some _), (3, some _), (4, some _)] ⟨rfl, rfl, rfl, rfl, rfl, trivial⟩ ?_ ?_ rfl rfl (Nat.zero_le _) ?_
  · repeat' (first | exact trivial | apply And.intro | exact ⟨_, rfl, Z.Imp.refl _⟩)
  · repeat' (first | exact trivial | (intro b hb; cases hb; refine ⟨_, rfl, ⟨rfl, rfl, rfl⟩, Z.imp_eq ?_⟩; first | rfl | exact Z.lay_copy (by simp) (Nat.le_min.2 ⟨by simp, by simp⟩) (fun _ => rfl); done) | apply And.intro)
  rintro i HINV
  dsimp only at HINV ⊢
  by_cases hi : i < qs.length
  · obtain ⟨y, hy⟩ := getElem?_some' (xs := qs) (i := i) hi
    have hy4 := hn4 y (List.mem_of_getElem? hy)
    repeat' ((conv => whnf); first
      | (with_reducible refine spB_dec ?_ ?_ <;> intro _ <;> (try (exfalso; first | contradiction | omega | (rename_i hz; refine hz ?_; simp; done) | (rename_i hz; simp at hz; done) | (simp only [LN] at *; omega))))
      | ((with_reducible refine rowN_mk (cQf y) ?_ ?_); (focus (exact rows_at hy)))
      | ((with_reducible apply rowN_mk); (focus (exact rows_set (by simp only [List.length_append, List.length_map, List.length_take, List.length_drop]; omega))))
      | ((with_reducible apply ixN_litp); (focus (exact rfl)); (focus ((try simp only [LN] at *) <;> omega)))
      | ((with_reducible refine cpyN.mk ?_ ?_ ?_ ?_); (focus (first | (simp; done))); (focus (first | exact one_map2 (fun _ => rfl))); (focus ((try simp only [LN] at *) <;> omega)))
      | with_reducible refine wr_i64 (by first | omega | (simp only [LN] at *; omega)) ?_
      | ((with_reducible refine Z.mkN_nat ?_ ?_ ?_ ?_); (focus ((try simp only [LN] at *) <;> omega)); (focus ((try simp only [LN] at *) <;> omega)); (focus ((try simp only [LN] at *) <;> omega)))
      | with_reducible first | refine Z.drawZ_rule tabOk mixOk ?_ | refine Z.apZ_mk (by kernel_rfl) ?_)
    all_goals (try (conv => whnf))
    all_goals try (show Nat.ble _ _ = true; rfl)
    all_goals first
      | ((refine Z.rnd_rw 7 (y.es.map cE) rfl rfl ?_ ?_); (focus (exact Z.lay_copy (by simp) (Nat.le_min.2 ⟨by simp, by simp⟩) (fun _ => rfl))); ((refine rnd_fzr 26 5 ((qs.take (i + 1)).map cQ ++ (qs.drop (i + 1)).map cQf) rfl rfl rfl (rows_mid hy ⟨?_, ?_, ?_, ?_, trivial⟩) ?_); (focus (first | exact Z.fzC.ogsl rfl (by simp only [List.length_map, Nat.zero_add]) (fun _ => rfl))); (focus (first | exact Z.fzC.refl _)); (focus (first | exact Z.fzC.refl _)); (focus (first | exact Z.fzC.refl _)); ((refine Z.rndK ((i + 1)) (fun s => [0, 1, 2, 3, 4, 5]) rfl rfl rfl rfl ?_ ?_ ?_ ?_); (focus (repeat' (first | exact trivial | exact rfl | apply And.intro))); (focus (repeat' (first | exact trivial | (intro b hb; cases hb; rfl) | exact Z.blk_sub rfl rfl (Z.ren_app (ren_map fun _ => rfl) (ren_map fun _ => rfl)) | apply And.intro))); (focus (((try dsimp only); omega))); ((try dsimp only); omega))))
  have hiq : i = qs.length := by omega
  subst hiq
  repeat' ((conv => whnf); first
    | with_reducible first | refine spB_t ?_
    | with_reducible first | refine spB_no (by decide) ?_
    | (with_reducible refine spB_dec ?_ ?_ <;> intro _ <;> (try (exfalso; first | contradiction | omega | (rename_i hz; refine hz ?_; simp; done) | (rename_i hz; simp at hz; done) | (simp only [LN] at *; omega))))
    | (with_reducible refine spB_beq ?_ ?_ <;> intro _ <;> (try (exfalso; first | contradiction | omega | (rename_i hz; refine hz ?_; simp; done) | (rename_i hz; simp at hz; done) | (simp only [LN] at *; omega))))
    | ((with_reducible refine ixN_mk (k) ?_ ?_ ?_); (focus (first | rfl)); (focus ((try simp only [LN] at *) <;> omega)))
    | ((with_reducible refine rowN_mk (cQ x) ?_ ?_); (focus (exact rows_done hx)))
    | ((first | (with_reducible refine Z.conZ_mz ?_ (cc) ?_)); (focus ((repeat' (first | exact trivial | exact rfl | apply And.intro)); done)))
    | ((with_reducible apply ex_and); exact rfl)
    | with_reducible first | refine Z.drawZ_rule tabOk mixOk ?_ | refine Z.apZ_mk (by kernel_rfl) ?_)
  all_goals (try (conv => whnf))
  all_goals try (show Nat.ble _ _ = true; rfl)
  all_goals first
    | ((first | (with_reducible apply Z.retF2)); (focus (exact rfl)); (repeat' (first | exact trivial | (with_reducible apply Z.frz_one) | (with_reducible apply Z.frz_agg) | (with_reducible apply Z.fq_int) | (exact Z.frz_nil) | exact rfl | apply And.intro)); (all_goals (try exact (fun _ => none))); all_goals (first | (simp; done)))

theorem push_full (qs : List Qu) (n d : Int) (k : Nat) (x : Qu) (e : El) (hq : qs.length ≤ 9223372036854775807) (hlq : ∀ q ∈ qs, q.es.length ≤ 9223372036854775807) (huq : ∀ q ∈ qs, ∀ e ∈ q.es, 0 ≤ e.num) (he : 0 ≤ e.num) (hk : okG qs n d = true) (hx : qs[k]? = some x) (hoe : okE e = true) (hcl : clsQ x = false) (hnb : ¬ (e.kd = 2 ∧ e.num ≤ x.last)) (hfl : 4 ≤ x.es.length) : Con Try.prog 12 [.agg [.ro false 4 (qs.map eQ), .v (.int .u64 n), .v (.int .u64 d)], .one (.v (.int .i64 (k : Int))), .agg [.v (.int .i64 e.kd), .v (.int .i64 e.src), .v (.int .i64 e.key), .v (.int .i64 e.val), .v (.int .u64 e.num)]] (fun rx rK rt => rx = .tup [.agg [.ro true 4 (([] : List Qu).map eQ), .v (.int .u64 0), .v (.int .u64 0)], .one (.v (.int .i64 6))] ∧ rK = [] ∧ rt = 0) := by
  refine Z.con_ofF tabOk 82 Try.f12 _ Try.func12 (by kernel_rfl) rfl rfl rfl rfl ?_
  have ck := check_con qs n d hq hlq huq
  rw [hk] at ck
  simp only [cond_true] at ck
  obtain ⟨hn1, hn4⟩ := okG_all hk
  have ch := has_con qs n d (k : Int)
  rw [decide_eq_true (p := (0 : Int) ≤ (k : Int) ∧ (k : Int) < (qs.length : Int)) (by have := (List.getElem?_eq_some_iff.1 hx).1; omega)] at ch
  have hkl := (List.getElem?_eq_some_iff.1 hx).1
  have hx4 := hn4 x (List.mem_of_getElem? hx)
  have ce := checkE_con e he
  rw [hoe] at ce
  simp only [cond_true] at ce
  have cc := closed_con x (by omega)
  rw [hcl] at cc
  repeat' ((conv => whnf); first
    | ((with_reducible apply spB_cong); (focus (simp only [beq_self_eq_true, bne_self_eq_false, Bool.true_bne, Bool.false_bne, Bool.bne_true, Bool.bne_false, Bool.true_beq, Bool.false_beq, Bool.not_true, Bool.not_false, Bool.not_not, Int.reduceBEq, Int.reduceBNe, Int.reduceLE, Int.reduceLT, Int.reduceEq, decide_true, decide_false]; rfl)))
    | with_reducible first | refine spB_no (by decide) ?_
    | ((with_reducible refine cpyN.mk ?_ ?_ ?_ ?_); (focus (first | (simp; done))); (focus (first | exact one_map2 (fun _ => rfl))); (focus ((try simp only [LN] at *) <;> omega)))
    | with_reducible first | refine Z.callZ_in tabOk 41 Try.f30 _ Try.func30 (by kernel_rfl) rfl rfl rfl ?_
    | ((first | (with_reducible refine Z.callZ_mk ?_ (ck) ?_) | (with_reducible refine Z.callZ_mk ?_ (ch) ?_) | (with_reducible refine Z.callZ_mk ?_ (ce) ?_)); (focus ((repeat' (first | exact trivial | exact rfl | apply And.intro)); done)))
    | ((with_reducible refine Z.mkN_nat ?_ ?_ ?_ ?_); (focus ((try simp only [LN] at *) <;> omega)); (focus ((try simp only [LN] at *) <;> omega)); (focus ((try simp only [LN] at *) <;> omega))))
  all_goals (try (conv => whnf))
  all_goals try (show Nat.ble _ _ = true; rfl)
  all_goals try (exfalso; rename_i hz; cases hz; done)
  all_goals try (exfalso; (try simp only [LN] at *) <;> omega)
  refine Z.loopK tabOk (fun zq : Nat => [(16, .val (.int .i64 (zq : Int)))]) (fun zq : Nat => ([(5, some (Z.Ob.b ⟨(qs.take zq).map cQ ++ (qs.drop zq).map cQf, 4, 39, false⟩))] : Z.Kr)) (fun zq => zq ≤ qs.length) (fun zq => qs.length - zq) 0 6 [(1, _), (2, _), (3, _), (14, _), (15, _)] ⟨rfl, rfl, rfl, rfl, rfl, trivial⟩ [(0, some _), (1, some _), (2, some _), (3, some _), (4, some _)] ⟨rfl, rfl, rfl, rfl, rfl, trivial⟩ ?_ ?_ rfl rfl (Nat.zero_le _) ?_
  · repeat' (first | exact trivial | apply And.intro | exact ⟨_, rfl, Z.Imp.refl _⟩)
  · repeat' (first | exact trivial | (intro b hb; cases hb; refine ⟨_, rfl, ⟨rfl, rfl, rfl⟩, Z.imp_eq ?_⟩; first | rfl | exact Z.lay_copy (by simp) (Nat.le_min.2 ⟨by simp, by simp⟩) (fun _ => rfl); done) | apply And.intro)
  rintro i HINV
  dsimp only at HINV ⊢
  by_cases hi : i < qs.length
  · obtain ⟨y, hy⟩ := getElem?_some' (xs := qs) (i := i) hi
    have hy4 := hn4 y (List.mem_of_getElem? hy)
    repeat' ((conv => whnf); first
      | (with_reducible refine spB_dec ?_ ?_ <;> intro _ <;> (try (exfalso; first | contradiction | omega | (rename_i hz; refine hz ?_; simp; done) | (rename_i hz; simp at hz; done) | (simp only [LN] at *; omega))))
      | ((with_reducible refine rowN_mk (cQf y) ?_ ?_); (focus (exact rows_at hy)))
      | ((with_reducible apply rowN_mk); (focus (exact rows_set (by simp only [List.length_append, List.length_map, List.length_take, List.length_drop]; omega))))
      | ((with_reducible apply ixN_litp); (focus (exact rfl)); (focus ((try simp only [LN] at *) <;> omega)))
      | ((with_reducible refine cpyN.mk ?_ ?_ ?_ ?_); (focus (first | (simp; done))); (focus (first | exact one_map2 (fun _ => rfl))); (focus ((try simp only [LN] at *) <;> omega)))
      | with_reducible refine wr_i64 (by first | omega | (simp only [LN] at *; omega)) ?_
      | ((with_reducible refine Z.mkN_nat ?_ ?_ ?_ ?_); (focus ((try simp only [LN] at *) <;> omega)); (focus ((try simp only [LN] at *) <;> omega)); (focus ((try simp only [LN] at *) <;> omega)))
      | with_reducible first | refine Z.drawZ_rule tabOk mixOk ?_ | refine Z.apZ_mk (by kernel_rfl) ?_)
    all_goals (try (conv => whnf))
    all_goals try (show Nat.ble _ _ = true; rfl)
    all_goals first
      | ((refine Z.rnd_rw 7 (y.es.map cE) rfl rfl ?_ ?_); (focus (exact Z.lay_copy (by simp) (Nat.le_min.2 ⟨by simp, by simp⟩) (fun _ => rfl))); ((refine rnd_fzr 26 5 ((qs.take (i + 1)).map cQ ++ (qs.drop (i + 1)).map cQf) rfl rfl rfl (rows_mid hy ⟨?_, ?_, ?_, ?_, trivial⟩) ?_); (focus (first | exact Z.fzC.ogsl rfl (by simp only [List.length_map, Nat.zero_add]) (fun _ => rfl))); (focus (first | exact Z.fzC.refl _)); (focus (first | exact Z.fzC.refl _)); (focus (first | exact Z.fzC.refl _)); ((refine Z.rndK ((i + 1)) (fun s => [0, 1, 2, 3, 4, 5]) rfl rfl rfl rfl ?_ ?_ ?_ ?_); (focus (repeat' (first | exact trivial | exact rfl | apply And.intro))); (focus (repeat' (first | exact trivial | (intro b hb; cases hb; rfl) | exact Z.blk_sub rfl rfl (Z.ren_app (ren_map fun _ => rfl) (ren_map fun _ => rfl)) | apply And.intro))); (focus (((try dsimp only); omega))); ((try dsimp only); omega))))
  have hiq : i = qs.length := by omega
  subst hiq
  repeat' ((conv => whnf); first
    | with_reducible first | refine spB_t ?_
    | with_reducible first | refine spB_no (by decide) ?_
    | (with_reducible refine spB_dec ?_ ?_ <;> intro _ <;> (try (exfalso; first | contradiction | omega | (rename_i hz; refine hz ?_; simp; done) | (rename_i hz; simp at hz; done) | (simp only [LN] at *; omega))))
    | (with_reducible refine spB_beq ?_ ?_ <;> intro _ <;> (try (exfalso; first | contradiction | omega | (rename_i hz; refine hz ?_; simp; done) | (rename_i hz; simp at hz; done) | (simp only [LN] at *; omega))))
    | ((with_reducible refine ixN_mk (k) ?_ ?_ ?_); (focus (first | rfl)); (focus ((try simp only [LN] at *) <;> omega)))
    | ((with_reducible refine rowN_mk (cQ x) ?_ ?_); (focus (exact rows_done hx)))
    | ((first | (with_reducible refine Z.conZ_mz ?_ (cc) ?_)); (focus ((repeat' (first | exact trivial | exact rfl | apply And.intro)); done)))
    | ((with_reducible apply ex_and); exact rfl)
    | with_reducible first | refine Z.drawZ_rule tabOk mixOk ?_ | refine Z.apZ_mk (by kernel_rfl) ?_)
  all_goals (try (conv => whnf))
  all_goals try (show Nat.ble _ _ = true; rfl)
  all_goals first
    | ((first | (with_reducible apply Z.retF2)); (focus (exact rfl)); (repeat' (first | exact trivial | (with_reducible apply Z.frz_one) | (with_reducible apply Z.frz_agg) | (with_reducible apply Z.fq_int) | (exact Z.frz_nil) | exact rfl | apply And.intro)); (all_goals (try exact (fun _ => none))); all_goals (first | (simp; done)))

/-- What Push tells: the queues, both numbers, and whether it was refused. -/
def pushR (qs : List Qu) (n d i : Int) (e : El) : List Qu × Int × Int × Int :=
  bif okG qs n d then (if 0 ≤ i ∧ i < qs.length then (bif okE e then (match qs[i.toNat]? with
    | some x => bif clsQ x then ([], 0, 0, 2) else if e.kd = 2 ∧ e.num ≤ x.last then ([], 0, 0, 2) else if 4 ≤ x.es.length then ([], 0, 0, 6) else (qs.set i.toNat (pushQ e x), n, d, 0)
    | none => ([], 0, 0, 2)) else ([], 0, 0, 151)) else ([], 0, 0, 2)) else ([], 0, 0, 250)
theorem push_con (qs : List Qu) (n d i : Int) (e : El) (hq : qs.length ≤ 9223372036854775807) (hlq : ∀ q ∈ qs, q.es.length ≤ 9223372036854775807) (huq : ∀ q ∈ qs, ∀ e ∈ q.es, 0 ≤ e.num) (he : 0 ≤ e.num) : Con Try.prog 12 [.agg [.ro false 4 (qs.map eQ), .v (.int .u64 n), .v (.int .u64 d)], .one (.v (.int .i64 i)), .agg [.v (.int .i64 e.kd), .v (.int .i64 e.src), .v (.int .i64 e.key), .v (.int .i64 e.val), .v (.int .u64 e.num)]] (fun rx rK rt => rx = .tup [.agg [.ro true 4 ((pushR qs n d i e).1.map eQ), .v (.int .u64 (pushR qs n d i e).2.1), .v (.int .u64 (pushR qs n d i e).2.2.1)], .one (.v (.int .i64 (pushR qs n d i e).2.2.2))] ∧ rK = [] ∧ rt = 0) := by
  cases hk : okG qs n d with
  | false =>
    rw [show pushR qs n d i e = ([], 0, 0, 250) by unfold pushR; rw [hk]; rfl]
    exact push_bad qs n d i e hq hlq huq he hk
  | true =>
    by_cases hi : 0 ≤ i ∧ i < qs.length
    · cases hoe : okE e with
      | false =>
        rw [show pushR qs n d i e = ([], 0, 0, 151) by unfold pushR; rw [hk, cond_true, if_pos hi, hoe]; rfl]
        exact push_elem qs n d i e hq hlq huq he hk hi hoe
      | true =>
        obtain ⟨k, rfl⟩ := Int.eq_ofNat_of_zero_le hi.1
        obtain ⟨x, hx⟩ := getElem?_some' (xs := qs) (i := k) (by omega)
        have hR : pushR qs n d (k : Int) e = bif clsQ x then ([], 0, 0, 2) else if e.kd = 2 ∧ e.num ≤ x.last then ([], 0, 0, 2) else if 4 ≤ x.es.length then ([], 0, 0, 6) else (qs.set k (pushQ e x), n, d, 0) := by
          unfold pushR; rw [hk, cond_true, if_pos hi, hoe, cond_true, Int.toNat_natCast, hx]
        rw [hR]
        cases hcl : clsQ x with
        | true => exact push_cls qs n d k x e hq hlq huq he hk hx hoe hcl
        | false =>
          rw [cond_false]
          by_cases hb : e.kd = 2 ∧ e.num ≤ x.last
          · rw [if_pos hb]; exact push_bar qs n d k x e hq hlq huq he hk hx hoe hcl hb
          · rw [if_neg hb]
            by_cases hfl : 4 ≤ x.es.length
            · rw [if_pos hfl]; exact push_full qs n d k x e hq hlq huq he hk hx hoe hcl hb hfl
            · rw [if_neg hfl]; exact push_ok qs n d k x e hq hlq huq he hk hx hoe hcl hb (by omega)
    · rw [show pushR qs n d i e = ([], 0, 0, 2) by unfold pushR; rw [hk, cond_true, if_neg hi]]
      exact push_has qs n d i e hq hlq huq he hk hi
end Go.Proofs.Ytakfkbciijahgaa
namespace Go.Proofs.Ytakfkbciijahgaa
open Go Go.RowKit Wx
set_option linter.unusedVariables false
set_option linter.unusedSimpArgs false
set_option maxHeartbeats 4000000
/-! ### What Take tells -/
end Go.Proofs.Ytakfkbciijahgaa
namespace Go.Proofs.Ytakfkbciijahgaa
open Go Go.RowKit Wx
set_option linter.unusedVariables false
set_option linter.unusedSimpArgs false
set_option maxHeartbeats 4000000
end Go.Proofs.Ytakfkbciijahgaa
namespace Go.Proofs.Ytakfkbciijahgaa
open Go Go.RowKit Wx
set_option linter.unusedVariables false
set_option linter.unusedSimpArgs false
set_option maxHeartbeats 4000000
end Go.Proofs.Ytakfkbciijahgaa
namespace Go.Proofs.Ytakfkbciijahgaa
open Go Go.RowKit Wx
set_option linter.unusedVariables false
set_option linter.unusedSimpArgs false
set_option maxHeartbeats 4000000
end Go.Proofs.Ytakfkbciijahgaa
namespace Go.Proofs.Ytakfkbciijahgaa
open Go Go.RowKit Wx
set_option linter.unusedVariables false
set_option linter.unusedSimpArgs false
set_option maxHeartbeats 4000000
end Go.Proofs.Ytakfkbciijahgaa
namespace Go.Proofs.Ytakfkbciijahgaa
open Go Go.RowKit Wx
set_option linter.unusedVariables false
set_option linter.unusedSimpArgs false
set_option maxHeartbeats 4000000
theorem okG_q {qs : List Qu} {n d : Int} (h : okG qs n d = true) {q : Qu} (hq : q ∈ qs) : okQ q = true := by
  unfold okG at h
  simp only [Bool.and_eq_true, List.all_eq_true] at h
  exact h.1.2 q hq
end Go.Proofs.Ytakfkbciijahgaa
namespace Go.Proofs.Ytakfkbciijahgaa
open Go Go.RowKit Wx
set_option linter.unusedVariables false
set_option linter.unusedSimpArgs false
set_option maxHeartbeats 4000000
def is3 (e : El) : Bool := decide (e.kd = 3)
theorem any3_last : ∀ {l : List El}, okEs l = true → l.any is3 = lastE l
  | [], _ => rfl
  | [a], _ => by simp [lastE, is3]
  | a :: b :: r, h => by
    rw [okEs] at h
    simp only [Bool.and_eq_true, decide_eq_true_eq] at h
    have h3 : is3 a = false := decide_eq_false (fun h3 => by have := h.1.2 h3; simp at this)
    rw [List.any_cons, h3, Bool.false_or, any3_last h.2]
    simp [lastE]
theorem okQ_es {x : Qu} (h : okQ x = true) : okEs x.es = true := by
  unfold okQ at h
  simp only [Bool.and_eq_true] at h
  exact h.1.2
theorem closed_eq {x : Qu} (h : okQ x = true) : (x.es.any is3 || x.ended) = clsQ x := by
  unfold clsQ
  rw [any3_last (okQ_es h), Bool.or_comm]
section
open Z
theorem loopZ_stp {P : Program} {n m : Nat} {rd : Option Nat} {s s1 : Z.S} {c : Code} {Q : Exit → Z.S → Prop} (h : Stp m s s1) (k : LoopZ P n m rd c s1 Q) : LoopZ P n m rd c s Q := by
  refine ⟨fun hrd W r I R a w hr hs hd hm => ?_⟩
  obtain ⟨Ia, Ra, g1, g2, gm, g3, g4⟩ := h n W I R a w hs hd
  refine wpIn_mono (k.h hrd W r Ia Ra a w (rd_next hrd hr g3) g1 g2 gm) ?_
  rintro e a2 w2 ⟨s2, I2, R2, k1, k2, k3, k4, k5, k6⟩
  exact ⟨s2, I2, R2, k1, k2, k3, fun j hj => (k4 j hj).trans (g3 j hj), g4.trans k5, k6⟩
/-- At a loop's entry: block j is frozen in rows of block B. -/
theorem loopZ_fz {P : Program} {n m : Nat} {rd : Option Nat} {s : Z.S} {c : Code} {Q : Exit → Z.S → Prop} (j B : Nat) {rows : List (List Ce)} (rows' : List (List Ce)) {sz : Nat} {ty : TypeId} {bx : Bool} (hm : Nat.ble m s.top = true) (hne : Nat.beq B j = false) (hB : kz s.K B = some (.b ⟨rows, sz, ty, bx⟩)) (h : All2 (All2 (fzC j (kb s.K j))) rows rows')
    (k : LoopZ P n m rd c ⟨s.F, (B, some (.b ⟨rows', sz, ty, bx⟩)) :: (j, none) :: s.K, s.top⟩ Q) : LoopZ P n m rd c s Q :=
  loopZ_stp (Stp.fz j [] [(B, some (.b ⟨rows', sz, ty, bx⟩))] trivial ⟨⟨fun e => by rw [e] at hne; simp at hne, fun b hb => by cases hb; exact ⟨_, hB, ⟨rfl, rfl, rfl⟩, h⟩⟩, trivial⟩ (Nat.le_of_ble_eq_true hm)) k
end
theorem rclosed_con (q : Qu) (hl : q.es.length ≤ 9223372036854775807) : Con Try.prog 15 [.agg [.ro false 5 (q.es.map eE), .v (.int .u64 q.last), .v (.bool q.held), .v (.bool q.ended)]] (fun rx rK rt => rx = .val (.bool (q.es.any is3 || q.ended)) ∧ rK = [] ∧ rt = 0) := by
  refine Z.con_ofF tabOk 20 Try.f15 _ Try.func15 (by kernel_rfl) rfl rfl rfl rfl ?_
  repeat' ((conv => whnf); first
    | with_reducible first | refine spB_t ?_
    | ((with_reducible apply spB_cong); (focus (simp only [beq_self_eq_true, bne_self_eq_false, Bool.true_bne, Bool.false_bne, Bool.bne_true, Bool.bne_false, Bool.true_beq, Bool.false_beq, Bool.not_true, Bool.not_false, Bool.not_not, Int.reduceBEq, Int.reduceBNe, Int.reduceLE, Int.reduceLT, Int.reduceEq, decide_true, decide_false]; rfl)))
    | with_reducible first | refine spB_yes (by decide) ?_ | refine spB_no (by decide) ?_ | refine spB_f ?_ | refine spB_not ?_ | refine spB_yes (by assumption) ?_ | refine spB_no (by assumption) ?_
    | (with_reducible refine spB_dec ?_ ?_ <;> intro _ <;> (try (exfalso; first | contradiction | omega | (rename_i hz; refine hz ?_; simp; done) | (rename_i hz; simp at hz; done) | (simp only [LN] at *; omega))))
    | (with_reducible refine spB_beq ?_ ?_ <;> intro _ <;> (try (exfalso; first | contradiction | omega | (rename_i hz; refine hz ?_; simp; done) | (rename_i hz; simp at hz; done) | (simp only [LN] at *; omega))))
    | (with_reducible refine spB_bne ?_ ?_ <;> intro _ <;> (try (exfalso; first | contradiction | omega | (rename_i hz; refine hz ?_; simp; done) | (rename_i hz; simp at hz; done) | (simp only [LN] at *; omega))))
    | (with_reducible refine spB_mk ?_ ?_ <;> intro _ <;> (try (exfalso; first | contradiction | omega | (rename_i hz; refine hz ?_; simp; done) | (rename_i hz; simp at hz; done) | (simp only [LN] at *; omega))))
    | ((with_reducible apply rowN_mk); (focus rfl))
    | ((with_reducible apply ixN_lit); (focus (exact rfl)); (focus (exact rfl)))
    | ((with_reducible apply ixN_litp); (focus (exact rfl)); (focus ((try simp only [LN] at *) <;> omega)))
    | ((with_reducible refine eqN_mk2 ?_ ?_); (focus rfl))
    | with_reducible refine wr_i64 (by first | omega | (simp only [LN] at *; omega)) ?_
    | with_reducible refine wr_u64 (by omega) ?_
    | with_reducible refine wr_u8 (by omega) ?_
    | with_reducible refine wr_u32 (by omega) ?_
    | with_reducible first | refine wr_mk _ rfl ?_
    | ((with_reducible refine ixN_nat ?_ ?_); (focus ((try simp only [LN] at *) <;> omega)))
    | ((with_reducible refine rowN_map ?_ ?_); (focus ((try simp only [LN] at *) <;> omega)); intro x hx)
    | with_reducible refine eqN_dec (by omega) ?_
    | with_reducible first | refine apN_mk (by kernel_rfl) ?_
    | ((with_reducible refine eqN_mk2 ?_ ?_); (focus (exact Z.kb_some rfl)))
    | ((with_reducible apply ex_and); exact rfl))
  all_goals (try (conv => whnf))
  refine Z.loopK tabOk (fun zq : Nat => [(3, .val (.int .i64 (zq : Int)))]) (fun zq : Nat => ([] : Z.Kr)) (fun zq => zq ≤ q.es.length ∧ q.es.any is3 = (q.es.drop zq).any is3) (fun zq => q.es.length - zq) 0 1 [(1, _)] ⟨rfl, trivial⟩ [(0, some _)] ⟨rfl, trivial⟩ ?_ ?_ rfl rfl ⟨Nat.zero_le _, by simp⟩ ?_
  · repeat' (first | exact trivial | apply And.intro | exact ⟨_, rfl, rfl⟩ | exact ⟨_, rfl, Z.Imp.refl _⟩ | exact ⟨_, rfl, Z.Imp.nilg _⟩ | exact ⟨_, rfl, Z.Imp.nilr _ _⟩)
  · repeat' (first | exact trivial | (intro b hb; cases hb; done) | exact (fun b hb => ⟨b, hb, Z.ImpO.refl b⟩) | (intro b hb; cases hb; refine ⟨_, rfl, ⟨rfl, rfl, rfl⟩, ?_⟩; (repeat' (first | exact trivial | apply And.intro | exact Z.Imp.refl _ | exact Z.Imp.nilg _ | exact Z.Imp.nilr _ _)); done) | apply And.intro)
  rintro i HINV
  dsimp only at HINV ⊢
  obtain ⟨HI, HA⟩ := HINV
  by_cases hi : i < q.es.length
  · obtain ⟨x, hx⟩ := getElem?_some' (xs := q.es) (i := i) hi
    have hA3 := any_at (p := is3) hx
    rw [← HA] at hA3
    by_cases h3 : x.kd = 3
    · rw [show is3 x = true from decide_eq_true h3, Bool.true_or] at hA3
      rw [hA3]
      repeat' ((conv => whnf); first
        | with_reducible first | refine spB_t ?_
        | ((with_reducible apply spB_cong); (focus (simp only [beq_self_eq_true, bne_self_eq_false, Bool.true_bne, Bool.false_bne, Bool.bne_true, Bool.bne_false, Bool.true_beq, Bool.false_beq, Bool.not_true, Bool.not_false, Bool.not_not, Int.reduceBEq, Int.reduceBNe, Int.reduceLE, Int.reduceLT, Int.reduceEq, decide_true, decide_false]; rfl)))
        | with_reducible first | refine spB_yes (by decide) ?_ | refine spB_no (by decide) ?_ | refine spB_f ?_ | refine spB_not ?_ | refine spB_yes (by assumption) ?_ | refine spB_no (by assumption) ?_
        | (with_reducible refine spB_dec ?_ ?_ <;> intro _ <;> (try (exfalso; first | contradiction | omega | (rename_i hz; refine hz ?_; simp; done) | (rename_i hz; simp at hz; done) | (simp only [LN] at *; omega))))
        | (with_reducible refine spB_beq ?_ ?_ <;> intro _ <;> (try (exfalso; first | contradiction | omega | (rename_i hz; refine hz ?_; simp; done) | (rename_i hz; simp at hz; done) | (simp only [LN] at *; omega))))
        | (with_reducible refine spB_bne ?_ ?_ <;> intro _ <;> (try (exfalso; first | contradiction | omega | (rename_i hz; refine hz ?_; simp; done) | (rename_i hz; simp at hz; done) | (simp only [LN] at *; omega))))
        | (with_reducible refine spB_mk ?_ ?_ <;> intro _ <;> (try (exfalso; first | contradiction | omega | (rename_i hz; refine hz ?_; simp; done) | (rename_i hz; simp at hz; done) | (simp only [LN] at *; omega))))
        | with_reducible first | refine Z.rowN_known hx ?_
        | ((with_reducible apply rowN_mk); (focus rfl))
        | ((with_reducible apply ixN_lit); (focus (exact rfl)); (focus (exact rfl)))
        | ((with_reducible apply ixN_litp); (focus (exact rfl)); (focus ((try simp only [LN] at *) <;> omega)))
        | ((with_reducible refine eqN_mk2 ?_ ?_); (focus rfl))
        | with_reducible refine wr_i64 (by first | omega | (simp only [LN] at *; omega)) ?_
        | with_reducible refine wr_u64 (by omega) ?_
        | with_reducible refine wr_u8 (by omega) ?_
        | with_reducible refine wr_u32 (by omega) ?_
        | with_reducible first | refine wr_mk _ rfl ?_
        | ((with_reducible refine ixN_nat ?_ ?_); (focus ((try simp only [LN] at *) <;> omega)))
        | ((with_reducible refine rowN_map ?_ ?_); (focus ((try simp only [LN] at *) <;> omega)); intro x hx)
        | with_reducible refine eqN_dec (by omega) ?_
        | with_reducible first | refine apN_mk (by kernel_rfl) ?_
        | ((with_reducible refine eqN_mk2 ?_ ?_); (focus (exact Z.kb_some rfl)))
        | ((with_reducible apply ex_and); exact rfl))
      all_goals (try (conv => whnf))
      all_goals try (show Nat.ble _ _ = true; rfl)
      all_goals first
        | ((first | (with_reducible apply Z.retF1) | (with_reducible apply Z.retF2) | (with_reducible apply Z.retF0)); (focus (exact rfl)); (repeat' (first | exact trivial | (with_reducible apply Z.frz_one) | (with_reducible apply Z.frz_agg) | (with_reducible apply Z.fq_int) | (with_reducible apply Z.fq_bool) | (exact Z.frz_nil) | (exact Z.frz_osl0 rfl rfl rfl) | (with_reducible apply Z.fq_nil) | (with_reducible apply Z.fq_ro) | ((with_reducible apply Z.fq_gsl); (focus (first | rfl | exact Z.isB_map _ | exact Z.gB_snoc.symm)); (focus (exact fun _ => rfl))) | ((with_reducible apply Z.fq_osl); (focus (exact rfl)); (focus (first | exact rfl | (simp only [List.length_map, Nat.zero_add]; done) | ((try simp only [LN] at *) <;> omega))); (focus (exact fun _ => rfl))) | ((with_reducible apply Z.fq_src); (focus (exact rfl)); (focus (first | exact rfl | (simp only [List.length_map, Nat.zero_add]; done) | ((try simp only [LN] at *) <;> omega))); (focus (exact fun _ => rfl))) | exact rfl | ((apply Z.fq_osl); (focus (exact rfl)); (focus (first | exact rfl | (simp only [List.length_map, Nat.zero_add]; done) | ((try simp only [LN] at *) <;> omega))); (focus (exact fun _ => rfl))) | ((apply Z.fq_src); (focus (exact rfl)); (focus (first | exact rfl | (simp only [List.length_map, Nat.zero_add]; done) | ((try simp only [LN] at *) <;> omega))); (focus (exact fun _ => rfl))) | (apply Z.fq_ro) | (apply Z.fq_int) | (apply Z.fq_bool) | apply And.intro)); (all_goals (try exact (fun _ => none))); all_goals (first | rfl | (simp; done)))
        | (exfalso; rename_i hz; cases hz; done)
        | (exfalso; (try simp only [LN] at *) <;> omega)
        | (fail)
    · rw [show is3 x = false from decide_eq_false h3, Bool.false_or] at hA3
      repeat' ((conv => whnf); first
        | with_reducible first | refine spB_t ?_
        | ((with_reducible apply spB_cong); (focus (simp only [beq_self_eq_true, bne_self_eq_false, Bool.true_bne, Bool.false_bne, Bool.bne_true, Bool.bne_false, Bool.true_beq, Bool.false_beq, Bool.not_true, Bool.not_false, Bool.not_not, Int.reduceBEq, Int.reduceBNe, Int.reduceLE, Int.reduceLT, Int.reduceEq, decide_true, decide_false]; rfl)))
        | with_reducible first | refine spB_yes (by decide) ?_ | refine spB_no (by decide) ?_ | refine spB_f ?_ | refine spB_not ?_ | refine spB_yes (by assumption) ?_ | refine spB_no (by assumption) ?_
        | (with_reducible refine spB_dec ?_ ?_ <;> intro _ <;> (try (exfalso; first | contradiction | omega | (rename_i hz; refine hz ?_; simp; done) | (rename_i hz; simp at hz; done) | (simp only [LN] at *; omega))))
        | (with_reducible refine spB_beq ?_ ?_ <;> intro _ <;> (try (exfalso; first | contradiction | omega | (rename_i hz; refine hz ?_; simp; done) | (rename_i hz; simp at hz; done) | (simp only [LN] at *; omega))))
        | (with_reducible refine spB_bne ?_ ?_ <;> intro _ <;> (try (exfalso; first | contradiction | omega | (rename_i hz; refine hz ?_; simp; done) | (rename_i hz; simp at hz; done) | (simp only [LN] at *; omega))))
        | (with_reducible refine spB_mk ?_ ?_ <;> intro _ <;> (try (exfalso; first | contradiction | omega | (rename_i hz; refine hz ?_; simp; done) | (rename_i hz; simp at hz; done) | (simp only [LN] at *; omega))))
        | with_reducible first | refine Z.rowN_known hx ?_
        | ((with_reducible apply rowN_mk); (focus rfl))
        | ((with_reducible apply ixN_lit); (focus (exact rfl)); (focus (exact rfl)))
        | ((with_reducible apply ixN_litp); (focus (exact rfl)); (focus ((try simp only [LN] at *) <;> omega)))
        | ((with_reducible refine eqN_mk2 ?_ ?_); (focus rfl))
        | with_reducible refine wr_i64 (by first | omega | (simp only [LN] at *; omega)) ?_
        | with_reducible refine wr_u64 (by omega) ?_
        | with_reducible refine wr_u8 (by omega) ?_
        | with_reducible refine wr_u32 (by omega) ?_
        | with_reducible first | refine wr_mk _ rfl ?_
        | ((with_reducible refine ixN_nat ?_ ?_); (focus ((try simp only [LN] at *) <;> omega)))
        | ((with_reducible refine rowN_map ?_ ?_); (focus ((try simp only [LN] at *) <;> omega)); intro x hx)
        | with_reducible refine eqN_dec (by omega) ?_
        | with_reducible first | refine apN_mk (by kernel_rfl) ?_
        | ((with_reducible refine eqN_mk2 ?_ ?_); (focus (exact Z.kb_some rfl)))
        | ((with_reducible apply ex_and); exact rfl))
      all_goals (try (conv => whnf))
      all_goals try (show Nat.ble _ _ = true; rfl)
      all_goals first
        | ((refine Z.rndK ((i + 1)) (fun s => [0]) rfl rfl rfl rfl ?_ ?_ ?_ ?_); (focus (repeat' (first | exact trivial | exact Z.map_sub (Z.MapL.ren HM0 fun _ => rfl) rfl | exact Z.it_sub rfl | exact rfl | (rw [List.map_append]; exact rfl) | apply And.intro))); (focus (repeat' (first | exact trivial | exact Z.map_sub (Z.MapL.ren HM0 fun _ => rfl) rfl | exact Z.it_sub rfl | (intro b hb; cases hb; rfl) | (intro b hb; cases hb; subst hlb; rfl) | (intro b hb; cases hb; rw [List.map_append]; rfl) | (intro b hb; cases hb; done) | exact Z.blk_sub rfl rfl (ren_map fun _ => rfl) | exact Z.blk_sub rfl rfl (Z.ren_app (ren_map fun _ => rfl) (ren_map fun _ => rfl)) | exact Z.blk_sub rfl (by first | (rw [List.map_append]; rfl) | (rw [List.map_set]; rfl) | simp only [List.map_append, List.map_cons, List.map_nil, List.map_set]) (ren_map fun _ => rfl) | exact Z.gB_sub rfl rfl (ren_map fun _ => rfl) | exact Z.gB_sub' rfl (by first | rfl | (rw [List.map_append]; rfl) | simp only [List.map_append, List.map_cons, List.map_nil]) (ren_map fun _ => rfl) | apply And.intro))); (focus (exact ⟨by (try dsimp only); omega, hA3⟩)); ((try dsimp only); omega))
        | (exfalso; rename_i hz; cases hz; done)
        | (exfalso; (try simp only [LN] at *) <;> omega)
        | (fail)
  rw [HA, drop_end hi]
  repeat' ((conv => whnf); first
    | with_reducible first | refine spB_t ?_
    | ((with_reducible apply spB_cong); (focus (simp only [beq_self_eq_true, bne_self_eq_false, Bool.true_bne, Bool.false_bne, Bool.bne_true, Bool.bne_false, Bool.true_beq, Bool.false_beq, Bool.not_true, Bool.not_false, Bool.not_not, Int.reduceBEq, Int.reduceBNe, Int.reduceLE, Int.reduceLT, Int.reduceEq, decide_true, decide_false]; rfl)))
    | with_reducible first | refine spB_yes (by decide) ?_ | refine spB_no (by decide) ?_ | refine spB_f ?_ | refine spB_not ?_ | refine spB_yes (by assumption) ?_ | refine spB_no (by assumption) ?_
    | (with_reducible refine spB_dec ?_ ?_ <;> intro _ <;> (try (exfalso; first | contradiction | omega | (rename_i hz; refine hz ?_; simp; done) | (rename_i hz; simp at hz; done) | (simp only [LN] at *; omega))))
    | (with_reducible refine spB_beq ?_ ?_ <;> intro _ <;> (try (exfalso; first | contradiction | omega | (rename_i hz; refine hz ?_; simp; done) | (rename_i hz; simp at hz; done) | (simp only [LN] at *; omega))))
    | (with_reducible refine spB_bne ?_ ?_ <;> intro _ <;> (try (exfalso; first | contradiction | omega | (rename_i hz; refine hz ?_; simp; done) | (rename_i hz; simp at hz; done) | (simp only [LN] at *; omega))))
    | (with_reducible refine spB_mk ?_ ?_ <;> intro _ <;> (try (exfalso; first | contradiction | omega | (rename_i hz; refine hz ?_; simp; done) | (rename_i hz; simp at hz; done) | (simp only [LN] at *; omega))))
    | ((with_reducible apply rowN_mk); (focus rfl))
    | ((with_reducible apply ixN_lit); (focus (exact rfl)); (focus (exact rfl)))
    | ((with_reducible apply ixN_litp); (focus (exact rfl)); (focus ((try simp only [LN] at *) <;> omega)))
    | ((with_reducible refine eqN_mk2 ?_ ?_); (focus rfl))
    | with_reducible refine wr_i64 (by first | omega | (simp only [LN] at *; omega)) ?_
    | with_reducible refine wr_u64 (by omega) ?_
    | with_reducible refine wr_u8 (by omega) ?_
    | with_reducible refine wr_u32 (by omega) ?_
    | with_reducible first | refine wr_mk _ rfl ?_
    | ((with_reducible refine ixN_nat ?_ ?_); (focus ((try simp only [LN] at *) <;> omega)))
    | ((with_reducible refine rowN_map ?_ ?_); (focus ((try simp only [LN] at *) <;> omega)); intro x hx)
    | with_reducible refine eqN_dec (by omega) ?_
    | with_reducible first | refine apN_mk (by kernel_rfl) ?_
    | ((with_reducible refine eqN_mk2 ?_ ?_); (focus (exact Z.kb_some rfl)))
    | ((with_reducible apply ex_and); exact rfl))
  all_goals (try (conv => whnf))
  all_goals try (show Nat.ble _ _ = true; rfl)
  all_goals first
    | ((first | (with_reducible apply Z.retF1) | (with_reducible apply Z.retF2) | (with_reducible apply Z.retF0)); (focus (exact rfl)); (repeat' (first | exact trivial | (with_reducible apply Z.frz_one) | (with_reducible apply Z.frz_agg) | (with_reducible apply Z.fq_int) | (with_reducible apply Z.fq_bool) | (exact Z.frz_nil) | (exact Z.frz_osl0 rfl rfl rfl) | (with_reducible apply Z.fq_nil) | (with_reducible apply Z.fq_ro) | ((with_reducible apply Z.fq_gsl); (focus (first | rfl | exact Z.isB_map _ | exact Z.gB_snoc.symm)); (focus (exact fun _ => rfl))) | ((with_reducible apply Z.fq_osl); (focus (exact rfl)); (focus (first | exact rfl | (simp only [List.length_map, Nat.zero_add]; done) | ((try simp only [LN] at *) <;> omega))); (focus (exact fun _ => rfl))) | ((with_reducible apply Z.fq_src); (focus (exact rfl)); (focus (first | exact rfl | (simp only [List.length_map, Nat.zero_add]; done) | ((try simp only [LN] at *) <;> omega))); (focus (exact fun _ => rfl))) | exact rfl | ((apply Z.fq_osl); (focus (exact rfl)); (focus (first | exact rfl | (simp only [List.length_map, Nat.zero_add]; done) | ((try simp only [LN] at *) <;> omega))); (focus (exact fun _ => rfl))) | ((apply Z.fq_src); (focus (exact rfl)); (focus (first | exact rfl | (simp only [List.length_map, Nat.zero_add]; done) | ((try simp only [LN] at *) <;> omega))); (focus (exact fun _ => rfl))) | (apply Z.fq_ro) | (apply Z.fq_int) | (apply Z.fq_bool) | apply And.intro)); (all_goals (try exact (fun _ => none))); all_goals (first | rfl | (simp; done)))
    | (exfalso; rename_i hz; cases hz; done)
    | (exfalso; (try simp only [LN] at *) <;> omega)
    | (fail)

end Go.Proofs.Ytakfkbciijahgaa
namespace Go.Proofs.Ytakfkbciijahgaa
open Go Go.RowKit Wx
set_option linter.unusedVariables false
set_option linter.unusedSimpArgs false
set_option maxHeartbeats 4000000
theorem wakes_con : Con Try.prog 9 [] (fun x K t => x = .val (.bool true) ∧ K = [] ∧ t = 0) := Y.con_run ftabOk tabOk mixOk 40 12 (by kernel_rfl) (by kernel_rfl)
abbrev zrow : List RT := [RT.v (.slice none 0 0), RT.v (.int .u64 0), RT.v (.bool false), RT.v (.bool false)]
def zq (k : Nat) : List (List RT) := (List.replicate k ()).map fun _ => zrow
end Go.Proofs.Ytakfkbciijahgaa
namespace Go.Proofs.Ytakfkbciijahgaa
open Go Go.RowKit Wx
set_option linter.unusedVariables false
set_option linter.unusedSimpArgs false
set_option maxHeartbeats 4000000
theorem room_at {qs : List Qu} {n d : Int} {k : Nat} {x : Qu} (hk : okG qs n d = true) (hx : qs[k]? = some x) : roomF qs n d (k : Int) = bif clsQ x then 0 else 4 - (x.es.length : Int) := by
  have hl := (List.getElem?_eq_some_iff.1 hx).1
  unfold roomF; rw [hk, cond_true, if_pos ⟨by omega, by omega⟩, Int.toNat_natCast, hx]
end Go.Proofs.Ytakfkbciijahgaa
namespace Go.Proofs.Ytakfkbciijahgaa
open Go Go.RowKit Wx
set_option linter.unusedVariables false
set_option linter.unusedSimpArgs false
set_option maxHeartbeats 4000000
theorem gp_big (qs : List Qu) (n d : Int) (i : Int) (e : El) (hq : qs.length ≤ 9223372036854775807) (huq : ∀ q ∈ qs, ∀ e ∈ q.es, 0 ≤ e.num) (hlu : ∀ q ∈ qs, 0 ≤ q.last) (hn : 0 ≤ n) (he : 0 ≤ e.num) (hbg : big qs = true) : Con Try.prog 3 [.agg [.ro false 4 (qs.map eQ), .v (.int .u64 n), .v (.int .u64 d)], .one (.v (.int .i64 i)), .agg [.v (.int .i64 e.kd), .v (.int .i64 e.src), .v (.int .i64 e.key), .v (.int .i64 e.val), .v (.int .u64 e.num)]] (fun rx rK rt => rx = .val (.bool true) ∧ rK = [] ∧ rt = 0) := by
  refine Z.con_ofF tabOk 83 Try.f3 _ Try.func3 (by kernel_rfl) rfl rfl rfl rfl ?_
  have cv := over_con qs n d hq
  rw [hbg] at cv
  repeat' ((conv => whnf); first
    | with_reducible first | refine spB_t ?_
    | ((with_reducible apply spB_cong); (focus (simp only [beq_self_eq_true, bne_self_eq_false, Bool.true_bne, Bool.false_bne, Bool.bne_true, Bool.bne_false, Bool.true_beq, Bool.false_beq, Bool.not_true, Bool.not_false, Bool.not_not, Int.reduceBEq, Int.reduceBNe, Int.reduceLE, Int.reduceLT, Int.reduceEq, decide_true, decide_false]; rfl)))
    | with_reducible first | refine spB_no (by decide) ?_
    | ((first | (with_reducible refine Z.callZ_mk ?_ (wakes_con) ?_) | (with_reducible refine Z.callZ_mk ?_ (cv) ?_)); (focus ((repeat' (first | exact trivial | exact rfl | apply And.intro)); done))))
  all_goals (try (conv => whnf))
  all_goals try (show Nat.ble _ _ = true; rfl)
  all_goals first
    | ((first | (with_reducible apply Z.retF1)); (focus (exact rfl)); (repeat' (first | exact trivial | (with_reducible apply Z.frz_one) | (with_reducible apply Z.fq_bool) | exact rfl | apply And.intro)); (all_goals (try exact (fun _ => none))); all_goals (first | (simp; done)))

theorem gp_bad (qs : List Qu) (n d : Int) (i : Int) (e : El) (hq : qs.length ≤ 9223372036854775807) (huq : ∀ q ∈ qs, ∀ e ∈ q.es, 0 ≤ e.num) (hlu : ∀ q ∈ qs, 0 ≤ q.last) (hn : 0 ≤ n) (he : 0 ≤ e.num) (hbg : big qs = false) (hk : okG qs n d = false) : Con Try.prog 3 [.agg [.ro false 4 (qs.map eQ), .v (.int .u64 n), .v (.int .u64 d)], .one (.v (.int .i64 i)), .agg [.v (.int .i64 e.kd), .v (.int .i64 e.src), .v (.int .i64 e.key), .v (.int .i64 e.val), .v (.int .u64 e.num)]] (fun rx rK rt => rx = .val (.bool true) ∧ rK = [] ∧ rt = 0) := by
  refine Z.con_ofF tabOk 83 Try.f3 _ Try.func3 (by kernel_rfl) rfl rfl rfl rfl ?_
  have cv := over_con qs n d hq
  rw [hbg] at cv
  have hbn := big_not hbg
  have hlq : ∀ q ∈ qs, q.es.length ≤ 9223372036854775807 := fun q h => by have := hbn.2 q h; omega
  have co := copied_con qs n d hbn.1 hbn.2
  have cg := right_con qs n d hq hlq huq hlu hn
  rw [hk] at cg
  have cs2 := rsame_con qs qs n d n d hq hbn.2
  simp only [and_self, decide_true] at cs2
  have cp := push_con qs n d i e hq hlq huq he
  rw [show pushR qs n d i e = ([], 0, 0, 250) by unfold pushR; rw [hk]; rfl] at cp
  dsimp only at cp
  have cr := room_con qs n d i hq hlq huq
  rw [show roomF qs n d i = 0 by unfold roomF; rw [hk]; rfl] at cr
  have cs1 := rsame_con [] [] 0 0 0 0 (by simp) (by simp)
  simp only [and_self, decide_true] at cs1
  repeat' ((conv => whnf); first
    | with_reducible first | refine spB_t ?_
    | ((with_reducible apply spB_cong); (focus (simp only [beq_self_eq_true, bne_self_eq_false, Bool.true_bne, Bool.false_bne, Bool.bne_true, Bool.bne_false, Bool.true_beq, Bool.false_beq, Bool.not_true, Bool.not_false, Bool.not_not, Int.reduceBEq, Int.reduceBNe, Int.reduceLE, Int.reduceLT, Int.reduceEq, decide_true, decide_false]; rfl)))
    | with_reducible first | refine spB_no (by decide) ?_
    | with_reducible first | refine Z.callZ_in tabOk 84 Try.f13 _ Try.func13 (by kernel_rfl) rfl rfl rfl ?_
    | ((first | (with_reducible refine Z.callZ_mk ?_ (wakes_con) ?_) | (with_reducible refine Z.callZ_mk ?_ (cv) ?_) | (with_reducible refine Z.callZ_mk ?_ (co) ?_) | (with_reducible refine Z.callZ_mk ?_ (cp) ?_) | (with_reducible refine Z.callZ_mk ?_ (cg) ?_) | (with_reducible refine Z.callZ_mk ?_ (cr) ?_)); (focus ((repeat' (first | exact trivial | exact rfl | apply And.intro)); done)))
    | ((first | (with_reducible refine Z.callZ_mk ?_ (cs1) ?_)); (focus ((repeat' (first | exact trivial | exact rfl | exact Z.low_nil | apply And.intro)); done)))
    | ((first | (with_reducible refine Z.callZ_mk ?_ (cs2) ?_)); (focus ((repeat' (first | exact trivial | exact rfl | apply And.intro)); done)))
    | ((with_reducible apply ex_and); exact rfl))
  all_goals (try (conv => whnf))
  all_goals try (show Nat.ble _ _ = true; rfl)
  all_goals first
    | ((first | (with_reducible apply Z.retF1)); (focus (exact rfl)); (repeat' (first | exact trivial | exact rfl | apply And.intro)); (all_goals (try exact (fun _ => none))); all_goals (first | (simp; done)))

theorem gp_has (qs : List Qu) (n d : Int) (i : Int) (e : El) (hq : qs.length ≤ 9223372036854775807) (huq : ∀ q ∈ qs, ∀ e ∈ q.es, 0 ≤ e.num) (hlu : ∀ q ∈ qs, 0 ≤ q.last) (hn : 0 ≤ n) (he : 0 ≤ e.num)  (hbg : big qs = false) (hk : okG qs n d = true) (hi : ¬ (0 ≤ i ∧ i < qs.length)) : Con Try.prog 3 [.agg [.ro false 4 (qs.map eQ), .v (.int .u64 n), .v (.int .u64 d)], .one (.v (.int .i64 i)), .agg [.v (.int .i64 e.kd), .v (.int .i64 e.src), .v (.int .i64 e.key), .v (.int .i64 e.val), .v (.int .u64 e.num)]] (fun rx rK rt => rx = .val (.bool true) ∧ rK = [] ∧ rt = 0) := by
  refine Z.con_ofF tabOk 83 Try.f3 _ Try.func3 (by kernel_rfl) rfl rfl rfl rfl ?_
  have cv := over_con qs n d hq
  rw [hbg] at cv
  have hbn := big_not hbg
  have hlq : ∀ q ∈ qs, q.es.length ≤ 9223372036854775807 := fun q h => by have := hbn.2 q h; omega
  have co := copied_con qs n d hbn.1 hbn.2
  have cg := right_con qs n d hq hlq huq hlu hn
  rw [hk] at cg
  have cs2 := rsame_con qs qs n d n d hq hbn.2
  simp only [and_self, decide_true] at cs2
  have cp := push_con qs n d i e hq hlq huq he
  rw [show pushR qs n d i e = ([], 0, 0, 2) by unfold pushR; rw [hk, cond_true, if_neg hi]] at cp
  dsimp only at cp
  have cr := room_con qs n d i hq hlq huq
  rw [show roomF qs n d i = 0 by unfold roomF; rw [hk, cond_true, if_neg hi]] at cr
  have cs1 := rsame_con [] [] 0 0 0 0 (by simp) (by simp)
  simp only [and_self, decide_true] at cs1
  repeat' ((conv => whnf); first
    | with_reducible first | refine spB_t ?_
    | ((with_reducible apply spB_cong); (focus (simp only [beq_self_eq_true, bne_self_eq_false, Bool.true_bne, Bool.false_bne, Bool.bne_true, Bool.bne_false, Bool.true_beq, Bool.false_beq, Bool.not_true, Bool.not_false, Bool.not_not, Int.reduceBEq, Int.reduceBNe, Int.reduceLE, Int.reduceLT, Int.reduceEq, decide_true, decide_false]; rfl)))
    | with_reducible first | refine spB_no (by decide) ?_
    | (with_reducible refine spB_dec ?_ ?_ <;> intro _ <;> (try (exfalso; first | contradiction | omega | (rename_i hz; refine hz ?_; simp; done) | (rename_i hz; simp at hz; done) | (simp only [LN] at *; omega))))
    | with_reducible first | refine Z.callZ_in tabOk 84 Try.f13 _ Try.func13 (by kernel_rfl) rfl rfl rfl ?_
    | ((first | (with_reducible refine Z.callZ_mk ?_ (wakes_con) ?_) | (with_reducible refine Z.callZ_mk ?_ (cv) ?_) | (with_reducible refine Z.callZ_mk ?_ (co) ?_) | (with_reducible refine Z.callZ_mk ?_ (cp) ?_) | (with_reducible refine Z.callZ_mk ?_ (cg) ?_) | (with_reducible refine Z.callZ_mk ?_ (cr) ?_)); (focus ((repeat' (first | exact trivial | exact rfl | apply And.intro)); done)))
    | ((first | (with_reducible refine Z.callZ_mk ?_ (cs1) ?_)); (focus ((repeat' (first | exact trivial | exact rfl | exact Z.low_nil | apply And.intro)); done)))
    | ((first | (with_reducible refine Z.callZ_mk ?_ (cs2) ?_)); (focus ((repeat' (first | exact trivial | exact rfl | apply And.intro)); done)))
    | ((with_reducible apply ex_and); exact rfl))
  all_goals (try (conv => whnf))
  all_goals try (show Nat.ble _ _ = true; rfl)
  all_goals first
    | ((first | (with_reducible apply Z.retF1)); (focus (exact rfl)); (repeat' (first | exact trivial | exact rfl | apply And.intro)); (all_goals (try exact (fun _ => none))); all_goals (first | (simp; done)))

theorem gp_elc (qs : List Qu) (n d : Int) (k : Nat) (x : Qu) (e : El) (hq : qs.length ≤ 9223372036854775807) (huq : ∀ q ∈ qs, ∀ e ∈ q.es, 0 ≤ e.num) (hlu : ∀ q ∈ qs, 0 ≤ q.last) (hn : 0 ≤ n) (he : 0 ≤ e.num)  (hbg : big qs = false) (hk : okG qs n d = true) (hx : qs[k]? = some x) (hoe : okE e = false) (hcl : clsQ x = true) : Con Try.prog 3 [.agg [.ro false 4 (qs.map eQ), .v (.int .u64 n), .v (.int .u64 d)], .one (.v (.int .i64 (k : Int))), .agg [.v (.int .i64 e.kd), .v (.int .i64 e.src), .v (.int .i64 e.key), .v (.int .i64 e.val), .v (.int .u64 e.num)]] (fun rx rK rt => rx = .val (.bool true) ∧ rK = [] ∧ rt = 0) := by
  refine Z.con_ofF tabOk 83 Try.f3 _ Try.func3 (by kernel_rfl) rfl rfl rfl rfl ?_
  have cv := over_con qs n d hq
  rw [hbg] at cv
  have hbn := big_not hbg
  have hlq : ∀ q ∈ qs, q.es.length ≤ 9223372036854775807 := fun q h => by have := hbn.2 q h; omega
  have co := copied_con qs n d hbn.1 hbn.2
  have cg := right_con qs n d hq hlq huq hlu hn
  rw [hk] at cg
  have cs2 := rsame_con qs qs n d n d hq hbn.2
  simp only [and_self, decide_true] at cs2
  have hkl := (List.getElem?_eq_some_iff.1 hx).1
  have hxm := List.mem_of_getElem? hx
  have hxl := hbn.2 x hxm
  have hx4 := (okG_all hk).2 x hxm
  have cc := rclosed_con x (by omega)
  rw [closed_eq (okG_q hk hxm), hcl] at cc
  have ce := rightE_con e he
  rw [hoe] at ce
  have hR : pushR qs n d (k : Int) e = bif okE e then (bif clsQ x then ([], 0, 0, 2) else if e.kd = 2 ∧ e.num ≤ x.last then ([], 0, 0, 2) else if 4 ≤ x.es.length then ([], 0, 0, 6) else (qs.set k (pushQ e x), n, d, 0)) else ([], 0, 0, 151) := by
    unfold pushR; rw [hk, cond_true, if_pos ⟨by omega, by omega⟩, Int.toNat_natCast, hx]
  have cp := push_con qs n d (k : Int) e hq hlq huq he
  rw [show pushR qs n d (k : Int) e = ([], 0, 0, 151) by rw [hR]; simp [*]] at cp
  dsimp only at cp
  have cr := room_con qs n d (k : Int) hq hlq huq
  rw [show roomF qs n d (k : Int) = 0 by rw [room_at hk hx, hcl]; rfl] at cr
  have cs1 := rsame_con [] [] 0 0 0 0 (by simp) (by simp)
  simp only [and_self, decide_true] at cs1
  repeat' ((conv => whnf); first
    | with_reducible first | refine spB_t ?_
    | ((with_reducible apply spB_cong); (focus (simp only [beq_self_eq_true, bne_self_eq_false, Bool.true_bne, Bool.false_bne, Bool.bne_true, Bool.bne_false, Bool.true_beq, Bool.false_beq, Bool.not_true, Bool.not_false, Bool.not_not, Int.reduceBEq, Int.reduceBNe, Int.reduceLE, Int.reduceLT, Int.reduceEq, decide_true, decide_false]; rfl)))
    | with_reducible first | refine spB_no (by decide) ?_
    | (with_reducible refine spB_dec ?_ ?_ <;> intro _ <;> (try (exfalso; first | contradiction | omega | (rename_i hz; refine hz ?_; simp; done) | (rename_i hz; simp at hz; done) | (simp only [LN] at *; omega))))
    | ((with_reducible refine ixN_mk (k) ?_ ?_ ?_); (focus (first | rfl)); (focus ((try simp only [LN] at *) <;> omega)))
    | with_reducible first | refine Z.rowN_known hx ?_
    | with_reducible first | refine Z.callZ_in tabOk 84 Try.f13 _ Try.func13 (by kernel_rfl) rfl rfl rfl ?_
    | ((first | (with_reducible refine Z.callZ_mk ?_ (wakes_con) ?_) | (with_reducible refine Z.callZ_mk ?_ (cv) ?_) | (with_reducible refine Z.callZ_mk ?_ (co) ?_) | (with_reducible refine Z.callZ_mk ?_ (cp) ?_) | (with_reducible refine Z.callZ_mk ?_ (cg) ?_) | (with_reducible refine Z.callZ_mk ?_ (cc) ?_) | (with_reducible refine Z.callZ_mk ?_ (cr) ?_) | (with_reducible refine Z.callZ_mk ?_ (ce) ?_)); (focus ((repeat' (first | exact trivial | exact rfl | apply And.intro)); done)))
    | ((first | (with_reducible refine Z.callZ_mk ?_ (cs1) ?_)); (focus ((repeat' (first | exact trivial | exact rfl | exact Z.low_nil | apply And.intro)); done)))
    | ((first | (with_reducible refine Z.callZ_mk ?_ (cs2) ?_)); (focus ((repeat' (first | exact trivial | exact rfl | apply And.intro)); done)))
    | ((with_reducible apply ex_and); exact rfl))
  all_goals (try (conv => whnf))
  all_goals try (show Nat.ble _ _ = true; rfl)
  all_goals first
    | ((first | (with_reducible apply Z.retF1)); (focus (exact rfl)); (repeat' (first | exact trivial | exact rfl | apply And.intro)); (all_goals (try exact (fun _ => none))); all_goals (first | (simp; done)))

theorem gp_elo (qs : List Qu) (n d : Int) (k : Nat) (x : Qu) (e : El) (hq : qs.length ≤ 9223372036854775807) (huq : ∀ q ∈ qs, ∀ e ∈ q.es, 0 ≤ e.num) (hlu : ∀ q ∈ qs, 0 ≤ q.last) (hn : 0 ≤ n) (he : 0 ≤ e.num)  (hbg : big qs = false) (hk : okG qs n d = true) (hx : qs[k]? = some x) (hoe : okE e = false) (hcl : clsQ x = false) : Con Try.prog 3 [.agg [.ro false 4 (qs.map eQ), .v (.int .u64 n), .v (.int .u64 d)], .one (.v (.int .i64 (k : Int))), .agg [.v (.int .i64 e.kd), .v (.int .i64 e.src), .v (.int .i64 e.key), .v (.int .i64 e.val), .v (.int .u64 e.num)]] (fun rx rK rt => rx = .val (.bool true) ∧ rK = [] ∧ rt = 0) := by
  refine Z.con_ofF tabOk 83 Try.f3 _ Try.func3 (by kernel_rfl) rfl rfl rfl rfl ?_
  have cv := over_con qs n d hq
  rw [hbg] at cv
  have hbn := big_not hbg
  have hlq : ∀ q ∈ qs, q.es.length ≤ 9223372036854775807 := fun q h => by have := hbn.2 q h; omega
  have co := copied_con qs n d hbn.1 hbn.2
  have cg := right_con qs n d hq hlq huq hlu hn
  rw [hk] at cg
  have cs2 := rsame_con qs qs n d n d hq hbn.2
  simp only [and_self, decide_true] at cs2
  have hkl := (List.getElem?_eq_some_iff.1 hx).1
  have hxm := List.mem_of_getElem? hx
  have hxl := hbn.2 x hxm
  have hx4 := (okG_all hk).2 x hxm
  have cc := rclosed_con x (by omega)
  rw [closed_eq (okG_q hk hxm), hcl] at cc
  have ce := rightE_con e he
  rw [hoe] at ce
  have hR : pushR qs n d (k : Int) e = bif okE e then (bif clsQ x then ([], 0, 0, 2) else if e.kd = 2 ∧ e.num ≤ x.last then ([], 0, 0, 2) else if 4 ≤ x.es.length then ([], 0, 0, 6) else (qs.set k (pushQ e x), n, d, 0)) else ([], 0, 0, 151) := by
    unfold pushR; rw [hk, cond_true, if_pos ⟨by omega, by omega⟩, Int.toNat_natCast, hx]
  have cp := push_con qs n d (k : Int) e hq hlq huq he
  rw [show pushR qs n d (k : Int) e = ([], 0, 0, 151) by rw [hR]; simp [*]] at cp
  dsimp only at cp
  have cr := room_con qs n d (k : Int) hq hlq huq
  rw [show roomF qs n d (k : Int) = 4 - (x.es.length : Int) by rw [room_at hk hx, hcl]; rfl] at cr
  have cs1 := rsame_con [] [] 0 0 0 0 (by simp) (by simp)
  simp only [and_self, decide_true] at cs1
  repeat' ((conv => whnf); first
    | with_reducible first | refine spB_t ?_
    | ((with_reducible apply spB_cong); (focus (simp only [beq_self_eq_true, bne_self_eq_false, Bool.true_bne, Bool.false_bne, Bool.bne_true, Bool.bne_false, Bool.true_beq, Bool.false_beq, Bool.not_true, Bool.not_false, Bool.not_not, Int.reduceBEq, Int.reduceBNe, Int.reduceLE, Int.reduceLT, Int.reduceEq, decide_true, decide_false]; rfl)))
    | with_reducible first | refine spB_no (by decide) ?_
    | (with_reducible refine spB_dec ?_ ?_ <;> intro _ <;> (try (exfalso; first | contradiction | omega | (rename_i hz; refine hz ?_; simp; done) | (rename_i hz; simp at hz; done) | (simp only [LN] at *; omega))))
    | (with_reducible refine spB_beq ?_ ?_ <;> intro _ <;> (try (exfalso; first | contradiction | omega | (rename_i hz; refine hz ?_; simp; done) | (rename_i hz; simp at hz; done) | (simp only [LN] at *; omega))))
    | ((with_reducible refine ixN_mk (k) ?_ ?_ ?_); (focus (first | rfl)); (focus ((try simp only [LN] at *) <;> omega)))
    | with_reducible first | refine Z.rowN_known hx ?_
    | with_reducible refine wr_i64 (by first | omega | (simp only [LN] at *; omega)) ?_
    | with_reducible first | refine Z.callZ_in tabOk 84 Try.f13 _ Try.func13 (by kernel_rfl) rfl rfl rfl ?_
    | ((first | (with_reducible refine Z.callZ_mk ?_ (wakes_con) ?_) | (with_reducible refine Z.callZ_mk ?_ (cv) ?_) | (with_reducible refine Z.callZ_mk ?_ (co) ?_) | (with_reducible refine Z.callZ_mk ?_ (cp) ?_) | (with_reducible refine Z.callZ_mk ?_ (cg) ?_) | (with_reducible refine Z.callZ_mk ?_ (cc) ?_) | (with_reducible refine Z.callZ_mk ?_ (cr) ?_) | (with_reducible refine Z.callZ_mk ?_ (ce) ?_)); (focus ((repeat' (first | exact trivial | exact rfl | apply And.intro)); done)))
    | ((first | (with_reducible refine Z.callZ_mk ?_ (cs1) ?_)); (focus ((repeat' (first | exact trivial | exact rfl | exact Z.low_nil | apply And.intro)); done)))
    | ((first | (with_reducible refine Z.callZ_mk ?_ (cs2) ?_)); (focus ((repeat' (first | exact trivial | exact rfl | apply And.intro)); done)))
    | ((with_reducible apply ex_and); exact rfl))
  all_goals (try (conv => whnf))
  all_goals try (show Nat.ble _ _ = true; rfl)
  all_goals first
    | ((first | (with_reducible apply Z.retF1)); (focus (exact rfl)); (repeat' (first | exact trivial | exact rfl | apply And.intro)); (all_goals (try exact (fun _ => none))); all_goals (first | (simp; done)))

theorem gp_cls (qs : List Qu) (n d : Int) (k : Nat) (x : Qu) (e : El) (hq : qs.length ≤ 9223372036854775807) (huq : ∀ q ∈ qs, ∀ e ∈ q.es, 0 ≤ e.num) (hlu : ∀ q ∈ qs, 0 ≤ q.last) (hn : 0 ≤ n) (he : 0 ≤ e.num)  (hbg : big qs = false) (hk : okG qs n d = true) (hx : qs[k]? = some x) (hoe : okE e = true) (hcl : clsQ x = true) : Con Try.prog 3 [.agg [.ro false 4 (qs.map eQ), .v (.int .u64 n), .v (.int .u64 d)], .one (.v (.int .i64 (k : Int))), .agg [.v (.int .i64 e.kd), .v (.int .i64 e.src), .v (.int .i64 e.key), .v (.int .i64 e.val), .v (.int .u64 e.num)]] (fun rx rK rt => rx = .val (.bool true) ∧ rK = [] ∧ rt = 0) := by
  refine Z.con_ofF tabOk 83 Try.f3 _ Try.func3 (by kernel_rfl) rfl rfl rfl rfl ?_
  have cv := over_con qs n d hq
  rw [hbg] at cv
  have hbn := big_not hbg
  have hlq : ∀ q ∈ qs, q.es.length ≤ 9223372036854775807 := fun q h => by have := hbn.2 q h; omega
  have co := copied_con qs n d hbn.1 hbn.2
  have cg := right_con qs n d hq hlq huq hlu hn
  rw [hk] at cg
  have cs2 := rsame_con qs qs n d n d hq hbn.2
  simp only [and_self, decide_true] at cs2
  have hkl := (List.getElem?_eq_some_iff.1 hx).1
  have hxm := List.mem_of_getElem? hx
  have hxl := hbn.2 x hxm
  have hx4 := (okG_all hk).2 x hxm
  have cc := rclosed_con x (by omega)
  rw [closed_eq (okG_q hk hxm), hcl] at cc
  have ce := rightE_con e he
  rw [hoe] at ce
  have hR : pushR qs n d (k : Int) e = bif okE e then (bif clsQ x then ([], 0, 0, 2) else if e.kd = 2 ∧ e.num ≤ x.last then ([], 0, 0, 2) else if 4 ≤ x.es.length then ([], 0, 0, 6) else (qs.set k (pushQ e x), n, d, 0)) else ([], 0, 0, 151) := by
    unfold pushR; rw [hk, cond_true, if_pos ⟨by omega, by omega⟩, Int.toNat_natCast, hx]
  have cp := push_con qs n d (k : Int) e hq hlq huq he
  rw [show pushR qs n d (k : Int) e = ([], 0, 0, 2) by rw [hR]; simp [*]] at cp
  dsimp only at cp
  have cr := room_con qs n d (k : Int) hq hlq huq
  rw [show roomF qs n d (k : Int) = 0 by rw [room_at hk hx, hcl]; rfl] at cr
  have cs1 := rsame_con [] [] 0 0 0 0 (by simp) (by simp)
  simp only [and_self, decide_true] at cs1
  repeat' ((conv => whnf); first
    | with_reducible first | refine spB_t ?_
    | ((with_reducible apply spB_cong); (focus (simp only [beq_self_eq_true, bne_self_eq_false, Bool.true_bne, Bool.false_bne, Bool.bne_true, Bool.bne_false, Bool.true_beq, Bool.false_beq, Bool.not_true, Bool.not_false, Bool.not_not, Int.reduceBEq, Int.reduceBNe, Int.reduceLE, Int.reduceLT, Int.reduceEq, decide_true, decide_false]; rfl)))
    | with_reducible first | refine spB_no (by decide) ?_
    | (with_reducible refine spB_dec ?_ ?_ <;> intro _ <;> (try (exfalso; first | contradiction | omega | (rename_i hz; refine hz ?_; simp; done) | (rename_i hz; simp at hz; done) | (simp only [LN] at *; omega))))
    | ((with_reducible refine ixN_mk (k) ?_ ?_ ?_); (focus (first | rfl)); (focus ((try simp only [LN] at *) <;> omega)))
    | with_reducible first | refine Z.rowN_known hx ?_
    | with_reducible first | refine Z.callZ_in tabOk 84 Try.f13 _ Try.func13 (by kernel_rfl) rfl rfl rfl ?_
    | ((first | (with_reducible refine Z.callZ_mk ?_ (wakes_con) ?_) | (with_reducible refine Z.callZ_mk ?_ (cv) ?_) | (with_reducible refine Z.callZ_mk ?_ (co) ?_) | (with_reducible refine Z.callZ_mk ?_ (cp) ?_) | (with_reducible refine Z.callZ_mk ?_ (cg) ?_) | (with_reducible refine Z.callZ_mk ?_ (cc) ?_) | (with_reducible refine Z.callZ_mk ?_ (cr) ?_) | (with_reducible refine Z.callZ_mk ?_ (ce) ?_)); (focus ((repeat' (first | exact trivial | exact rfl | apply And.intro)); done)))
    | ((first | (with_reducible refine Z.callZ_mk ?_ (cs1) ?_)); (focus ((repeat' (first | exact trivial | exact rfl | exact Z.low_nil | apply And.intro)); done)))
    | ((first | (with_reducible refine Z.callZ_mk ?_ (cs2) ?_)); (focus ((repeat' (first | exact trivial | exact rfl | apply And.intro)); done)))
    | ((with_reducible apply ex_and); exact rfl))
  all_goals (try (conv => whnf))
  all_goals try (show Nat.ble _ _ = true; rfl)
  all_goals first
    | ((first | (with_reducible apply Z.retF1)); (focus (exact rfl)); (repeat' (first | exact trivial | exact rfl | apply And.intro)); (all_goals (try exact (fun _ => none))); all_goals (first | (simp; done)))

theorem gp_bar (qs : List Qu) (n d : Int) (k : Nat) (x : Qu) (e : El) (hq : qs.length ≤ 9223372036854775807) (huq : ∀ q ∈ qs, ∀ e ∈ q.es, 0 ≤ e.num) (hlu : ∀ q ∈ qs, 0 ≤ q.last) (hn : 0 ≤ n) (he : 0 ≤ e.num)  (hbg : big qs = false) (hk : okG qs n d = true) (hx : qs[k]? = some x) (hoe : okE e = true) (hcl : clsQ x = false) (hb : e.kd = 2 ∧ e.num ≤ x.last) : Con Try.prog 3 [.agg [.ro false 4 (qs.map eQ), .v (.int .u64 n), .v (.int .u64 d)], .one (.v (.int .i64 (k : Int))), .agg [.v (.int .i64 e.kd), .v (.int .i64 e.src), .v (.int .i64 e.key), .v (.int .i64 e.val), .v (.int .u64 e.num)]] (fun rx rK rt => rx = .val (.bool true) ∧ rK = [] ∧ rt = 0) := by
  refine Z.con_ofF tabOk 83 Try.f3 _ Try.func3 (by kernel_rfl) rfl rfl rfl rfl ?_
  have cv := over_con qs n d hq
  rw [hbg] at cv
  have hbn := big_not hbg
  have hlq : ∀ q ∈ qs, q.es.length ≤ 9223372036854775807 := fun q h => by have := hbn.2 q h; omega
  have co := copied_con qs n d hbn.1 hbn.2
  have cg := right_con qs n d hq hlq huq hlu hn
  rw [hk] at cg
  have cs2 := rsame_con qs qs n d n d hq hbn.2
  simp only [and_self, decide_true] at cs2
  have hkl := (List.getElem?_eq_some_iff.1 hx).1
  have hxm := List.mem_of_getElem? hx
  have hxl := hbn.2 x hxm
  have hx4 := (okG_all hk).2 x hxm
  have cc := rclosed_con x (by omega)
  rw [closed_eq (okG_q hk hxm), hcl] at cc
  have ce := rightE_con e he
  rw [hoe] at ce
  have hR : pushR qs n d (k : Int) e = bif okE e then (bif clsQ x then ([], 0, 0, 2) else if e.kd = 2 ∧ e.num ≤ x.last then ([], 0, 0, 2) else if 4 ≤ x.es.length then ([], 0, 0, 6) else (qs.set k (pushQ e x), n, d, 0)) else ([], 0, 0, 151) := by
    unfold pushR; rw [hk, cond_true, if_pos ⟨by omega, by omega⟩, Int.toNat_natCast, hx]
  have cp := push_con qs n d (k : Int) e hq hlq huq he
  rw [show pushR qs n d (k : Int) e = ([], 0, 0, 2) by rw [hR]; simp [*]] at cp
  dsimp only at cp
  have cr := room_con qs n d (k : Int) hq hlq huq
  rw [show roomF qs n d (k : Int) = 4 - (x.es.length : Int) by rw [room_at hk hx, hcl]; rfl] at cr
  have cs1 := rsame_con [] [] 0 0 0 0 (by simp) (by simp)
  simp only [and_self, decide_true] at cs1
  repeat' ((conv => whnf); first
    | with_reducible first | refine spB_t ?_
    | ((with_reducible apply spB_cong); (focus (simp only [beq_self_eq_true, bne_self_eq_false, Bool.true_bne, Bool.false_bne, Bool.bne_true, Bool.bne_false, Bool.true_beq, Bool.false_beq, Bool.not_true, Bool.not_false, Bool.not_not, Int.reduceBEq, Int.reduceBNe, Int.reduceLE, Int.reduceLT, Int.reduceEq, decide_true, decide_false]; rfl)))
    | with_reducible first | refine spB_no (by decide) ?_
    | (with_reducible refine spB_dec ?_ ?_ <;> intro _ <;> (try (exfalso; first | contradiction | omega | (rename_i hz; refine hz ?_; simp; done) | (rename_i hz; simp at hz; done) | (simp only [LN] at *; omega))))
    | (with_reducible refine spB_beq ?_ ?_ <;> intro _ <;> (try (exfalso; first | contradiction | omega | (rename_i hz; refine hz ?_; simp; done) | (rename_i hz; simp at hz; done) | (simp only [LN] at *; omega))))
    | ((with_reducible refine ixN_mk (k) ?_ ?_ ?_); (focus (first | rfl)); (focus ((try simp only [LN] at *) <;> omega)))
    | with_reducible first | refine Z.rowN_known hx ?_
    | with_reducible refine wr_i64 (by first | omega | (simp only [LN] at *; omega)) ?_
    | with_reducible first | refine Z.callZ_in tabOk 84 Try.f13 _ Try.func13 (by kernel_rfl) rfl rfl rfl ?_
    | ((first | (with_reducible refine Z.callZ_mk ?_ (wakes_con) ?_) | (with_reducible refine Z.callZ_mk ?_ (cv) ?_) | (with_reducible refine Z.callZ_mk ?_ (co) ?_) | (with_reducible refine Z.callZ_mk ?_ (cp) ?_) | (with_reducible refine Z.callZ_mk ?_ (cg) ?_) | (with_reducible refine Z.callZ_mk ?_ (cc) ?_) | (with_reducible refine Z.callZ_mk ?_ (cr) ?_) | (with_reducible refine Z.callZ_mk ?_ (ce) ?_)); (focus ((repeat' (first | exact trivial | exact rfl | apply And.intro)); done)))
    | ((first | (with_reducible refine Z.callZ_mk ?_ (cs1) ?_)); (focus ((repeat' (first | exact trivial | exact rfl | exact Z.low_nil | apply And.intro)); done)))
    | ((first | (with_reducible refine Z.callZ_mk ?_ (cs2) ?_)); (focus ((repeat' (first | exact trivial | exact rfl | apply And.intro)); done)))
    | ((with_reducible apply ex_and); exact rfl))
  all_goals (try (conv => whnf))
  all_goals try (show Nat.ble _ _ = true; rfl)
  all_goals first
    | ((first | (with_reducible apply Z.retF1)); (focus (exact rfl)); (repeat' (first | exact trivial | exact rfl | apply And.intro)); (all_goals (try exact (fun _ => none))); all_goals (first | (simp; done)))

theorem gp_full (qs : List Qu) (n d : Int) (k : Nat) (x : Qu) (e : El) (hq : qs.length ≤ 9223372036854775807) (huq : ∀ q ∈ qs, ∀ e ∈ q.es, 0 ≤ e.num) (hlu : ∀ q ∈ qs, 0 ≤ q.last) (hn : 0 ≤ n) (he : 0 ≤ e.num)  (hbg : big qs = false) (hk : okG qs n d = true) (hx : qs[k]? = some x) (hoe : okE e = true) (hcl : clsQ x = false) (hnb : ¬ (e.kd = 2 ∧ e.num ≤ x.last)) (hfl : 4 ≤ x.es.length) : Con Try.prog 3 [.agg [.ro false 4 (qs.map eQ), .v (.int .u64 n), .v (.int .u64 d)], .one (.v (.int .i64 (k : Int))), .agg [.v (.int .i64 e.kd), .v (.int .i64 e.src), .v (.int .i64 e.key), .v (.int .i64 e.val), .v (.int .u64 e.num)]] (fun rx rK rt => rx = .val (.bool true) ∧ rK = [] ∧ rt = 0) := by
  refine Z.con_ofF tabOk 83 Try.f3 _ Try.func3 (by kernel_rfl) rfl rfl rfl rfl ?_
  have cv := over_con qs n d hq
  rw [hbg] at cv
  have hbn := big_not hbg
  have hlq : ∀ q ∈ qs, q.es.length ≤ 9223372036854775807 := fun q h => by have := hbn.2 q h; omega
  have co := copied_con qs n d hbn.1 hbn.2
  have cg := right_con qs n d hq hlq huq hlu hn
  rw [hk] at cg
  have cs2 := rsame_con qs qs n d n d hq hbn.2
  simp only [and_self, decide_true] at cs2
  have hkl := (List.getElem?_eq_some_iff.1 hx).1
  have hxm := List.mem_of_getElem? hx
  have hxl := hbn.2 x hxm
  have hx4 := (okG_all hk).2 x hxm
  have cc := rclosed_con x (by omega)
  rw [closed_eq (okG_q hk hxm), hcl] at cc
  have ce := rightE_con e he
  rw [hoe] at ce
  have hR : pushR qs n d (k : Int) e = bif okE e then (bif clsQ x then ([], 0, 0, 2) else if e.kd = 2 ∧ e.num ≤ x.last then ([], 0, 0, 2) else if 4 ≤ x.es.length then ([], 0, 0, 6) else (qs.set k (pushQ e x), n, d, 0)) else ([], 0, 0, 151) := by
    unfold pushR; rw [hk, cond_true, if_pos ⟨by omega, by omega⟩, Int.toNat_natCast, hx]
  have cp := push_con qs n d (k : Int) e hq hlq huq he
  rw [show pushR qs n d (k : Int) e = ([], 0, 0, 6) by rw [hR]; simp [*]] at cp
  dsimp only at cp
  have cr := room_con qs n d (k : Int) hq hlq huq
  rw [show roomF qs n d (k : Int) = 4 - (x.es.length : Int) by rw [room_at hk hx, hcl]; rfl] at cr
  have cs1 := rsame_con [] [] 0 0 0 0 (by simp) (by simp)
  simp only [and_self, decide_true] at cs1
  repeat' ((conv => whnf); first
    | with_reducible first | refine spB_t ?_
    | ((with_reducible apply spB_cong); (focus (simp only [beq_self_eq_true, bne_self_eq_false, Bool.true_bne, Bool.false_bne, Bool.bne_true, Bool.bne_false, Bool.true_beq, Bool.false_beq, Bool.not_true, Bool.not_false, Bool.not_not, Int.reduceBEq, Int.reduceBNe, Int.reduceLE, Int.reduceLT, Int.reduceEq, decide_true, decide_false]; rfl)))
    | with_reducible first | refine spB_no (by decide) ?_
    | (with_reducible refine spB_dec ?_ ?_ <;> intro _ <;> (try (exfalso; first | contradiction | omega | (rename_i hz; refine hz ?_; simp; done) | (rename_i hz; simp at hz; done) | (simp only [LN] at *; omega))))
    | (with_reducible refine spB_beq ?_ ?_ <;> intro _ <;> (try (exfalso; first | contradiction | omega | (rename_i hz; refine hz ?_; simp; done) | (rename_i hz; simp at hz; done) | (simp only [LN] at *; omega))))
    | ((with_reducible refine ixN_mk (k) ?_ ?_ ?_); (focus (first | rfl)); (focus ((try simp only [LN] at *) <;> omega)))
    | with_reducible first | refine Z.rowN_known hx ?_
    | with_reducible refine wr_i64 (by first | omega | (simp only [LN] at *; omega)) ?_
    | with_reducible first | refine Z.callZ_in tabOk 84 Try.f13 _ Try.func13 (by kernel_rfl) rfl rfl rfl ?_
    | ((first | (with_reducible refine Z.callZ_mk ?_ (wakes_con) ?_) | (with_reducible refine Z.callZ_mk ?_ (cv) ?_) | (with_reducible refine Z.callZ_mk ?_ (co) ?_) | (with_reducible refine Z.callZ_mk ?_ (cp) ?_) | (with_reducible refine Z.callZ_mk ?_ (cg) ?_) | (with_reducible refine Z.callZ_mk ?_ (cc) ?_) | (with_reducible refine Z.callZ_mk ?_ (cr) ?_) | (with_reducible refine Z.callZ_mk ?_ (ce) ?_)); (focus ((repeat' (first | exact trivial | exact rfl | apply And.intro)); done)))
    | ((first | (with_reducible refine Z.callZ_mk ?_ (cs1) ?_)); (focus ((repeat' (first | exact trivial | exact rfl | exact Z.low_nil | apply And.intro)); done)))
    | ((first | (with_reducible refine Z.callZ_mk ?_ (cs2) ?_)); (focus ((repeat' (first | exact trivial | exact rfl | apply And.intro)); done)))
    | ((with_reducible apply ex_and); exact rfl))
  all_goals (try (conv => whnf))
  all_goals try (show Nat.ble _ _ = true; rfl)
  all_goals first
    | ((first | (with_reducible apply Z.retF1)); (focus (exact rfl)); (repeat' (first | exact trivial | exact rfl | apply And.intro)); (all_goals (try exact (fun _ => none))); all_goals (first | (simp; done)))

end Go.Proofs.Ytakfkbciijahgaa
namespace Go.Proofs.Ytakfkbciijahgaa
open Go Go.RowKit Wx
set_option linter.unusedVariables false
set_option linter.unusedSimpArgs false
set_option maxHeartbeats 4000000
abbrev cB (p : Bool × Qu) : List Ce := [Ce.ro p.1 5 (p.2.es.map eE), Ce.v (.int .u64 p.2.last), Ce.v (.bool p.2.held), Ce.v (.bool p.2.ended)]
theorem fz_snoc {j : Nat} {o : Option Blk} {l : List El} {e : El} (h : o = some ⟨l.map cE ++ [cE e], 5, 29, false⟩) : Z.fzC j o (.gsl j (l.map cE ++ [cE e])) (.ro true 5 ((l ++ [e]).map eE)) := by
  have := Z.fzC.gslm (j := j) (l := l ++ [e]) (f := cE) (g := eE) (sz := 5) (ty := 29) (o := o) (by rw [h, List.map_append]; exact Z.gB_snoc.symm) (fun _ => rfl)
  rw [List.map_append (f := cE)] at this
  exact this
def accW (qs : List Qu) (k : Nat) (y : Qu) (i : Nat) : List (Bool × Qu) := ((qs.map (fun q => (false, q))).set k (true, y)).take i
theorem accW_k {qs : List Qu} {k : Nat} {x y : Qu} (hx : qs[k]? = some x) : accW qs k y (k + 1) = accW qs k y k ++ [(true, y)] := by
  have hk := (List.getElem?_eq_some_iff.1 hx).1
  exact take_snoc (List.getElem?_set_self (by rw [List.length_map]; exact hk))
theorem accW_ne {qs : List Qu} {k i : Nat} {x y : Qu} (hx : qs[i]? = some x) (h : i ≠ k) : accW qs k y (i + 1) = accW qs k y i ++ [(false, x)] :=
  take_snoc (by rw [List.getElem?_set_ne (Ne.symm h), List.getElem?_map, hx]; rfl)
theorem accW_len {qs : List Qu} {k i : Nat} {y : Qu} : (accW qs k y i).length ≤ i := by
  unfold accW; rw [List.length_take]; omega
theorem accW_snd {qs : List Qu} {k : Nat} {y : Qu} : (accW qs k y qs.length).map Prod.snd = qs.set k y := by
  unfold accW
  rw [List.take_of_length_le (by simp), List.map_set, List.map_map]
  congr 1
  exact List.map_id qs
theorem low_accW {K : Nat → Option Blk} {i : Nat} {l : List (Bool × Qu)} {qs' : List Qu} (h : K i = gB 4 39 (l.map cB)) (hl : l.map Prod.snd = qs') : lowC K (.gsl i (l.map cB)) (.ro false 4 (qs'.map eQ)) := by
  subst hl
  rw [List.map_map]
  exact Z.low_gslm h (fun _ => rfl)
theorem gp_ok_t (qs : List Qu) (n d : Int) (k : Nat) (x : Qu) (e : El) (hq : qs.length ≤ 9223372036854775807) (huq : ∀ q ∈ qs, ∀ e ∈ q.es, 0 ≤ e.num) (hlu : ∀ q ∈ qs, 0 ≤ q.last) (hn : 0 ≤ n) (he : 0 ≤ e.num) (hbg : big qs = false) (hk : okG qs n d = true) (hx : qs[k]? = some x) (hoe : okE e = true) (hcl : clsQ x = false) (hnb : ¬ (e.kd = 2 ∧ e.num ≤ x.last)) (hfl : x.es.length < 4) (h2 : e.kd = 2) : Con Try.prog 3 [.agg [.ro false 4 (qs.map eQ), .v (.int .u64 n), .v (.int .u64 d)], .one (.v (.int .i64 (k : Int))), .agg [.v (.int .i64 e.kd), .v (.int .i64 e.src), .v (.int .i64 e.key), .v (.int .i64 e.val), .v (.int .u64 e.num)]] (fun rx rK rt => rx = .val (.bool true) ∧ rK = [] ∧ rt = 0) := by
  refine Z.con_ofF tabOk 83 Try.f3 _ Try.func3 (by kernel_rfl) rfl rfl rfl rfl ?_
  have cv := over_con qs n d hq
  rw [hbg] at cv
  have hbn := big_not hbg
  have hlq : ∀ q ∈ qs, q.es.length ≤ 9223372036854775807 := fun q h => by have := hbn.2 q h; omega
  have co := copied_con qs n d hbn.1 hbn.2
  have cg := right_con qs n d hq hlq huq hlu hn
  rw [hk] at cg
  have cs2 := rsame_con qs qs n d n d hq hbn.2
  simp only [and_self, decide_true] at cs2
  have hkl := (List.getElem?_eq_some_iff.1 hx).1
  have hxm := List.mem_of_getElem? hx
  have cc := rclosed_con x (by omega)
  rw [closed_eq (okG_q hk hxm), hcl] at cc
  have ce := rightE_con e he
  rw [hoe] at ce
  have hpy : pushQ e x = (⟨x.es ++ [e], e.num, x.held, x.ended⟩ : Qu) := by unfold pushQ; rw [if_pos h2]
  have hR : pushR qs n d (k : Int) e = (qs.set k (⟨x.es ++ [e], e.num, x.held, x.ended⟩ : Qu), n, d, 0) := by
    unfold pushR; rw [hk, cond_true, if_pos ⟨by omega, by omega⟩, hoe, cond_true, Int.toNat_natCast, hx]
    simp only [hcl, cond_false]
    rw [if_neg hnb, if_neg (by omega), hpy]
  have cp := push_con qs n d (k : Int) e hq hlq huq he
  rw [hR] at cp
  dsimp only at cp
  have cr := room_con qs n d (k : Int) hq hlq huq
  rw [show roomF qs n d (k : Int) = 4 - (x.es.length : Int) by rw [room_at hk hx, hcl]; rfl] at cr
  have cs1 := rsame_con (qs.set k (⟨x.es ++ [e], e.num, x.held, x.ended⟩ : Qu)) (qs.set k (⟨x.es ++ [e], e.num, x.held, x.ended⟩ : Qu)) n d n d (by rw [List.length_set]; exact hq) (fun p hp => by
    rcases List.mem_or_eq_of_mem_set hp with h | h
    · exact hbn.2 p h
    · subst h; simp; omega)
  simp only [and_self, decide_true] at cs1
  repeat' ((conv => whnf); first
    | with_reducible first | refine spB_t ?_
    | ((with_reducible apply spB_cong); (focus (simp only [beq_self_eq_true, bne_self_eq_false, Bool.true_bne, Bool.false_bne, Bool.bne_true, Bool.bne_false, Bool.true_beq, Bool.false_beq, Bool.not_true, Bool.not_false, Bool.not_not, Int.reduceBEq, Int.reduceBNe, Int.reduceLE, Int.reduceLT, Int.reduceEq, decide_true, decide_false]; rfl)))
    | with_reducible first | refine spB_no (by decide) ?_
    | (with_reducible refine spB_dec ?_ ?_ <;> intro _ <;> (try (exfalso; first | contradiction | omega | (rename_i hz; refine hz ?_; simp; done) | (rename_i hz; simp at hz; done) | (simp only [LN] at *; omega))))
    | (with_reducible refine spB_beq ?_ ?_ <;> intro _ <;> (try (exfalso; first | contradiction | omega | (rename_i hz; refine hz ?_; simp; done) | (rename_i hz; simp at hz; done) | (simp only [LN] at *; omega))))
    | ((with_reducible refine ixN_mk (k) ?_ ?_ ?_); (focus (first | rfl)); (focus ((try simp only [LN] at *) <;> omega)))
    | with_reducible first | refine Z.rowN_known hx ?_
    | with_reducible first | refine Z.callZ_in tabOk 84 Try.f13 _ Try.func13 (by kernel_rfl) rfl rfl rfl ?_
    | ((first | (with_reducible refine Z.callZ_mk ?_ (wakes_con) ?_) | (with_reducible refine Z.callZ_mk ?_ (cv) ?_) | (with_reducible refine Z.callZ_mk ?_ (co) ?_) | (with_reducible refine Z.callZ_mk ?_ (cp) ?_) | (with_reducible refine Z.callZ_mk ?_ (cg) ?_) | (with_reducible refine Z.callZ_mk ?_ (cc) ?_) | (with_reducible refine Z.callZ_mk ?_ (ce) ?_)); (focus ((repeat' (first | exact trivial | exact rfl | apply And.intro)); done))))
  all_goals (try (conv => whnf))
  all_goals try (show Nat.ble _ _ = true; rfl)
  all_goals try (exfalso; rename_i hz; cases hz; done)
  all_goals try (exfalso; (try simp only [LN] at *) <;> omega)
  refine Z.loopK tabOk (fun zq : Nat × List El => [(10, .val (.int .i64 (zq.1 : Int))), (9, .c (.gsl 8 (zq.2.map cE)))]) (fun zq : Nat × List El => ([(8, (gB 5 29 (zq.2.map cE)).map Z.Ob.b)] : Z.Kr)) (fun zq => zq.1 ≤ x.es.length ∧ zq.2 = x.es.take zq.1) (fun zq => x.es.length - zq.1) (0, []) 9 [(1, _), (3, _), (5, _), (6, _), (8, _)] ⟨rfl, rfl, rfl, rfl, rfl, trivial⟩ [(0, some _), (1, some _), (2, some _), (3, some _), (4, some _), (5, some _), (6, some _), (7, some _)] ⟨rfl, rfl, rfl, rfl, rfl, rfl, rfl, rfl, trivial⟩ ?_ ?_ rfl rfl ⟨Nat.zero_le _, by simp⟩ ?_
  · repeat' (first | exact trivial | apply And.intro | exact ⟨_, rfl, Z.Imp.refl _⟩ | exact ⟨_, rfl, Z.Imp.nilg _⟩)
  · repeat' (first | exact trivial | (intro b hb; cases hb; done) | apply And.intro)
  rintro ⟨i, acc⟩ HINV
  dsimp only at HINV ⊢
  obtain ⟨HI, HA⟩ := HINV
  have hal : acc.length ≤ 4 := by rw [HA, List.length_take]; omega
  by_cases hi : i < x.es.length
  · obtain ⟨y, hy⟩ := getElem?_some' (xs := x.es) (i := i) hi
    repeat' ((conv => whnf); first
      | (with_reducible refine spB_dec ?_ ?_ <;> intro _ <;> (try (exfalso; first | contradiction | omega | (rename_i hz; refine hz ?_; simp; done) | (rename_i hz; simp at hz; done) | (simp only [LN] at *; omega))))
      | with_reducible first | refine Z.rowN_known hy ?_
      | ((with_reducible refine posE_pos ?_ ?_); (focus ((try simp only [LN] at *) <;> omega)))
      | ((with_reducible apply ixN_litp); (focus (exact rfl)); (focus ((try simp only [LN] at *) <;> omega)))
      | ((with_reducible refine apdN.mk ?_ ?_ ?_ ?_ ?_ ?_); (focus (first | rfl)); (focus (first | exact one_all (by rfl))); (focus ((try simp only [LN] at *) <;> omega)); (focus ((try simp only [LN] at *) <;> omega)); (focus ((try simp only [LN] at *) <;> omega)))
      | with_reducible refine wr_i64 (by first | omega | (simp only [LN] at *; omega)) ?_
      | ((with_reducible refine eqN_mk2 ?_ ?_); (focus (exact Z.kb_some rfl))))
    all_goals (try (conv => whnf))
    all_goals try (show Nat.ble _ _ = true; rfl)
    all_goals first
      | ((refine Z.rndK ((i + 1, acc ++ [y])) (fun s => [0, 1, 2, 3, 4, 5, 6, 7, s.idAt 9]) rfl rfl rfl rfl ?_ ?_ ?_ ?_); (focus (repeat' (first | exact trivial | exact rfl | (rw [List.map_append (f := cE)]; exact rfl) | apply And.intro))); (focus (repeat' (first | exact trivial | (intro b hb; cases hb; rfl) | exact Z.gB_sub' rfl (by first | rfl | (rw [List.map_append]; rfl) | simp only [List.map_append, List.map_cons, List.map_nil]) (ren_map fun _ => rfl) | apply And.intro))); (focus (exact ⟨by (try dsimp only); omega, by (try dsimp only); rw [take_snoc hy, HA]⟩)); ((try dsimp only); omega))
  have hA : acc = x.es := by rw [HA, List.take_of_length_le (by omega)]
  clear HA
  subst hA
  repeat' ((conv => whnf); first
    | (with_reducible refine spB_dec ?_ ?_ <;> intro _ <;> (try (exfalso; first | contradiction | omega | (rename_i hz; refine hz ?_; simp; done) | (rename_i hz; simp at hz; done) | (simp only [LN] at *; omega))))
    | (with_reducible refine spB_beq ?_ ?_ <;> intro _ <;> (try (exfalso; first | contradiction | omega | (rename_i hz; refine hz ?_; simp; done) | (rename_i hz; simp at hz; done) | (simp only [LN] at *; omega))))
    | ((with_reducible refine posE_pos ?_ ?_); (focus ((try simp only [LN] at *) <;> omega)))
    | ((with_reducible refine apdN.mk ?_ ?_ ?_ ?_ ?_ ?_); (focus (first | rfl)); (focus (first | exact one_all (by rfl))); (focus ((try simp only [LN] at *) <;> omega)); (focus ((try simp only [LN] at *) <;> omega)); (focus ((try simp only [LN] at *) <;> omega)))
    | with_reducible first | refine Z.callZ_in tabOk 41 Try.f33 _ Try.func33 (by kernel_rfl) rfl rfl rfl ?_
    | ((with_reducible refine eqN_mk2 ?_ ?_); (focus (exact Z.kb_some rfl))))
  all_goals (try (conv => whnf))
  all_goals try (show Nat.ble _ _ = true; rfl)
  all_goals try (exfalso; rename_i hz; cases hz; done)
  all_goals try (exfalso; (try simp only [LN] at *) <;> omega)
  refine loopZ_fz 10 12 [[.ro true 5 ((x.es ++ [e]).map eE), .v (.int .u64 e.num), .v (.bool x.held), .v (.bool x.ended)]] rfl rfl rfl ⟨⟨fz_snoc (l := x.es) (e := e) (by rfl), Z.fzC.refl _, Z.fzC.refl _, Z.fzC.refl _, trivial⟩, trivial⟩ ?_
  refine Z.loopK tabOk (fun zq : Nat × List (Bool × Qu) => [(8, .val (.int .i64 (zq.1 : Int)))]) (fun zq : Nat × List (Bool × Qu) => ([(14, some (Z.Ob.b ⟨[[.gsl 15 (zq.2.map cB), .v (.int .u64 n), .v (.int .u64 d)]], 3, 25, true⟩)), (15, (gB 4 39 (zq.2.map cB)).map Z.Ob.b)] : Z.Kr)) (fun zq => zq.1 ≤ qs.length ∧ zq.2 = accW qs k (⟨x.es ++ [e], e.num, x.held, x.ended⟩ : Qu) zq.1) (fun zq => qs.length - zq.1) (0, []) 16 [(1, _), (3, _), (5, _), (6, _), (7, _)] ⟨rfl, rfl, rfl, rfl, rfl, trivial⟩ [(0, some _), (1, some _), (2, some _), (3, some _), (4, some _), (5, some _), (6, some _), (7, some _), (9, some _), (11, some _), (12, some _), (13, some _)] ⟨rfl, rfl, rfl, rfl, rfl, rfl, rfl, rfl, rfl, rfl, rfl, rfl, trivial⟩ ?_ ?_ rfl rfl ⟨Nat.zero_le _, rfl⟩ ?_
  · repeat' (first | exact trivial | apply And.intro | exact ⟨_, rfl, Z.Imp.refl _⟩)
  · repeat' (first | exact trivial | (intro b hb; cases hb; done) | (intro b hb; cases hb; refine ⟨_, rfl, ⟨rfl, rfl, rfl⟩, ?_⟩; (repeat' (first | exact trivial | apply And.intro | exact Z.Imp.refl _ | exact Z.Imp.nilg _)); done) | apply And.intro)
  rintro ⟨i, acc⟩ HINV
  dsimp only at HINV ⊢
  obtain ⟨HI, HA⟩ := HINV
  have hal : acc.length ≤ 50 := by
    have := accW_len (qs := qs) (k := k) (y := (⟨x.es ++ [e], e.num, x.held, x.ended⟩ : Qu)) (i := i)
    rw [HA]; omega
  by_cases hi : i < qs.length
  · obtain ⟨y, hy⟩ := getElem?_some' (xs := qs) (i := i) hi
    by_cases hik : i = k
    all_goals (
      repeat' ((conv => whnf); first
        | (with_reducible refine spB_dec ?_ ?_ <;> intro _ <;> (try (exfalso; first | contradiction | omega | (rename_i hz; refine hz ?_; simp; done) | (rename_i hz; simp at hz; done) | (simp only [LN] at *; omega))))
        | (with_reducible refine spB_beq ?_ ?_ <;> intro _ <;> (try (exfalso; first | contradiction | omega | (rename_i hz; refine hz ?_; simp; done) | (rename_i hz; simp at hz; done) | (simp only [LN] at *; omega))))
        | with_reducible first | refine Z.rowN_known hy ?_
        | ((with_reducible refine posE_pos ?_ ?_); (focus ((try simp only [LN] at *) <;> omega)))
        | ((with_reducible apply ixN_litp); (focus (exact rfl)); (focus ((try simp only [LN] at *) <;> omega)))
        | ((with_reducible refine apdN.mk ?_ ?_ ?_ ?_ ?_ ?_); (focus (first | rfl)); (focus (first | exact one_all (by rfl))); (focus ((try simp only [LN] at *) <;> omega)); (focus ((try simp only [LN] at *) <;> omega)); (focus ((try simp only [LN] at *) <;> omega)))
        | with_reducible refine wr_i64 (by first | omega | (simp only [LN] at *; omega)) ?_
        | ((with_reducible refine eqN_mk2 ?_ ?_); (focus (exact Z.kb_some rfl)))
        | with_reducible first | refine Z.drawZ_rule tabOk mixOk ?_ | refine Z.apZ_mk (by kernel_rfl) ?_)
      all_goals (try (conv => whnf)))
    all_goals try (show Nat.ble _ _ = true; rfl)
    all_goals first
      | ((refine Z.rndK ((i + 1, acc ++ [(true, (⟨x.es ++ [e], e.num, x.held, x.ended⟩ : Qu))])) (fun s => [0, 1, 2, 3, 4, 5, 6, 7, 8, 9, 10, 11, 12, 13, 14, s.idIn 14 0]) rfl rfl rfl rfl ?_ ?_ ?_ ?_); (focus (repeat' (first | exact trivial | exact rfl | apply And.intro))); (focus (repeat' (first | exact trivial | ((refine Z.gB_sub' rfl ?_ (ren_map fun _ => rfl)); (first | (rw [List.map_append (f := cB)]; exact rfl))) | (intro b hb; cases hb; rfl) | (intro b hb; cases hb; rw [List.map_append (f := cB)]; rfl) | exact Z.gB_sub' rfl (by first | rfl | (rw [List.map_append]; rfl) | simp only [List.map_append, List.map_cons, List.map_nil]) (ren_map fun _ => rfl) | apply And.intro))); (focus (exact ⟨by (try dsimp only); omega, by (try dsimp only); subst hik; rw [accW_k hy, HA]⟩)); ((try dsimp only); omega))
      | ((refine Z.rndK ((i + 1, acc ++ [(false, y)])) (fun s => [0, 1, 2, 3, 4, 5, 6, 7, 8, 9, 10, 11, 12, 13, 14, s.idIn 14 0]) rfl rfl rfl rfl ?_ ?_ ?_ ?_); (focus (repeat' (first | exact trivial | exact rfl | apply And.intro))); (focus (repeat' (first | exact trivial | ((refine Z.gB_sub' rfl ?_ (ren_map fun _ => rfl)); (first | (rw [List.map_append (f := cB)]; exact rfl))) | (intro b hb; cases hb; rfl) | (intro b hb; cases hb; rw [List.map_append (f := cB)]; rfl) | apply And.intro))); (focus (exact ⟨by (try dsimp only); omega, by (try dsimp only); rw [accW_ne hy hik, HA]⟩)); ((try dsimp only); omega))
  have hil : i = qs.length := by omega
  subst hil
  have hAS : acc.map Prod.snd = qs.set k (⟨x.es ++ [e], e.num, x.held, x.ended⟩ : Qu) := by rw [HA]; exact accW_snd
  repeat' ((conv => whnf); first
    | with_reducible first | refine spB_t ?_
    | ((with_reducible apply spB_cong); (focus (simp only [beq_self_eq_true, bne_self_eq_false, Bool.true_bne, Bool.false_bne, Bool.bne_true, Bool.bne_false, Bool.true_beq, Bool.false_beq, Bool.not_true, Bool.not_false, Bool.not_not, Int.reduceBEq, Int.reduceBNe, Int.reduceLE, Int.reduceLT, Int.reduceEq, decide_true, decide_false]; rfl)))
    | (with_reducible refine spB_dec ?_ ?_ <;> intro _ <;> (try (exfalso; first | contradiction | omega | (rename_i hz; refine hz ?_; simp; done) | (rename_i hz; simp at hz; done) | (simp only [LN] at *; omega))))
    | (with_reducible refine spB_beq ?_ ?_ <;> intro _ <;> (try (exfalso; first | contradiction | omega | (rename_i hz; refine hz ?_; simp; done) | (rename_i hz; simp at hz; done) | (simp only [LN] at *; omega))))
    | ((with_reducible refine ixN_mk (k) ?_ ?_ ?_); (focus (first | rfl)); (focus ((try simp only [LN] at *) <;> omega)))
    | with_reducible first | refine Z.rowN_known hx ?_
    | with_reducible refine wr_i64 (by first | omega | (simp only [LN] at *; omega)) ?_
    | ((first | (with_reducible refine Z.callZ_mk ?_ (cg) ?_) | (with_reducible refine Z.callZ_mk ?_ (cc) ?_) | (with_reducible refine Z.callZ_mk ?_ (cr) ?_)); (focus ((repeat' (first | exact trivial | exact rfl | apply And.intro)); done)))
    | ((first | (with_reducible refine Z.callZ_mk ?_ (cs1) ?_)); (focus ((repeat' (first | exact trivial | exact low_accW (by first | rfl | exact Z.kb_some rfl) hAS | exact rfl | apply And.intro)); done)))
    | ((first | (with_reducible refine Z.callZ_mk ?_ (cs2) ?_)); (focus ((repeat' (first | exact trivial | exact rfl | apply And.intro)); done)))
    | ((with_reducible apply ex_and); exact rfl))
  all_goals (try (conv => whnf))
  all_goals try (show Nat.ble _ _ = true; rfl)
  all_goals first
    | ((first | (with_reducible apply Z.retF1)); (focus (exact rfl)); (repeat' (first | exact trivial | exact rfl | apply And.intro)); (all_goals (try exact (fun _ => none))); all_goals (first | (simp; done)))

theorem gp_ok_f (qs : List Qu) (n d : Int) (k : Nat) (x : Qu) (e : El) (hq : qs.length ≤ 9223372036854775807) (huq : ∀ q ∈ qs, ∀ e ∈ q.es, 0 ≤ e.num) (hlu : ∀ q ∈ qs, 0 ≤ q.last) (hn : 0 ≤ n) (he : 0 ≤ e.num) (hbg : big qs = false) (hk : okG qs n d = true) (hx : qs[k]? = some x) (hoe : okE e = true) (hcl : clsQ x = false) (hnb : ¬ (e.kd = 2 ∧ e.num ≤ x.last)) (hfl : x.es.length < 4) (h2 : ¬ e.kd = 2) : Con Try.prog 3 [.agg [.ro false 4 (qs.map eQ), .v (.int .u64 n), .v (.int .u64 d)], .one (.v (.int .i64 (k : Int))), .agg [.v (.int .i64 e.kd), .v (.int .i64 e.src), .v (.int .i64 e.key), .v (.int .i64 e.val), .v (.int .u64 e.num)]] (fun rx rK rt => rx = .val (.bool true) ∧ rK = [] ∧ rt = 0) := by
  refine Z.con_ofF tabOk 83 Try.f3 _ Try.func3 (by kernel_rfl) rfl rfl rfl rfl ?_
  have cv := over_con qs n d hq
  rw [hbg] at cv
  have hbn := big_not hbg
  have hlq : ∀ q ∈ qs, q.es.length ≤ 9223372036854775807 := fun q h => by have := hbn.2 q h; omega
  have co := copied_con qs n d hbn.1 hbn.2
  have cg := right_con qs n d hq hlq huq hlu hn
  rw [hk] at cg
  have cs2 := rsame_con qs qs n d n d hq hbn.2
  simp only [and_self, decide_true] at cs2
  have hkl := (List.getElem?_eq_some_iff.1 hx).1
  have hxm := List.mem_of_getElem? hx
  have cc := rclosed_con x (by omega)
  rw [closed_eq (okG_q hk hxm), hcl] at cc
  have ce := rightE_con e he
  rw [hoe] at ce
  have hpy : pushQ e x = (⟨x.es ++ [e], x.last, x.held, x.ended⟩ : Qu) := by unfold pushQ; rw [if_neg h2]
  have hR : pushR qs n d (k : Int) e = (qs.set k (⟨x.es ++ [e], x.last, x.held, x.ended⟩ : Qu), n, d, 0) := by
    unfold pushR; rw [hk, cond_true, if_pos ⟨by omega, by omega⟩, hoe, cond_true, Int.toNat_natCast, hx]
    simp only [hcl, cond_false]
    rw [if_neg hnb, if_neg (by omega), hpy]
  have cp := push_con qs n d (k : Int) e hq hlq huq he
  rw [hR] at cp
  dsimp only at cp
  have cr := room_con qs n d (k : Int) hq hlq huq
  rw [show roomF qs n d (k : Int) = 4 - (x.es.length : Int) by rw [room_at hk hx, hcl]; rfl] at cr
  have cs1 := rsame_con (qs.set k (⟨x.es ++ [e], x.last, x.held, x.ended⟩ : Qu)) (qs.set k (⟨x.es ++ [e], x.last, x.held, x.ended⟩ : Qu)) n d n d (by rw [List.length_set]; exact hq) (fun p hp => by
    rcases List.mem_or_eq_of_mem_set hp with h | h
    · exact hbn.2 p h
    · subst h; simp; omega)
  simp only [and_self, decide_true] at cs1
  repeat' ((conv => whnf); first
    | ((with_reducible apply spB_cong); (focus (simp only [beq_self_eq_true, bne_self_eq_false, Bool.true_bne, Bool.false_bne, Bool.bne_true, Bool.bne_false, Bool.true_beq, Bool.false_beq, Bool.not_true, Bool.not_false, Bool.not_not, Int.reduceBEq, Int.reduceBNe, Int.reduceLE, Int.reduceLT, Int.reduceEq, decide_true, decide_false]; rfl)))
    | with_reducible first | refine spB_no (by decide) ?_
    | (with_reducible refine spB_dec ?_ ?_ <;> intro _ <;> (try (exfalso; first | contradiction | omega | (rename_i hz; refine hz ?_; simp; done) | (rename_i hz; simp at hz; done) | (simp only [LN] at *; omega))))
    | (with_reducible refine spB_beq ?_ ?_ <;> intro _ <;> (try (exfalso; first | contradiction | omega | (rename_i hz; refine hz ?_; simp; done) | (rename_i hz; simp at hz; done) | (simp only [LN] at *; omega))))
    | ((with_reducible refine ixN_mk (k) ?_ ?_ ?_); (focus (first | rfl)); (focus ((try simp only [LN] at *) <;> omega)))
    | with_reducible first | refine Z.rowN_known hx ?_
    | with_reducible first | refine Z.callZ_in tabOk 84 Try.f13 _ Try.func13 (by kernel_rfl) rfl rfl rfl ?_
    | ((first | (with_reducible refine Z.callZ_mk ?_ (wakes_con) ?_) | (with_reducible refine Z.callZ_mk ?_ (cv) ?_) | (with_reducible refine Z.callZ_mk ?_ (co) ?_) | (with_reducible refine Z.callZ_mk ?_ (cp) ?_) | (with_reducible refine Z.callZ_mk ?_ (cg) ?_) | (with_reducible refine Z.callZ_mk ?_ (cc) ?_) | (with_reducible refine Z.callZ_mk ?_ (ce) ?_)); (focus ((repeat' (first | exact trivial | exact rfl | apply And.intro)); done))))
  all_goals (try (conv => whnf))
  all_goals try (show Nat.ble _ _ = true; rfl)
  all_goals try (exfalso; rename_i hz; cases hz; done)
  all_goals try (exfalso; (try simp only [LN] at *) <;> omega)
  refine Z.loopK tabOk (fun zq : Nat × List El => [(10, .val (.int .i64 (zq.1 : Int))), (9, .c (.gsl 8 (zq.2.map cE)))]) (fun zq : Nat × List El => ([(8, (gB 5 29 (zq.2.map cE)).map Z.Ob.b)] : Z.Kr)) (fun zq => zq.1 ≤ x.es.length ∧ zq.2 = x.es.take zq.1) (fun zq => x.es.length - zq.1) (0, []) 9 [(1, _), (3, _), (5, _), (6, _), (8, _)] ⟨rfl, rfl, rfl, rfl, rfl, trivial⟩ [(0, some _), (1, some _), (2, some _), (3, some _), (4, some _), (5, some _), (6, some _), (7, some _)] ⟨rfl, rfl, rfl, rfl, rfl, rfl, rfl, rfl, trivial⟩ ?_ ?_ rfl rfl ⟨Nat.zero_le _, by simp⟩ ?_
  · repeat' (first | exact trivial | apply And.intro | exact ⟨_, rfl, Z.Imp.refl _⟩ | exact ⟨_, rfl, Z.Imp.nilg _⟩)
  · repeat' (first | exact trivial | (intro b hb; cases hb; done) | apply And.intro)
  rintro ⟨i, acc⟩ HINV
  dsimp only at HINV ⊢
  obtain ⟨HI, HA⟩ := HINV
  have hal : acc.length ≤ 4 := by rw [HA, List.length_take]; omega
  by_cases hi : i < x.es.length
  · obtain ⟨y, hy⟩ := getElem?_some' (xs := x.es) (i := i) hi
    repeat' ((conv => whnf); first
      | (with_reducible refine spB_dec ?_ ?_ <;> intro _ <;> (try (exfalso; first | contradiction | omega | (rename_i hz; refine hz ?_; simp; done) | (rename_i hz; simp at hz; done) | (simp only [LN] at *; omega))))
      | with_reducible first | refine Z.rowN_known hy ?_
      | ((with_reducible refine posE_pos ?_ ?_); (focus ((try simp only [LN] at *) <;> omega)))
      | ((with_reducible apply ixN_litp); (focus (exact rfl)); (focus ((try simp only [LN] at *) <;> omega)))
      | ((with_reducible refine apdN.mk ?_ ?_ ?_ ?_ ?_ ?_); (focus (first | rfl)); (focus (first | exact one_all (by rfl))); (focus ((try simp only [LN] at *) <;> omega)); (focus ((try simp only [LN] at *) <;> omega)); (focus ((try simp only [LN] at *) <;> omega)))
      | with_reducible refine wr_i64 (by first | omega | (simp only [LN] at *; omega)) ?_
      | ((with_reducible refine eqN_mk2 ?_ ?_); (focus (exact Z.kb_some rfl))))
    all_goals (try (conv => whnf))
    all_goals try (show Nat.ble _ _ = true; rfl)
    all_goals first
      | ((refine Z.rndK ((i + 1, acc ++ [y])) (fun s => [0, 1, 2, 3, 4, 5, 6, 7, s.idAt 9]) rfl rfl rfl rfl ?_ ?_ ?_ ?_); (focus (repeat' (first | exact trivial | exact rfl | (rw [List.map_append (f := cE)]; exact rfl) | apply And.intro))); (focus (repeat' (first | exact trivial | (intro b hb; cases hb; rfl) | exact Z.gB_sub' rfl (by first | rfl | (rw [List.map_append]; rfl) | simp only [List.map_append, List.map_cons, List.map_nil]) (ren_map fun _ => rfl) | apply And.intro))); (focus (exact ⟨by (try dsimp only); omega, by (try dsimp only); rw [take_snoc hy, HA]⟩)); ((try dsimp only); omega))
  have hA : acc = x.es := by rw [HA, List.take_of_length_le (by omega)]
  clear HA
  subst hA
  repeat' ((conv => whnf); first
    | (with_reducible refine spB_dec ?_ ?_ <;> intro _ <;> (try (exfalso; first | contradiction | omega | (rename_i hz; refine hz ?_; simp; done) | (rename_i hz; simp at hz; done) | (simp only [LN] at *; omega))))
    | (with_reducible refine spB_beq ?_ ?_ <;> intro _ <;> (try (exfalso; first | contradiction | omega | (rename_i hz; refine hz ?_; simp; done) | (rename_i hz; simp at hz; done) | (simp only [LN] at *; omega))))
    | ((with_reducible refine posE_pos ?_ ?_); (focus ((try simp only [LN] at *) <;> omega)))
    | ((with_reducible refine apdN.mk ?_ ?_ ?_ ?_ ?_ ?_); (focus (first | rfl)); (focus (first | exact one_all (by rfl))); (focus ((try simp only [LN] at *) <;> omega)); (focus ((try simp only [LN] at *) <;> omega)); (focus ((try simp only [LN] at *) <;> omega)))
    | with_reducible first | refine Z.callZ_in tabOk 41 Try.f33 _ Try.func33 (by kernel_rfl) rfl rfl rfl ?_
    | ((with_reducible refine eqN_mk2 ?_ ?_); (focus (exact Z.kb_some rfl))))
  all_goals (try (conv => whnf))
  all_goals try (show Nat.ble _ _ = true; rfl)
  all_goals try (exfalso; rename_i hz; cases hz; done)
  all_goals try (exfalso; (try simp only [LN] at *) <;> omega)
  refine loopZ_fz 10 12 [[.ro true 5 ((x.es ++ [e]).map eE), .v (.int .u64 x.last), .v (.bool x.held), .v (.bool x.ended)]] rfl rfl rfl ⟨⟨fz_snoc (l := x.es) (e := e) (by rfl), Z.fzC.refl _, Z.fzC.refl _, Z.fzC.refl _, trivial⟩, trivial⟩ ?_
  refine Z.loopK tabOk (fun zq : Nat × List (Bool × Qu) => [(8, .val (.int .i64 (zq.1 : Int)))]) (fun zq : Nat × List (Bool × Qu) => ([(14, some (Z.Ob.b ⟨[[.gsl 15 (zq.2.map cB), .v (.int .u64 n), .v (.int .u64 d)]], 3, 25, true⟩)), (15, (gB 4 39 (zq.2.map cB)).map Z.Ob.b)] : Z.Kr)) (fun zq => zq.1 ≤ qs.length ∧ zq.2 = accW qs k (⟨x.es ++ [e], x.last, x.held, x.ended⟩ : Qu) zq.1) (fun zq => qs.length - zq.1) (0, []) 16 [(1, _), (3, _), (5, _), (6, _), (7, _)] ⟨rfl, rfl, rfl, rfl, rfl, trivial⟩ [(0, some _), (1, some _), (2, some _), (3, some _), (4, some _), (5, some _), (6, some _), (7, some _), (9, some _), (11, some _), (12, some _), (13, some _)] ⟨rfl, rfl, rfl, rfl, rfl, rfl, rfl, rfl, rfl, rfl, rfl, rfl, trivial⟩ ?_ ?_ rfl rfl ⟨Nat.zero_le _, rfl⟩ ?_
  · repeat' (first | exact trivial | apply And.intro | exact ⟨_, rfl, Z.Imp.refl _⟩)
  · repeat' (first | exact trivial | (intro b hb; cases hb; done) | (intro b hb; cases hb; refine ⟨_, rfl, ⟨rfl, rfl, rfl⟩, ?_⟩; (repeat' (first | exact trivial | apply And.intro | exact Z.Imp.refl _ | exact Z.Imp.nilg _)); done) | apply And.intro)
  rintro ⟨i, acc⟩ HINV
  dsimp only at HINV ⊢
  obtain ⟨HI, HA⟩ := HINV
  have hal : acc.length ≤ 50 := by
    have := accW_len (qs := qs) (k := k) (y := (⟨x.es ++ [e], x.last, x.held, x.ended⟩ : Qu)) (i := i)
    rw [HA]; omega
  by_cases hi : i < qs.length
  · obtain ⟨y, hy⟩ := getElem?_some' (xs := qs) (i := i) hi
    by_cases hik : i = k
    all_goals (
      repeat' ((conv => whnf); first
        | (with_reducible refine spB_dec ?_ ?_ <;> intro _ <;> (try (exfalso; first | contradiction | omega | (rename_i hz; refine hz ?_; simp; done) | (rename_i hz; simp at hz; done) | (simp only [LN] at *; omega))))
        | (with_reducible refine spB_beq ?_ ?_ <;> intro _ <;> (try (exfalso; first | contradiction | omega | (rename_i hz; refine hz ?_; simp; done) | (rename_i hz; simp at hz; done) | (simp only [LN] at *; omega))))
        | with_reducible first | refine Z.rowN_known hy ?_
        | ((with_reducible refine posE_pos ?_ ?_); (focus ((try simp only [LN] at *) <;> omega)))
        | ((with_reducible apply ixN_litp); (focus (exact rfl)); (focus ((try simp only [LN] at *) <;> omega)))
        | ((with_reducible refine apdN.mk ?_ ?_ ?_ ?_ ?_ ?_); (focus (first | rfl)); (focus (first | exact one_all (by rfl))); (focus ((try simp only [LN] at *) <;> omega)); (focus ((try simp only [LN] at *) <;> omega)); (focus ((try simp only [LN] at *) <;> omega)))
        | with_reducible refine wr_i64 (by first | omega | (simp only [LN] at *; omega)) ?_
        | ((with_reducible refine eqN_mk2 ?_ ?_); (focus (exact Z.kb_some rfl)))
        | with_reducible first | refine Z.drawZ_rule tabOk mixOk ?_ | refine Z.apZ_mk (by kernel_rfl) ?_)
      all_goals (try (conv => whnf)))
    all_goals try (show Nat.ble _ _ = true; rfl)
    all_goals first
      | ((refine Z.rndK ((i + 1, acc ++ [(true, (⟨x.es ++ [e], x.last, x.held, x.ended⟩ : Qu))])) (fun s => [0, 1, 2, 3, 4, 5, 6, 7, 8, 9, 10, 11, 12, 13, 14, s.idIn 14 0]) rfl rfl rfl rfl ?_ ?_ ?_ ?_); (focus (repeat' (first | exact trivial | exact rfl | apply And.intro))); (focus (repeat' (first | exact trivial | ((refine Z.gB_sub' rfl ?_ (ren_map fun _ => rfl)); (first | (rw [List.map_append (f := cB)]; exact rfl))) | (intro b hb; cases hb; rfl) | (intro b hb; cases hb; rw [List.map_append (f := cB)]; rfl) | exact Z.gB_sub' rfl (by first | rfl | (rw [List.map_append]; rfl) | simp only [List.map_append, List.map_cons, List.map_nil]) (ren_map fun _ => rfl) | apply And.intro))); (focus (exact ⟨by (try dsimp only); omega, by (try dsimp only); subst hik; rw [accW_k hy, HA]⟩)); ((try dsimp only); omega))
      | ((refine Z.rndK ((i + 1, acc ++ [(false, y)])) (fun s => [0, 1, 2, 3, 4, 5, 6, 7, 8, 9, 10, 11, 12, 13, 14, s.idIn 14 0]) rfl rfl rfl rfl ?_ ?_ ?_ ?_); (focus (repeat' (first | exact trivial | exact rfl | apply And.intro))); (focus (repeat' (first | exact trivial | ((refine Z.gB_sub' rfl ?_ (ren_map fun _ => rfl)); (first | (rw [List.map_append (f := cB)]; exact rfl))) | (intro b hb; cases hb; rfl) | (intro b hb; cases hb; rw [List.map_append (f := cB)]; rfl) | apply And.intro))); (focus (exact ⟨by (try dsimp only); omega, by (try dsimp only); rw [accW_ne hy hik, HA]⟩)); ((try dsimp only); omega))
  have hil : i = qs.length := by omega
  subst hil
  have hAS : acc.map Prod.snd = qs.set k (⟨x.es ++ [e], x.last, x.held, x.ended⟩ : Qu) := by rw [HA]; exact accW_snd
  repeat' ((conv => whnf); first
    | with_reducible first | refine spB_t ?_
    | ((with_reducible apply spB_cong); (focus (simp only [beq_self_eq_true, bne_self_eq_false, Bool.true_bne, Bool.false_bne, Bool.bne_true, Bool.bne_false, Bool.true_beq, Bool.false_beq, Bool.not_true, Bool.not_false, Bool.not_not, Int.reduceBEq, Int.reduceBNe, Int.reduceLE, Int.reduceLT, Int.reduceEq, decide_true, decide_false]; rfl)))
    | (with_reducible refine spB_dec ?_ ?_ <;> intro _ <;> (try (exfalso; first | contradiction | omega | (rename_i hz; refine hz ?_; simp; done) | (rename_i hz; simp at hz; done) | (simp only [LN] at *; omega))))
    | (with_reducible refine spB_beq ?_ ?_ <;> intro _ <;> (try (exfalso; first | contradiction | omega | (rename_i hz; refine hz ?_; simp; done) | (rename_i hz; simp at hz; done) | (simp only [LN] at *; omega))))
    | ((with_reducible refine ixN_mk (k) ?_ ?_ ?_); (focus (first | rfl)); (focus ((try simp only [LN] at *) <;> omega)))
    | with_reducible first | refine Z.rowN_known hx ?_
    | with_reducible refine wr_i64 (by first | omega | (simp only [LN] at *; omega)) ?_
    | ((first | (with_reducible refine Z.callZ_mk ?_ (cg) ?_) | (with_reducible refine Z.callZ_mk ?_ (cc) ?_) | (with_reducible refine Z.callZ_mk ?_ (cr) ?_)); (focus ((repeat' (first | exact trivial | exact rfl | apply And.intro)); done)))
    | ((first | (with_reducible refine Z.callZ_mk ?_ (cs1) ?_)); (focus ((repeat' (first | exact trivial | exact low_accW (by first | rfl | exact Z.kb_some rfl) hAS | exact rfl | apply And.intro)); done)))
    | ((first | (with_reducible refine Z.callZ_mk ?_ (cs2) ?_)); (focus ((repeat' (first | exact trivial | exact rfl | apply And.intro)); done)))
    | ((with_reducible apply ex_and); exact rfl))
  all_goals (try (conv => whnf))
  all_goals try (show Nat.ble _ _ = true; rfl)
  all_goals first
    | ((first | (with_reducible apply Z.retF1)); (focus (exact rfl)); (repeat' (first | exact trivial | exact rfl | apply And.intro)); (all_goals (try exact (fun _ => none))); all_goals (first | (simp; done)))

end Go.Proofs.Ytakfkbciijahgaa
namespace Go.Proofs.Ytakfkbciijahgaa
open Go Go.RowKit Wx
set_option linter.unusedVariables false
set_option linter.unusedSimpArgs false
set_option maxHeartbeats 4000000
theorem gatepushes_con (qs : List Qu) (n d i : Int) (e : El) (hq : qs.length ≤ 9223372036854775807) (huq : ∀ q ∈ qs, ∀ e ∈ q.es, 0 ≤ e.num) (hlu : ∀ q ∈ qs, 0 ≤ q.last) (hn : 0 ≤ n) (he : 0 ≤ e.num) : Con Try.prog 3 [.agg [.ro false 4 (qs.map eQ), .v (.int .u64 n), .v (.int .u64 d)], .one (.v (.int .i64 i)), .agg [.v (.int .i64 e.kd), .v (.int .i64 e.src), .v (.int .i64 e.key), .v (.int .i64 e.val), .v (.int .u64 e.num)]] (fun rx rK rt => rx = .val (.bool true) ∧ rK = [] ∧ rt = 0) := by
  cases hbg : big qs with
  | true => exact gp_big qs n d i e hq huq hlu hn he hbg
  | false =>
    cases hk : okG qs n d with
    | false => exact gp_bad qs n d i e hq huq hlu hn he hbg hk
    | true =>
      by_cases hi : 0 ≤ i ∧ i < qs.length
      · obtain ⟨k, rfl⟩ := Int.eq_ofNat_of_zero_le hi.1
        obtain ⟨x, hx⟩ := getElem?_some' (xs := qs) (i := k) (by omega)
        cases hoe : okE e with
        | false =>
          cases hcl : clsQ x with
          | true => exact gp_elc qs n d k x e hq huq hlu hn he hbg hk hx hoe hcl
          | false => exact gp_elo qs n d k x e hq huq hlu hn he hbg hk hx hoe hcl
        | true =>
          cases hcl : clsQ x with
          | true => exact gp_cls qs n d k x e hq huq hlu hn he hbg hk hx hoe hcl
          | false =>
            by_cases hb : e.kd = 2 ∧ e.num ≤ x.last
            · exact gp_bar qs n d k x e hq huq hlu hn he hbg hk hx hoe hcl hb
            · by_cases hf : 4 ≤ x.es.length
              · exact gp_full qs n d k x e hq huq hlu hn he hbg hk hx hoe hcl hb hf
              · by_cases h2 : e.kd = 2
                · exact gp_ok_t qs n d k x e hq huq hlu hn he hbg hk hx hoe hcl hb (by omega) h2
                · exact gp_ok_f qs n d k x e hq huq hlu hn he hbg hk hx hoe hcl hb (by omega) h2
      · exact gp_has qs n d i e hq huq hlu hn he hbg hk hi
structure Gt where
  qs : List Qu
  n : Int
  d : Int
abbrev eGt (x : Gt) : List RT := [RT.ro 4 (x.qs.map eQ), RT.v (.int .u64 x.n), RT.v (.int .u64 x.d)]
def okEl (x : El) : Prop := (Lit.int .i64 x.kd).wf = true ∧ (Lit.int .i64 x.src).wf = true ∧ (Lit.int .i64 x.key).wf = true ∧ (Lit.int .i64 x.val).wf = true ∧ (Lit.int .u64 x.num).wf = true ∧ True
theorem rowEl (row : List RT) (h : RowF (.st (.cons 3 1 (.int .i64) (.cons 27 3 (.st (.cons 3 1 (.int .i64) (.cons 3 1 (.int .i64) (.cons 2 1 (.int .i64) .nil)))) (.cons 23 1 (.int .u64) .nil)))) row) : ∃ x, row = eE x ∧ okEl x := by
  obtain ⟨a0, r0, rfl, _, ⟨z0, rfl, w0⟩, a1, r1, rfl, _, ⟨b1, s1, rfl, _, ⟨z1, rfl, w1⟩, b2, s2, rfl, _, ⟨z2, rfl, w2⟩, b3, s3, rfl, _, ⟨z3, rfl, w3⟩, rfl⟩, a2, r2, rfl, _, ⟨z4, rfl, w4⟩, rfl⟩ := h
  exact ⟨⟨z0, z1, z2, z3, z4⟩, rfl, w0, w1, w2, w3, w4, trivial⟩
def okQu (x : Qu) : Prop := (x.es.length ≤ maxLen ∧ ∀ z ∈ x.es, okEl z) ∧ (Lit.int .u64 x.last).wf = true ∧ True
theorem rowQu (row : List RT) (h : RowF (.st (.cons 37 1 (.sl (.st (.cons 3 1 (.int .i64) (.cons 27 3 (.st (.cons 3 1 (.int .i64) (.cons 3 1 (.int .i64) (.cons 2 1 (.int .i64) .nil)))) (.cons 23 1 (.int .u64) .nil)))) 29 5) (.cons 23 1 (.int .u64) (.cons 4 1 .bool (.cons 4 1 .bool .nil))))) row) : ∃ x, row = eQ x ∧ okQu x := by
  obtain ⟨a0, r0, rfl, _, ⟨rows0, rfl, l0, h0⟩, a1, r1, rfl, _, ⟨z1, rfl, w1⟩, a2, r2, rfl, _, ⟨z2, rfl⟩, a3, r3, rfl, _, ⟨z3, rfl⟩, rfl⟩ := h
  obtain ⟨z0, rfl, k0⟩ := rows_map eE (fun z => okEl z) rowEl rows0 h0
  exact ⟨⟨z0, z1, z2, z3⟩, rfl, ⟨by simpa using l0, k0⟩, w1, trivial⟩
def okGt (x : Gt) : Prop := (x.qs.length ≤ maxLen ∧ ∀ z ∈ x.qs, okQu z) ∧ (Lit.int .u64 x.n).wf = true ∧ (Lit.int .u64 x.d).wf = true ∧ True
theorem rowGt (row : List RT) (h : RowF (.st (.cons 22 1 (.sl (.st (.cons 37 1 (.sl (.st (.cons 3 1 (.int .i64) (.cons 27 3 (.st (.cons 3 1 (.int .i64) (.cons 3 1 (.int .i64) (.cons 2 1 (.int .i64) .nil)))) (.cons 23 1 (.int .u64) .nil)))) 29 5) (.cons 23 1 (.int .u64) (.cons 4 1 .bool (.cons 4 1 .bool .nil))))) 39 4) (.cons 23 1 (.int .u64) (.cons 23 1 (.int .u64) .nil)))) row) : ∃ x, row = eGt x ∧ okGt x := by
  obtain ⟨a0, r0, rfl, _, ⟨rows0, rfl, l0, h0⟩, a1, r1, rfl, _, ⟨z1, rfl, w1⟩, a2, r2, rfl, _, ⟨z2, rfl, w2⟩, rfl⟩ := h
  obtain ⟨z0, rfl, k0⟩ := rows_map eQ (fun z => okQu z) rowQu rows0 h0
  exact ⟨⟨z0, z1, z2⟩, rfl, ⟨by simpa using l0, k0⟩, w1, w2, trivial⟩
theorem wf_u {z : Int} (h : (Lit.int .u64 z).wf = true) : 0 ≤ z := by
  simp [Lit.wf, IntKind.min, IntKind.max, IntKind.signed, IntKind.bits] at h; omega
namespace gatePushes
theorem main (avs : List A0) (h : All2 FitA [(.st (.cons 22 1 (.sl (.st (.cons 37 1 (.sl (.st (.cons 3 1 (.int .i64) (.cons 27 3 (.st (.cons 3 1 (.int .i64) (.cons 3 1 (.int .i64) (.cons 2 1 (.int .i64) .nil)))) (.cons 23 1 (.int .u64) .nil)))) 29 5) (.cons 23 1 (.int .u64) (.cons 4 1 .bool (.cons 4 1 .bool .nil))))) 39 4) (.cons 23 1 (.int .u64) (.cons 23 1 (.int .u64) .nil)))), (.int .i64), (.st (.cons 3 1 (.int .i64) (.cons 27 3 (.st (.cons 3 1 (.int .i64) (.cons 3 1 (.int .i64) (.cons 2 1 (.int .i64) .nil)))) (.cons 23 1 (.int .u64) .nil))))] avs) : Con Try.prog 3 avs (fun x K t => x = .val (.bool true) ∧ K = [] ∧ t = 0) := by
  obtain ⟨x0, x1, x2, rfl, h0, h1, h2⟩ : ∃ x0 x1 x2, avs = [x0, x1, x2] ∧ FitA (.st (.cons 22 1 (.sl (.st (.cons 37 1 (.sl (.st (.cons 3 1 (.int .i64) (.cons 27 3 (.st (.cons 3 1 (.int .i64) (.cons 3 1 (.int .i64) (.cons 2 1 (.int .i64) .nil)))) (.cons 23 1 (.int .u64) .nil)))) 29 5) (.cons 23 1 (.int .u64) (.cons 4 1 .bool (.cons 4 1 .bool .nil))))) 39 4) (.cons 23 1 (.int .u64) (.cons 23 1 (.int .u64) .nil)))) x0 ∧ FitA (.int .i64) x1 ∧ FitA (.st (.cons 3 1 (.int .i64) (.cons 27 3 (.st (.cons 3 1 (.int .i64) (.cons 3 1 (.int .i64) (.cons 2 1 (.int .i64) .nil)))) (.cons 23 1 (.int .u64) .nil)))) x2 := by
    cases avs with
    | nil => exact h.elim
    | cons x0 r => cases r with
      | nil => exact h.2.elim
      | cons x1 r => cases r with
        | nil => exact h.2.2.elim
        | cons x2 r => cases r with
          | nil => exact ⟨x0, x1, x2, rfl, h.1, h.2.1, h.2.2.1⟩
          | cons => exact h.2.2.2.elim
  clear h
  obtain ⟨row0, hrow0, rfl⟩ := h0
  obtain ⟨x, rfl, kx⟩ := rowGt row0 hrow0
  obtain ⟨i, rfl, wi⟩ := fit_int h1
  obtain ⟨row2, hrow2, rfl⟩ := h2
  obtain ⟨e, rfl, ke⟩ := rowEl row2 hrow2
  exact gatepushes_con x.qs x.n x.d i e (by have := kx.1.1; simpa [maxLen] using this) (fun q hq e he => wf_u (((kx.1.2 q hq).1.2 e he).2.2.2.2.1)) (fun q hq => wf_u (kx.1.2 q hq).2.1) (wf_u kx.2.1) (wf_u ke.2.2.2.2.1)
end gatePushes
end Go.Proofs.Ytakfkbciijahgaa
