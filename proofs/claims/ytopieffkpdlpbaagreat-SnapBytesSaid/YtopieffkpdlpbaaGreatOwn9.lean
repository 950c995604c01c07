import Derived.Test.YtopieffkpdlpbaaGreatOwn8d
import Derived.Test.YtopieffkpdlpbaaGreatOwn6
import Derived.Test.YtopieffkpdlpbaaGreatLib5
import Derived.Test.YtopieffkpdlpbaaGreatOwn7
import Derived.Test.YtopieffkpdlpbaaGreatRows
set_option linter.unusedVariables false
set_option linter.unusedSimpArgs false
namespace Go.Proofs.YtopieffkpdlpbaaGreat
open Go Go.RowKit Wx
set_option maxHeartbeats 4000000
namespace Tab
theorem bq_con (a : List Int) (hl : a.length ≤ 9223372036854775807) : Con Tryz.prog 15 [.one (.ro false 1 (a.map eB)), .one (.ro false 1 (a.map eB))] (fun rx rK rt => rx = .val (.bool true) ∧ rK = [] ∧ rt = 0) := by
 refine Z.con_ofF tabOk 10 Tryz.f15 _ Tryz.func15 (by kernel_rfl) rfl rfl rfl rfl ?_
 repeat' ((conv => whnf); first
  | with_reducible first | refine spB_t ?_
  | ((with_reducible apply spB_cong); (focus (simp only [splQ, Int.reduceBEq, Int.reduceBNe]; rfl)))
  | with_reducible first | refine spB_yes (by decide) ?_ | refine spB_no (by decide) ?_ | refine spB_f ?_ | refine spB_not ?_ | refine spB_yes (by assumption) ?_ | refine spB_no (by assumption) ?_
  | (with_reducible refine spB_dec ?_ ?_ <;> intro _ <;> (try (exfalso; first | contradiction | omega | (rename_i hz; refine hz ?_; simp; done) | (rename_i hz; simp at hz; done) | (simp only [LN] at *; omega))))
  | (with_reducible refine spB_beq ?_ ?_ <;> intro _ <;> (try (exfalso; first | contradiction | omega | (rename_i hz; refine hz ?_; simp; done) | (rename_i hz; simp at hz; done) | (simp only [LN] at *; omega))))
  | (with_reducible refine spB_bne ?_ ?_ <;> intro _ <;> (try (exfalso; first | contradiction | omega | (rename_i hz; refine hz ?_; simp; done) | (rename_i hz; simp at hz; done) | (simp only [LN] at *; omega))))
  | (with_reducible refine spB_mk ?_ ?_ <;> intro _ <;> (try (exfalso; first | contradiction | omega | (rename_i hz; refine hz ?_; simp; done) | (rename_i hz; simp at hz; done) | (simp only [LN] at *; omega))))
  | ((with_reducible apply rowN_mk); (focus rfl))
  | ((with_reducible apply ixN_lit); (focus rfl); (focus rfl))
  | ((with_reducible apply ixN_litp); (focus rfl); (focus ((try simp only [LN] at *) <;> omega)))
  | ((with_reducible refine eqN_mk2 ?_ ?_); (focus rfl))
  | ((with_reducible refine strN_src ?_ ?_ ?_); (focus (exact fun _ => rfl)); (focus ((try simp only [LN] at *) <;> omega)))
  | ((with_reducible refine strN_own ?_ ?_ ?_ ?_); (focus (exact fun _ => rfl)); (focus ((try simp only [LN] at *) <;> omega)); (focus ((try simp only [LN] at *) <;> omega)))
  | with_reducible refine wr_i64 (by first | omega | (simp only [LN] at *; omega)) ?_
  | with_reducible refine wr_u64 (by omega) ?_
  | with_reducible refine wr_u8 (by omega) ?_
  | with_reducible refine wr_u32 (by omega) ?_
  | with_reducible first | refine wr_mk _ rfl ?_
  | ((with_reducible refine ixN_nat ?_ ?_); (focus ((try simp only [LN] at *) <;> omega)))
  | ((with_reducible refine rowN_map ?_ ?_); (focus ((try simp only [LN] at *) <;> omega)); intro x hx)
  | with_reducible refine eqN_dec (by omega) ?_
  | with_reducible first | refine apN_mk (by kernel_rfl) ?_
  | ((with_reducible refine eqN_mk2 ?_ ?_); (focus (exact Z.kb_some rfl)))
  | ((with_reducible apply ex_and); exact rfl))
 all_goals (try (conv => whnf))
 all_goals try (show Nat.ble _ _ = true; rfl)
 all_goals first
  | ((first | (with_reducible apply Z.retF1) | (with_reducible apply Z.retF2) | (with_reducible apply Z.retF0)); (focus rfl); (repeat' (first | exact trivial | (with_reducible apply Z.frz_one) | (with_reducible apply Z.frz_agg) | (with_reducible apply Z.fq_int) | (with_reducible apply Z.fq_bool) | (exact Z.frz_nil) | (exact Z.frz_osl0 rfl rfl rfl) | (with_reducible apply Z.fq_nil) | (with_reducible apply Z.fq_ro) | ((with_reducible apply Z.fq_gsl); (focus (first | rfl | exact Z.isB_map _ | exact Z.gB_snoc.symm)); (focus (exact fun _ => rfl))) | ((with_reducible apply Z.fq_osl); (focus rfl); (focus (first | exact rfl | (simp only [List.length_map, Nat.zero_add]; done) | ((try simp only [LN] at *) <;> omega))); (focus (exact fun _ => rfl))) | ((with_reducible apply Z.fq_src); (focus rfl); (focus (first | exact rfl | (simp only [List.length_map, Nat.zero_add]; done) | ((try simp only [LN] at *) <;> omega))); (focus (exact fun _ => rfl))) | exact rfl | ((apply Z.fq_osl); (focus rfl); (focus (first | exact rfl | (simp only [List.length_map, Nat.zero_add]; done) | ((try simp only [LN] at *) <;> omega))); (focus (exact fun _ => rfl))) | ((apply Z.fq_src); (focus rfl); (focus (first | exact rfl | (simp only [List.length_map, Nat.zero_add]; done) | ((try simp only [LN] at *) <;> omega))); (focus (exact fun _ => rfl))) | (apply Z.fq_ro) | (apply Z.fq_int) | (apply Z.fq_bool) | apply And.intro)); (all_goals (try exact (fun _ => none))); all_goals (first | rfl | (simp; done)))
  | (exfalso; rename_i hz; cases hz; done)
  | (exfalso; (try simp only [LN] at *) <;> omega)
  | (fail)
end Tab
end Go.Proofs.YtopieffkpdlpbaaGreat
namespace Go.Proofs.YtopieffkpdlpbaaGreat
open Go Go.RowKit Wx
set_option maxHeartbeats 4000000
def rowsE {α : Type} (sz mx : Nat) (d : List Ce → Option α) (dr : List RT → Option α) (K : Nat → Option Y.Ob) : Ce → Option (List α)
 | .ro _ z rows => match Nat.beq z sz, rows.mapM dr with
  | true, some xs => match Nat.ble xs.length mx with
   | true => some xs
   | false => none
  | _, _ => none
 | c => Y.rowsD sz mx d K c
theorem mapM_en {α : Type} {dr : List RT → Option α} {en : α → List RT} (hd : ∀ r x, dr r = some x → r = en x) : ∀ {rows : List (List RT)} {xs : List α}, rows.mapM dr = some xs → rows = xs.map en
 | [], xs, h => by simp only [List.mapM_nil, Option.pure_def, Option.some.injEq] at h; subst h; rfl
 | r :: rows, xs, h => by
  rw [List.mapM_cons] at h
  cases h1 : dr r with
  | none => rw [h1] at h; cases h
  | some x =>
   cases h2 : rows.mapM dr with
   | none => rw [h1, h2] at h; cases h
   | some ys =>
    rw [h1, h2] at h
    simp only [Option.pure_def, Option.bind_eq_bind, Option.bind_some, Option.some.injEq] at h
    subst h
    rw [List.map_cons, ← hd r x h1, ← mapM_en hd h2]
theorem rowsE_low {α : Type} {sz mx : Nat} {d : List Ce → Option α} {dr : List RT → Option α} {en : α → List RT} (hd : ∀ r x, d r = some x → r.map RT.of = (en x).map some) (hr : ∀ r x, dr r = some x → r = en x) {K : Nat → Option Y.Ob} {c : Ce} {xs : List α} (h : rowsE sz mx d dr K c = some xs) : lowC (Y.blkOf K) c (.ro false sz (xs.map en)) ∧ xs.length ≤ mx := by
 unfold rowsE at h
 split at h
 ·rename_i fl z rows
  split at h
  ·rename_i ys h1 h2
   split at h
   ·rename_i h3
    simp only [Option.some.injEq] at h
    subst h
    refine ⟨?_, Nat.le_of_ble_eq_true h3⟩
    have e := mapM_en hr h2
    subst e
    rw [Nat.eq_of_beq_eq_true h1]
    exact rfl
   ·cases h
  ·cases h
 ·exact Y.rowsD_low hd h
def decK : List Ce → Option Tab.Kc
 | [.v (.int .i64 a), .v (.int .i64 b), .v (.int .i64 c), .v (.int .i64 d)] => some ⟨a, b, c, d⟩
 | _ => none
theorem decK_ok (r : List Ce) (x : Tab.Kc) (h : decK r = some x) : r.map RT.of = (Tab.eK x).map some := by
 unfold decK at h
 split at h
 ·simp only [Option.some.injEq] at h; subst h; rfl
 ·cases h
def decKr : List RT → Option Tab.Kc
 | [.v (.int .i64 a), .v (.int .i64 b), .v (.int .i64 c), .v (.int .i64 d)] => some ⟨a, b, c, d⟩
 | _ => none
theorem decKr_ok (r : List RT) (x : Tab.Kc) (h : decKr r = some x) : r = Tab.eK x := by
 unfold decKr at h
 split at h
 ·simp only [Option.some.injEq] at h; subst h; rfl
 ·cases h
def orcJ : Y.CallFn := fun c avs K top => match c, avs with
 | .fn g [], [.pl (.agg [ca]), .pl (.agg [cb])] => match Nat.beq g 86, rowsE 4 1000 decK decKr K.get ca, rowsE 4 1000 decK decKr K.get cb with
  | true, some a, some b => some ⟨.tup [.agg [.ro true 4 ((Tab.joinT a b).1.map Tab.eK)], .one (.v (.int .i64 (Tab.joinT a b).2))], K, top, []⟩
  | _, _, _ => none
 | _, _ => none
theorem orcJ_sound : Y.CallsOk Tryz.prog orcJ := by
 intro c avs K top r h
 unfold orcJ at h
 split at h
 ·rename_i g ca cb
  split at h
  ·rename_i a b h1 h2 h3
   simp only [Option.some.injEq] at h
   subst h
   obtain ⟨g1, g2⟩ := rowsE_low (en := Tab.eK) decK_ok decKr_ok h2
   obtain ⟨g3, g4⟩ := rowsE_low (en := Tab.eK) decK_ok decKr_ok h3
   have := Nat.eq_of_beq_eq_true h1
   subst this
   exact ⟨Y.con_callE (args := [.agg [.ro false 4 (a.map Tab.eK)], .agg [.ro false 4 (b.map Tab.eK)]]) ⟨⟨g1, trivial⟩, ⟨g3, trivial⟩, trivial⟩ (Tab.tjoin_con a b g2 g4) rfl, fun _ _ => rfl⟩
  ·cases h
 ·cases h
theorem wakes_con : Con Tryz.prog 5 [] (fun x K t => x = .val (.bool true) ∧ K = [] ∧ t = 0) := Y.con_runO ftabOk tabOk mixOk orcJ_sound 60 14 (by kernel_rfl) (by kernel_rfl)
end Go.Proofs.YtopieffkpdlpbaaGreat
namespace Go.Proofs.YtopieffkpdlpbaaGreat
open Go Go.RowKit Wx
set_option maxHeartbeats 4000000
open Tab
theorem low_byB {K : Nat → Option Blk} {i n : Nat} {c : Option Nat} {L : List Int} {R : List (List Ce)} (h : K i = some ⟨R, 1, 5, false⟩) (hR : R = L.map cB) (hn : n = L.length) : lowV K (.pl (.one (.osl i 0 n c))) (.one (.ro false 1 (L.map eB))) := by
 show lowC K (.osl i 0 n c) (.ro false 1 (L.map eB))
 subst hR hn
 simp only [lowC, h]
 exact ⟨_, rfl, by simp, by rw [List.drop_zero, List.take_of_length_le (by simp), List.map_map, List.map_map]; exact List.map_congr_left fun x _ => rfl⟩
theorem rd_by {m : Nat} {x : List Int} {fl : Bool} (hm : m ≤ x.length) : List.map (List.map (RT.ce fl)) (List.take (m - 0) (List.drop 0 (x.map eB))) = (x.take m).map cB := by
 rw [Nat.sub_zero, List.drop_zero, ← List.map_take, List.map_map]; rfl
theorem one_cutB {l : List Int} {n m : Nat} {fl : Bool} : ∀ r ∈ List.map (List.map (RT.ce fl)) (List.take n (List.drop m (l.map eB))), ∀ c ∈ r, c.single = true := fun r hr c hc => by
 obtain ⟨t, ht, rfl⟩ := List.mem_map.1 hr
 obtain ⟨z, _, rfl⟩ := List.mem_map.1 (List.mem_of_mem_drop (List.mem_of_mem_take ht))
 simp only [List.map_cons, List.map_nil, List.mem_cons, List.not_mem_nil, or_false] at hc
 rcases hc with rfl <;> rfl
theorem decS_lens {b : List Int} (hB : isB b) : (decS b).1.rows.length ≤ 256 ∧ (decS b).1.txs.length ≤ 24 := by
 rcases decS_any hB with ⟨_, _, _, h1, h2, _⟩ | ⟨h, _⟩
 ·exact ⟨h1, h2⟩
 ·rw [h]; exact ⟨Nat.zero_le _, Nat.zero_le _⟩
theorem snapbytes_con (l : List Sn) (rows : List (List Int)) (hl : l.length ≤ 9223372036854775807) (hA : ∀ x ∈ l, x.rows.length ≤ 9223372036854775807 ∧ x.txs.length ≤ 9223372036854775807) (hrl9 : rows.length ≤ 9223372036854775807) (hRB : ∀ x ∈ rows, isB x) (hRl : ∀ x ∈ rows, x.length ≤ 9223372036854775807) : Con Tryz.prog 4 [.one (.ro false 14 (l.map eSn)), .one (.ro false 1 (rows.map fun x => [RT.ro 1 (x.map eB)]))] (fun rx rK rt => rx = .val (.bool true) ∧ rK = [] ∧ rt = 0) := by
 refine Z.con_ofF tabOk 102 Tryz.f4 _ Tryz.func4 (by kernel_rfl) rfl rfl rfl rfl ?_
 repeat' ((conv => whnf); first
  | ((with_reducible apply spB_cong); (focus (simp only [splQ, Int.reduceBEq, Int.reduceBNe]; rfl)))
  | with_reducible first | refine spB_no (by decide) ?_
  | ((first | (with_reducible refine Z.callZ_mk ?_ (wakes_con) ?_)); (focus ((repeat' (first | exact trivial)); done)))
  | fail)
 all_goals (try (conv => whnf))
 all_goals try first | (show Nat.ble _ _ = true; rfl) | (exfalso; rename_i hz; cases hz; done) | (exfalso; (try simp only [LN] at *) <;> omega)
 refine Z.loopK tabOk (fun zq : Nat => [(22, .val (.int .i64 (zq : Int)))]) (fun zq : Nat => ([] : Z.Kr)) (fun zq => zq ≤ l.length) (fun zq => l.length - zq) 0 0 [(1, _), (20, _), (21, _)] ⟨rfl, rfl, rfl, trivial⟩ [] trivial ?_ ?_ rfl rfl (Nat.zero_le _) ?_
 ·repeat' (first | exact trivial | apply And.intro | exact ⟨_, rfl, Z.Imp.refl _⟩)
 ·repeat' (first | exact trivial)
 rintro i HINV
 (try dsimp only at HINV); (try dsimp only)
 by_cases hi2 : i < l.length ∧ i ≠ 6
 ·obtain ⟨hi2, hi6⟩ := hi2
  obtain ⟨x, hx⟩ := getElem?_some' (xs := l) (i := i) hi2
  have hxm := hA x (List.mem_of_getElem? hx)
  have cs := shortS_con x hxm.1 hxm.2
  obtain ⟨hL8, hL9⟩ := shortS_len x
  generalize shortS x = X at *
  have cr := rright_con X (by omega) (by omega)
  have ce := sencode_con X (by omega) (by omega)
  cases hok : snapR X
  all_goals rw [hok] at cr
  ·rw [show encSR X = ([], 280) by unfold encSR; rw [hok]; rfl] at ce
   dsimp only at ce
   repeat' ((conv => whnf); first
    | with_reducible first | refine spB_t ?_
    | ((with_reducible apply spB_cong); (focus (simp only [splQ, Int.reduceBEq, Int.reduceBNe]; rfl)))
    | with_reducible first | refine spB_no (by decide) ?_
    | (with_reducible refine spB_dec ?_ ?_ <;> intro _ <;> (try (exfalso; (first | (simp only [LN] at *; omega)))))
    | (with_reducible refine spB_beq ?_ ?_ <;> intro _ <;> (try (exfalso; (first | omega))))
    | with_reducible first | refine Z.rowN_known hx ?_
    | ((with_reducible apply ixN_litp); (focus rfl); (focus ((try simp only [LN] at *) <;> omega)))
    | with_reducible refine wr_i64 (by first | omega | (simp only [LN] at *; omega)) ?_
    | ((first | (with_reducible refine Z.callZ_mk ?_ (cs) ?_) | (with_reducible refine Z.callZ_mk ?_ (cr) ?_) | (with_reducible refine Z.callZ_mk ?_ (ce) ?_)); (focus ((repeat' (first | exact trivial | exact rfl | apply And.intro)); done)))
    | fail)
   all_goals (try (conv => whnf))
   all_goals try first | (show Nat.ble _ _ = true; rfl) | (exfalso; rename_i hz; cases hz; done) | (exfalso; (try simp only [LN] at *) <;> omega)
   all_goals first
    | ((refine Z.rndK ((i + 1)) (fun s => []) rfl rfl rfl rfl ?_ ?_ ?_ ?_); (focus (repeat' (first | exact trivial | exact rfl | apply And.intro))); (focus (repeat' (first | exact trivial))); (focus (((try dsimp only); omega))); ((try dsimp only); omega))
    | fail
  ·rw [show encSR X = (encS X, 0) by unfold encSR; rw [hok]; rfl] at ce
   dsimp only at ce
   have hel := encS_len X
   have cb := rsbytes_con X hok
   have cq := bq_con (encS X) (by omega)
   generalize encS X = Ee at *
   repeat' ((conv => whnf); first
    | with_reducible first | refine spB_t ?_
    | ((with_reducible apply spB_cong); (focus (simp only [splQ, Int.reduceBEq, Int.reduceBNe]; rfl)))
    | with_reducible first | refine spB_no (by decide) ?_
    | (with_reducible refine spB_dec ?_ ?_ <;> intro _ <;> (try (exfalso; (first | (simp only [LN] at *; omega)))))
    | (with_reducible refine spB_beq ?_ ?_ <;> intro _ <;> (try (exfalso; (first | omega))))
    | with_reducible first | refine Z.rowN_known hx ?_
    | ((with_reducible apply ixN_litp); (focus rfl); (focus ((try simp only [LN] at *) <;> omega)))
    | with_reducible refine wr_i64 (by first | omega | (simp only [LN] at *; omega)) ?_
    | ((first | (with_reducible refine Z.callZ_mk ?_ (cs) ?_) | (with_reducible refine Z.callZ_mk ?_ (cr) ?_) | (with_reducible refine Z.callZ_mk ?_ (ce) ?_) | (with_reducible refine Z.callZ_mk ?_ (cq) ?_) | (with_reducible refine Z.callZ_mk ?_ (cb) ?_)); (focus ((repeat' (first | exact trivial | exact rfl | apply And.intro)); done)))
    | fail)
   all_goals (try (conv => whnf))
   all_goals try first | (show Nat.ble _ _ = true; rfl) | (exfalso; rename_i hz; cases hz; done) | (exfalso; (try simp only [LN] at *) <;> omega)
   all_goals first
    | ((refine Z.rndK ((i + 1)) (fun s => []) rfl rfl rfl rfl ?_ ?_ ?_ ?_); (focus (repeat' (first | exact trivial | exact rfl | apply And.intro))); (focus (repeat' (first | exact trivial))); (focus (((try dsimp only); omega))); ((try dsimp only); omega))
    | fail
 have hx6 : (i = 6 ∧ i < l.length) ∨ i = l.length := by omega
 rcases hx6 with ⟨rfl, h6⟩ | rfl
 ·obtain ⟨r, hr⟩ := getElem?_some' (xs := l) (i := 6) h6
  repeat' ((conv => whnf); first
   | with_reducible first | refine spB_yes (by decide) ?_
   | (with_reducible refine spB_dec ?_ ?_ <;> intro _ <;> (try (exfalso; (first | (simp only [LN] at *; omega)))))
   | with_reducible first | refine Z.rowN_known hr ?_
   | ((with_reducible apply ixN_litp); (focus rfl); (focus ((try simp only [LN] at *) <;> omega)))
   | fail)
  all_goals (try (conv => whnf))
  all_goals try first | (show Nat.ble _ _ = true; rfl) | (exfalso; rename_i hz; cases hz; done) | (exfalso; (try simp only [LN] at *) <;> omega)
  refine Z.loopK tabOk (fun zq : Nat => [(66, .val (.int .i64 (zq : Int)))]) (fun zq : Nat => ([] : Z.Kr)) (fun zq => zq ≤ rows.length) (fun zq => rows.length - zq) 0 1 [(64, _), (65, _)] ⟨rfl, rfl, trivial⟩ [] trivial ?_ ?_ rfl rfl (Nat.zero_le _) ?_
  ·repeat' (first | exact trivial | apply And.intro | exact ⟨_, rfl, Z.Imp.refl _⟩)
  ·repeat' (first | exact trivial)
  rintro k HINV
  (try dsimp only at HINV); (try dsimp only)
  by_cases hk2 : k < rows.length ∧ k ≠ 8
  rotate_left
  ·have hx8 : (k = 8 ∧ k < rows.length) ∨ k = rows.length := by omega
   rcases hx8 with ⟨rfl, h8⟩ | rfl
   ·obtain ⟨y, hy⟩ := getElem?_some' (xs := rows) (i := 8) h8
    repeat' ((conv => whnf); first
     | with_reducible first | refine spB_yes (by decide) ?_
     | (with_reducible refine spB_dec ?_ ?_ <;> intro _ <;> (try (exfalso; (first | (simp only [LN] at *; omega)))))
     | with_reducible first | refine Z.rowN_known hy ?_
     | ((with_reducible apply ixN_litp); (focus rfl); (focus ((try simp only [LN] at *) <;> omega)))
     | fail)
    all_goals (try (conv => whnf))
    all_goals try first | (show Nat.ble _ _ = true; rfl) | (exfalso; rename_i hz; cases hz; done) | (exfalso; (try simp only [LN] at *) <;> omega)
    all_goals first
     | ((first | (with_reducible apply Z.retF1)); (focus rfl); (repeat' (first | exact trivial | (with_reducible apply Z.frz_one) | (with_reducible apply Z.fq_bool) | exact rfl | apply And.intro)); (all_goals (try exact (fun _ => none))); all_goals (first | (simp; done)))
     | fail
   ·skip
    repeat' ((conv => whnf); first
     | (with_reducible refine spB_dec ?_ ?_ <;> intro _ <;> (try (exfalso; (first | (rename_i hz; simp at hz; done)))))
     | fail)
    all_goals (try (conv => whnf))
    all_goals try first | (show Nat.ble _ _ = true; rfl) | (exfalso; rename_i hz; cases hz; done) | (exfalso; (try simp only [LN] at *) <;> omega)
    all_goals first
     | ((first | (with_reducible apply Z.retF1)); (focus rfl); (repeat' (first | exact trivial | (with_reducible apply Z.frz_one) | (with_reducible apply Z.fq_bool) | exact rfl | apply And.intro)); (all_goals (try exact (fun _ => none))); all_goals (first | (simp; done)))
     | fail
  obtain ⟨hk2, hk8⟩ := hk2
  obtain ⟨y, hy⟩ := getElem?_some' (xs := rows) (i := k) hk2
  have hyB := hRB y (List.mem_of_getElem? hy)
  have hyl := hRl y (List.mem_of_getElem? hy)
  obtain ⟨m, hm⟩ : ∃ m : Nat, m = min y.length 6000 := ⟨_, rfl⟩
  have hml : m ≤ y.length := by omega
  have hBl : (y.take m).length ≤ 6000 := by rw [List.length_take]; omega
  have hYB : isB (y.take m) := isB_take hyB
  have cd := sdecode_con (y.take m) hYB (by omega)
  have crd := srdec_con (y.take m) hYB (by omega)
  obtain ⟨hd1, hd2⟩ := decS_lens hYB
  generalize decS (y.take m) = Gg at *
  obtain ⟨Y, e⟩ := Gg
  dsimp only at cd crd hd1 hd2
  have m1 := rsame_con Y Y (by omega) (by omega)
  rw [decide_eq_true (rfl : Y = Y)] at m1
  repeat' ((conv => whnf); first
   | ((with_reducible apply spB_cong); (focus (simp only [splQ, Int.reduceBEq, Int.reduceBNe]; rfl)))
   | with_reducible first | refine spB_no (by decide) ?_
   | (with_reducible refine spB_dec ?_ ?_ <;> intro _ <;> (try (exfalso; (first | (simp only [LN] at *; omega)))))
   | (with_reducible refine spB_beq ?_ ?_ <;> intro _ <;> (try (exfalso; (first | omega))))
   | with_reducible first | refine Z.rowN_known hy ?_
   | ((with_reducible refine slN_hi m ?_ ?_ ?_); (focus (rw [List.length_map]; omega)); (focus (rw [List.length_map]; omega)))
   | ((with_reducible refine apdE_n ?_); (with_reducible refine apdN.mk ?_ ?_ ?_ ?_ ?_ ?_); (focus (first | (simp; done))); (focus (exact one_cutB)); (focus (first | exact Nat.zero_le _)); (iterate 2 (focus ((try simp only [LN] at *) <;> omega))))
   | ((with_reducible apply ixN_litp); (focus rfl); (focus ((try simp only [LN] at *) <;> omega)))
   | with_reducible refine wr_i64 (by first | omega | (simp only [LN] at *; omega)) ?_
   | ((first | (with_reducible refine Z.callZ_mk ?_ (m1) ?_) | (with_reducible refine Z.callZ_mk ?_ (cd) ?_) | (with_reducible refine Z.callZ_mk ?_ (crd) ?_)); (focus ((repeat' (first | exact trivial | (refine low_byB (L := y.take m) rfl ?_ ?_; (focus (first | exact rd_by hml)); (focus ((try simp only [LN] at *) <;> omega))) | exact rfl | apply And.intro)); done)))
   | fail)
  all_goals (try (conv => whnf))
  all_goals try first | (show Nat.ble _ _ = true; rfl) | (exfalso; rename_i hz; cases hz; done) | (exfalso; (try simp only [LN] at *) <;> omega)
  all_goals first
   | ((refine Z.rndK ((k + 1)) (fun s => [0]) rfl rfl rfl rfl ?_ ?_ ?_ ?_); (focus (repeat' (first | exact trivial | exact rfl | apply And.intro))); (focus (repeat' (first | exact trivial))); (focus (((try dsimp only); omega))); ((try dsimp only); omega))
   | fail
 ·skip
  repeat' ((conv => whnf); first
   | (with_reducible refine spB_dec ?_ ?_ <;> intro _ <;> (try (exfalso; (first | (rename_i hz; simp at hz; done)))))
   | fail)
  all_goals (try (conv => whnf))
  all_goals try first | (show Nat.ble _ _ = true; rfl) | (exfalso; rename_i hz; cases hz; done) | (exfalso; (try simp only [LN] at *) <;> omega)
  refine Z.loopK tabOk (fun zq : Nat => [(66, .val (.int .i64 (zq : Int)))]) (fun zq : Nat => ([] : Z.Kr)) (fun zq => zq ≤ rows.length) (fun zq => rows.length - zq) 0 0 [(64, _), (65, _)] ⟨rfl, rfl, trivial⟩ [] trivial ?_ ?_ rfl rfl (Nat.zero_le _) ?_
  ·repeat' (first | exact trivial | apply And.intro | exact ⟨_, rfl, Z.Imp.refl _⟩)
  ·repeat' (first | exact trivial)
  rintro k HINV
  (try dsimp only at HINV); (try dsimp only)
  by_cases hk2 : k < rows.length ∧ k ≠ 8
  rotate_left
  ·have hx8 : (k = 8 ∧ k < rows.length) ∨ k = rows.length := by omega
   rcases hx8 with ⟨rfl, h8⟩ | rfl
   ·obtain ⟨y, hy⟩ := getElem?_some' (xs := rows) (i := 8) h8
    repeat' ((conv => whnf); first
     | with_reducible first | refine spB_yes (by decide) ?_
     | (with_reducible refine spB_dec ?_ ?_ <;> intro _ <;> (try (exfalso; (first | (simp only [LN] at *; omega)))))
     | with_reducible first | refine Z.rowN_known hy ?_
     | ((with_reducible apply ixN_litp); (focus rfl); (focus ((try simp only [LN] at *) <;> omega)))
     | fail)
    all_goals (try (conv => whnf))
    all_goals try first | (show Nat.ble _ _ = true; rfl) | (exfalso; rename_i hz; cases hz; done) | (exfalso; (try simp only [LN] at *) <;> omega)
    all_goals first
     | ((first | (with_reducible apply Z.retF1)); (focus rfl); (repeat' (first | exact trivial | (with_reducible apply Z.frz_one) | (with_reducible apply Z.fq_bool) | exact rfl | apply And.intro)); (all_goals (try exact (fun _ => none))); all_goals (first | (simp; done)))
     | fail
   ·skip
    repeat' ((conv => whnf); first
     | (with_reducible refine spB_dec ?_ ?_ <;> intro _ <;> (try (exfalso; (first | (rename_i hz; simp at hz; done)))))
     | fail)
    all_goals (try (conv => whnf))
    all_goals try first | (show Nat.ble _ _ = true; rfl) | (exfalso; rename_i hz; cases hz; done) | (exfalso; (try simp only [LN] at *) <;> omega)
    all_goals first
     | ((first | (with_reducible apply Z.retF1)); (focus rfl); (repeat' (first | exact trivial | (with_reducible apply Z.frz_one) | (with_reducible apply Z.fq_bool) | exact rfl | apply And.intro)); (all_goals (try exact (fun _ => none))); all_goals (first | (simp; done)))
     | fail
  obtain ⟨hk2, hk8⟩ := hk2
  obtain ⟨y, hy⟩ := getElem?_some' (xs := rows) (i := k) hk2
  have hyB := hRB y (List.mem_of_getElem? hy)
  have hyl := hRl y (List.mem_of_getElem? hy)
  obtain ⟨m, hm⟩ : ∃ m : Nat, m = min y.length 6000 := ⟨_, rfl⟩
  have hml : m ≤ y.length := by omega
  have hBl : (y.take m).length ≤ 6000 := by rw [List.length_take]; omega
  have hYB : isB (y.take m) := isB_take hyB
  have cd := sdecode_con (y.take m) hYB (by omega)
  have crd := srdec_con (y.take m) hYB (by omega)
  obtain ⟨hd1, hd2⟩ := decS_lens hYB
  generalize decS (y.take m) = Gg at *
  obtain ⟨Y, e⟩ := Gg
  dsimp only at cd crd hd1 hd2
  have m1 := rsame_con Y Y (by omega) (by omega)
  rw [decide_eq_true (rfl : Y = Y)] at m1
  repeat' ((conv => whnf); first
   | ((with_reducible apply spB_cong); (focus (simp only [splQ, Int.reduceBEq, Int.reduceBNe]; rfl)))
   | with_reducible first | refine spB_no (by decide) ?_
   | (with_reducible refine spB_dec ?_ ?_ <;> intro _ <;> (try (exfalso; (first | (simp only [LN] at *; omega)))))
   | (with_reducible refine spB_beq ?_ ?_ <;> intro _ <;> (try (exfalso; (first | omega))))
   | with_reducible first | refine Z.rowN_known hy ?_
   | ((with_reducible refine slN_hi m ?_ ?_ ?_); (focus (rw [List.length_map]; omega)); (focus (rw [List.length_map]; omega)))
   | ((with_reducible refine apdE_n ?_); (with_reducible refine apdN.mk ?_ ?_ ?_ ?_ ?_ ?_); (focus (first | (simp; done))); (focus (exact one_cutB)); (focus (first | exact Nat.zero_le _)); (iterate 2 (focus ((try simp only [LN] at *) <;> omega))))
   | ((with_reducible apply ixN_litp); (focus rfl); (focus ((try simp only [LN] at *) <;> omega)))
   | with_reducible refine wr_i64 (by first | omega | (simp only [LN] at *; omega)) ?_
   | ((first | (with_reducible refine Z.callZ_mk ?_ (m1) ?_) | (with_reducible refine Z.callZ_mk ?_ (cd) ?_) | (with_reducible refine Z.callZ_mk ?_ (crd) ?_)); (focus ((repeat' (first | exact trivial | (refine low_byB (L := y.take m) rfl ?_ ?_; (focus (first | exact rd_by hml)); (focus ((try simp only [LN] at *) <;> omega))) | exact rfl | apply And.intro)); done)))
   | fail)
  all_goals (try (conv => whnf))
  all_goals try first | (show Nat.ble _ _ = true; rfl) | (exfalso; rename_i hz; cases hz; done) | (exfalso; (try simp only [LN] at *) <;> omega)
  all_goals first
   | ((refine Z.rndK ((k + 1)) (fun s => []) rfl rfl rfl rfl ?_ ?_ ?_ ?_); (focus (repeat' (first | exact trivial | exact rfl | apply And.intro))); (focus (repeat' (first | exact trivial))); (focus (((try dsimp only); omega))); ((try dsimp only); omega))
   | fail
end Go.Proofs.YtopieffkpdlpbaaGreat
namespace Go.Proofs.YtopieffkpdlpbaaGreat
open Go Go.RowKit Wx
set_option maxHeartbeats 4000000
def okKw (x : Tab.Kc) : Prop := (Lit.int .i64 x.src).wf = true ∧ (Lit.int .i64 x.key).wf = true ∧ (Lit.int .i64 x.cnt).wf = true ∧ (Lit.int .i64 x.sum).wf = true
theorem rowKc (row : List RT) (h : RowF (.st (.cons 3 1 (.int .i64) (.cons 3 1 (.int .i64) (.cons 53 2 (.st (.cons 2 1 (.int .i64) (.cons 2 1 (.int .i64) .nil))) .nil)))) row) : ∃ x, row = Tab.eK x ∧ okKw x := by
 obtain ⟨a0, r0, rfl, _, ⟨z0, rfl, w0⟩, a1, r1, rfl, _, ⟨z1, rfl, w1⟩, a2, r2, rfl, _, ⟨a3, r3, rfl, _, ⟨z2, rfl, w2⟩, a4, r4, rfl, _, ⟨z3, rfl, w3⟩, rfl⟩, rfl⟩ := h
 exact ⟨⟨z0, z1, z2, z3⟩, rfl, w0, w1, w2, w3⟩
def okNm (x : Nm) : Prop := (Lit.int .i64 x.s).wf = true ∧ (Lit.int .i64 x.a).wf = true ∧ (Lit.int .i64 x.n).wf = true
theorem rowNm (row : List RT) (h : RowF (.st (.cons 3 1 (.int .i64) (.cons 3 1 (.int .i64) (.cons 3 1 (.int .i64) .nil)))) row) : ∃ x, row = eN x ∧ okNm x := by
 obtain ⟨a0, r0, rfl, _, ⟨z0, rfl, w0⟩, a1, r1, rfl, _, ⟨z1, rfl, w1⟩, a2, r2, rfl, _, ⟨z2, rfl, w2⟩, rfl⟩ := h
 exact ⟨⟨z0, z1, z2⟩, rfl, w0, w1, w2⟩
theorem row_arr {rows : List (List RT)} (h : ∀ row ∈ rows, RowF (.int .i64) row ∧ row.length = 1) : ∃ zs : List Int, rows.flatten = zs.map (fun z => RT.v (.int .i64 z)) ∧ zs.length = rows.length ∧ ∀ z ∈ zs, (Lit.int .i64 z).wf = true := by
 induction rows with
 | nil => exact ⟨[], rfl, rfl, fun z h => nomatch h⟩
 | cons r rs ih =>
  obtain ⟨zs, e, l, w⟩ := ih fun row hr => h row (by simp [hr])
  obtain ⟨⟨z, rfl, w0⟩, _⟩ := h r (by simp)
  exact ⟨z :: zs, by simp [e], by simp [l], fun y hy => by
   rcases List.mem_cons.1 hy with rfl | h2
   ·exact w0
   ·exact w y h2⟩
theorem list8 {zs : List Int} (h : zs.length = 8) : ∃ p0 p1 p2 p3 p4 p5 p6 p7, zs = [p0, p1, p2, p3, p4, p5, p6, p7] := by
 match zs, h with
 | [p0, p1, p2, p3, p4, p5, p6, p7], _ => exact ⟨p0, p1, p2, p3, p4, p5, p6, p7, rfl⟩
def wI (z : Int) : Prop := (Lit.int .i64 z).wf = true
def okSn (x : Sn) : Prop := ((wI x.op ∧ wI x.ix ∧ wI x.w) ∧ (wI x.o0 ∧ wI x.o1 ∧ wI x.o2 ∧ wI x.o3 ∧ wI x.o4 ∧ wI x.o5 ∧ wI x.o6 ∧ wI x.o7)) ∧ (x.rows.length ≤ maxLen ∧ ∀ z ∈ x.rows, okKw z) ∧ x.txs.length ≤ maxLen ∧ ∀ z ∈ x.txs, okNm z
theorem rowSn (row : List RT) (h : RowF (.st (.cons 3 1 (.int .i64) (.cons 3 1 (.int .i64) (.cons 3 1 (.int .i64) (.cons 4 1 .bool (.cons 30 1 (.st (.cons 28 1 (.sl (.st (.cons 3 1 (.int .i64) (.cons 3 1 (.int .i64) (.cons 53 2 (.st (.cons 2 1 (.int .i64) (.cons 2 1 (.int .i64) .nil))) .nil)))) 55 4) .nil)) (.cons 32 8 (.arr 8 (.int .i64) 3 1) (.cons 33 1 (.sl (.st (.cons 3 1 (.int .i64) (.cons 3 1 (.int .i64) (.cons 3 1 (.int .i64) .nil)))) 74 3) .nil)))))))) row) : ∃ x, row = eSn x ∧ okSn x := by
 obtain ⟨a0, r0, rfl, _, ⟨z0, rfl, w0⟩, a1, r1, rfl, _, ⟨z1, rfl, w1⟩, a2, r2, rfl, _, ⟨z2, rfl, w2⟩, a3, r3, rfl, _, ⟨z3, rfl⟩, a4, r4, rfl, _, ⟨a5, r5, rfl, _, ⟨rows5, rfl, l5, h5⟩, rfl⟩, a6, r6, rfl, _, ⟨rows6, rfl, l6, h6⟩, a7, r7, rfl, _, ⟨rows7, rfl, l7, h7⟩, rfl⟩ := h
 obtain ⟨z5, rfl, k5⟩ := rows_map Tab.eK okKw rowKc rows5 h5
 obtain ⟨z7, rfl, k7⟩ := rows_map eN okNm rowNm rows7 h7
 obtain ⟨zs, e6, ln6, w6⟩ := row_arr h6
 obtain ⟨p0, p1, p2, p3, p4, p5, p6, p7, rfl⟩ := list8 (ln6.trans l6)
 rw [e6]
 exact ⟨⟨z0, z1, z2, z3, z5, p0, p1, p2, p3, p4, p5, p6, p7, z7⟩, rfl, ⟨⟨w0, w1, w2⟩, w6 p0 (by simp), w6 p1 (by simp), w6 p2 (by simp), w6 p3 (by simp), w6 p4 (by simp), w6 p5 (by simp), w6 p6 (by simp), w6 p7 (by simp)⟩, ⟨by simpa using l5, k5⟩, by simpa using l7, k7⟩
end Go.Proofs.YtopieffkpdlpbaaGreat
namespace Go.Proofs.YtopieffkpdlpbaaGreat
open Go Go.RowKit Wx
set_option maxHeartbeats 4000000
open Tab
theorem wf8 {z : Int} (h : (Lit.int .u8 z).wf = true) : 0 ≤ z ∧ z ≤ 255 := by
 simp [Lit.wf, IntKind.min, IntKind.max, IntKind.signed, IntKind.bits] at h; omega
structure By where
 b : List Int
abbrev eBy (x : By) : List RT := [RT.ro 1 (x.b.map eB)]
def okBy (x : By) : Prop := x.b.length ≤ maxLen ∧ ∀ z ∈ x.b, (Lit.int .u8 z).wf = true
theorem rowBy1 (row : List RT) (h : RowF (.int .u8) row) : ∃ z, row = eB z ∧ (Lit.int .u8 z).wf = true := by
 obtain ⟨z, rfl, w⟩ := h
 exact ⟨z, rfl, w⟩
theorem rowBy (row : List RT) (h : RowF (.sl (.int .u8) 5 1) row) : ∃ x, row = eBy x ∧ okBy x := by
 obtain ⟨rows0, rfl, l0, h0⟩ := h
 obtain ⟨z0, rfl, k0⟩ := rows_map eB (fun z => (Lit.int .u8 z).wf = true) rowBy1 rows0 h0
 exact ⟨⟨z0⟩, rfl, by simpa using l0, k0⟩
namespace snapBytes
theorem main (avs : List A0) (h : All2 FitA [(.sl (.st (.cons 3 1 (.int .i64) (.cons 3 1 (.int .i64) (.cons 3 1 (.int .i64) (.cons 4 1 .bool (.cons 30 1 (.st (.cons 28 1 (.sl (.st (.cons 3 1 (.int .i64) (.cons 3 1 (.int .i64) (.cons 53 2 (.st (.cons 2 1 (.int .i64) (.cons 2 1 (.int .i64) .nil))) .nil)))) 55 4) .nil)) (.cons 32 8 (.arr 8 (.int .i64) 3 1) (.cons 33 1 (.sl (.st (.cons 3 1 (.int .i64) (.cons 3 1 (.int .i64) (.cons 3 1 (.int .i64) .nil)))) 74 3) .nil)))))))) 35 14), (.sl (.sl (.int .u8) 5 1) 44 1)] avs) : Con Tryz.prog 4 avs (fun x K t => x = .val (.bool true) ∧ K = [] ∧ t = 0) := by
 obtain ⟨x0, x1, rfl, h0, h1⟩ : ∃ x0 x1, avs = [x0, x1] ∧ FitA (.sl (.st (.cons 3 1 (.int .i64) (.cons 3 1 (.int .i64) (.cons 3 1 (.int .i64) (.cons 4 1 .bool (.cons 30 1 (.st (.cons 28 1 (.sl (.st (.cons 3 1 (.int .i64) (.cons 3 1 (.int .i64) (.cons 53 2 (.st (.cons 2 1 (.int .i64) (.cons 2 1 (.int .i64) .nil))) .nil)))) 55 4) .nil)) (.cons 32 8 (.arr 8 (.int .i64) 3 1) (.cons 33 1 (.sl (.st (.cons 3 1 (.int .i64) (.cons 3 1 (.int .i64) (.cons 3 1 (.int .i64) .nil)))) 74 3) .nil)))))))) 35 14) x0 ∧ FitA (.sl (.sl (.int .u8) 5 1) 44 1) x1 := by
  cases avs with
  | nil => exact h.elim
  | cons x0 r => cases r with
   | nil => exact h.2.elim
   | cons x1 r => cases r with
    | nil => exact ⟨x0, x1, rfl, h.1, h.2.1⟩
    | cons => exact h.2.2.elim
 clear h
 obtain ⟨r0, ⟨rows0, hr0, ll, hrows0⟩, rfl⟩ := h0
 simp only [List.cons.injEq, and_true] at hr0
 subst hr0
 obtain ⟨l, rfl, kl⟩ := rows_map eSn (okSn) rowSn rows0 hrows0
 rw [List.length_map] at ll
 obtain ⟨r1, ⟨rows1, hr1, lrows, hrows1⟩, rfl⟩ := h1
 simp only [List.cons.injEq, and_true] at hr1
 subst hr1
 obtain ⟨rows, rfl, krows⟩ := rows_map eBy (okBy) rowBy rows1 hrows1
 rw [List.length_map] at lrows
 have hN : rows.map eBy = (rows.map By.b).map fun x => [RT.ro 1 (x.map eB)] := by rw [List.map_map]; rfl
 rw [hN]
 exact snapbytes_con l (rows.map By.b) (by simpa [maxLen] using ll) (fun y hy => ⟨by have := (kl y hy).2.1.1; simpa [maxLen] using this, by have := (kl y hy).2.2.1; simpa [maxLen] using this⟩) (by rw [List.length_map]; simpa [maxLen] using lrows) (fun x hx => by obtain ⟨y, hy, rfl⟩ := List.mem_map.1 hx; exact fun z hz => wf8 ((krows y hy).2 z hz)) (fun x hx => by obtain ⟨y, hy, rfl⟩ := List.mem_map.1 hx; have := (krows y hy).1; simpa [maxLen] using this)
end snapBytes
end Go.Proofs.YtopieffkpdlpbaaGreat
