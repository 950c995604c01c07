import Derived.Test.YtopieffkpdlpbaaOwn8d
import Derived.Test.YtopieffkpdlpbaaOwn6
import Derived.Test.YtopieffkpdlpbaaLib5
import Derived.Test.YtopieffkpdlpbaaRows
set_option linter.unusedVariables false
set_option linter.unusedSimpArgs false
namespace Go.Proofs.Ytopieffkpdlpbaa
open Go Go.RowKit Wx
set_option maxHeartbeats 4000000
namespace Tab
theorem enc_rows {E C : List Int} {a b : Int} {fl : Bool} {S : List (List Ce)} (hS : S = [cB a, cB b]) : List.take (E.length + 2) (List.take E.length (E.map cB) ++ S) ++ (C.map eB).map (List.map (RT.ce fl)) = (E ++ [a, b] ++ C).map cB := by
 subst hS
 rw [ce_cB, List.take_of_length_le (l := E.map cB) (by simp), List.take_of_length_le (by simp), List.map_append, List.map_append]
 rfl
theorem encode_con (l : List Kc) (hl : l.length ≤ 9223372036854775807) : Con Try.prog 52 [.agg [.ro false 4 (l.map eK)]] (fun rx rK rt => rx = .tup [.one (.ro true 1 ((encTR l).1.map eB)), .one (.v (.int .i64 (encTR l).2))] ∧ rK = [] ∧ rt = 0) := by
 refine Z.con_ofF tabOk 50 Try.f52 _ Try.func52 (by kernel_rfl) rfl rfl rfl rfl ?_
 have cc := check_con l hl
 cases hok : tabR l
 ·rw [hok] at cc
  have e1 : encTR l = ([], 220) := by unfold encTR; rw [hok]; rfl
  rw [e1]
  simp only [cond_false] at cc
  repeat' ((conv => whnf); first
   | with_reducible first | refine spB_t ?_
   | ((with_reducible apply spB_cong); (focus (simp only [splQ, Int.reduceBEq, Int.reduceBNe]; rfl)))
   | ((first | (with_reducible refine Z.callZ_mk ?_ (cc) ?_)); (focus ((repeat' (first | exact trivial | exact rfl | apply And.intro)); done)))
   | fail)
  all_goals (try (conv => whnf))
  all_goals try first | (show Nat.ble _ _ = true; rfl) | (exfalso; rename_i hz; cases hz; done) | (exfalso; (try simp only [LN] at *) <;> omega)
  all_goals first
   | ((first | (with_reducible apply Z.retF2)); (focus rfl); (repeat' (first | exact trivial | (with_reducible apply Z.frz_one) | (exact Z.frz_nil) | exact rfl | apply And.intro)); (all_goals (try exact (fun _ => none))); all_goals (first | (simp; done)))
   | fail
 rw [hok] at cc
 have e1 : encTR l = (encT l, 0) := by unfold encTR; rw [hok]; rfl
 rw [e1]
 simp only [cond_true] at cc
 have hl256 := tab_len hok
 have hwl : 0 ≤ IntKind.u16.wrap (l.length : Int) ∧ IntKind.u16.wrap (l.length : Int) < 65536 := by rw [u16_in (by omega)]; omega
 have cp0 := putO16_con [] (IntKind.u16.wrap (l.length : Int)) (by simp) hwl
 rw [List.nil_append] at cp0
 repeat' ((conv => whnf); first
  | ((with_reducible apply spB_cong); (focus (simp only [splQ, Int.reduceBEq, Int.reduceBNe]; rfl)))
  | with_reducible first | refine spB_no (by decide) ?_
  | ((with_reducible refine wr_mk (IntKind.u16.wrap (l.length : Int)) (by rw [List.length_map]) ?_))
  | ((first | (with_reducible refine Z.callZ_mk ?_ (cc) ?_) | (with_reducible refine Z.callZ_mk ?_ (cp0) ?_)); (focus ((repeat' (first | exact trivial | exact rfl | exact Z.low_nil2 | apply And.intro)); done)))
  | fail)
 all_goals (try (conv => whnf))
 all_goals try first | (show Nat.ble _ _ = true; rfl) | (exfalso; rename_i hz; cases hz; done) | (exfalso; (try simp only [LN] at *) <;> omega)
 refine Z.loopK tabOk (fun zq : Nat => [(22, .val (.int .i64 (zq : Int))), (5, .c (.osl 1 0 (be 2 (IntKind.u16.wrap (l.length : Int)) ++ (l.take zq).flatMap encK).length none))]) (fun zq : Nat => ([(0, some (Z.Ob.b ⟨[[.ro false 4 (l.map eK)]], 1, 28, true⟩)), (1, some (Z.Ob.b ⟨(be 2 (IntKind.u16.wrap (l.length : Int)) ++ (l.take zq).flatMap encK).map cB, 1, 5, false⟩))] : Z.Kr)) (fun zq => zq ≤ l.length) (fun zq => l.length - zq) 0 2 [(20, _), (21, _)] ⟨rfl, rfl, trivial⟩ [] trivial ?_ ?_ rfl rfl (Nat.zero_le _) ?_
 ·repeat' (first | exact trivial | apply And.intro | exact ⟨_, rfl, Z.Imp.refl _⟩ | exact ⟨_, rfl, Z.Imp.oslcn (by simp [be_len])⟩)
 ·repeat' (first | exact trivial | exact (fun b hb => ⟨b, hb, Z.ImpO.refl b⟩) | apply And.intro)
 rintro k HINV
 (try dsimp only at HINV); (try dsimp only)
 have hEl : (be 2 (IntKind.u16.wrap (l.length : Int)) ++ (l.take k).flatMap encK).length ≤ 2 + 18 * l.length := by rw [List.length_append, be_len, encKs_len, List.length_take]; omega
 by_cases hi : k < l.length
 ·obtain ⟨x, hx⟩ := getElem?_some' (xs := l) (i := k) hi
  have hsn : (be 2 (IntKind.u16.wrap (l.length : Int)) ++ (l.take (k + 1)).flatMap encK) = (be 2 (IntKind.u16.wrap (l.length : Int)) ++ (l.take k).flatMap encK) ++ [x.src % 256, x.key % 256] ++ (be 8 (IntKind.u64.wrap x.cnt) ++ be 8 (IntKind.u64.wrap x.sum)) := by rw [encKs_snoc hx, encK]; simp only [List.append_assoc]
  generalize hE : (be 2 (IntKind.u16.wrap (l.length : Int)) ++ (l.take k).flatMap encK) = E at *
  have cp1 := put64_con [] (IntKind.u64.wrap x.cnt) (by simp) (u64_rng _)
  rw [List.nil_append] at cp1
  have cp2 := put64_con (be 8 (IntKind.u64.wrap x.cnt)) (IntKind.u64.wrap x.sum) (by simp [be_len]) (u64_rng _)
  have hcl : (be 8 (IntKind.u64.wrap x.cnt) ++ be 8 (IntKind.u64.wrap x.sum)).length = 16 := by simp [be_len]
  generalize hC : be 8 (IntKind.u64.wrap x.cnt) ++ be 8 (IntKind.u64.wrap x.sum) = C at *
  have hsl : E.length + 2 + (List.map eB C).length = (be 2 (IntKind.u16.wrap (l.length : Int)) ++ (l.take (k + 1)).flatMap encK).length := by rw [hsn]; simp only [List.length_append, List.length_map, List.length_cons, List.length_nil]
  repeat' ((conv => whnf); first
   | (with_reducible refine spB_dec ?_ ?_ <;> intro _ <;> (try (exfalso; first | contradiction | omega | (rename_i hz; refine hz ?_; simp; done) | (rename_i hz; simp at hz; done) | (simp only [LN] at *; omega))))
   | with_reducible first | refine Z.rowN_known hx ?_
   | ((with_reducible refine apdE_n ?_); (with_reducible refine apdN.mk ?_ ?_ ?_ ?_ ?_ ?_); (focus (simp; done)); (focus (exact one_map2 (fun _ => rfl))); (focus (show _ ≤ (List.take E.length (List.map cB E) ++ _).length; rw [List.length_append, List.length_take, List.length_map, Nat.min_self]; exact Nat.le_refl _)); (iterate 2 (focus ((try simp only [LN] at *) <;> omega))))
   | ((with_reducible refine apdE_n ?_); (with_reducible refine apdN.mk ?_ ?_ ?_ ?_ ?_ ?_); (focus rfl); (focus (exact one_all (by rfl))); (focus (first | ((try simp only [LN] at *) <;> omega))); (iterate 2 (focus ((try simp only [LN] at *) <;> omega))))
   | with_reducible first | refine wr_mod8 ?_
   | ((with_reducible refine wr_mk (IntKind.u64.wrap x.cnt) rfl ?_))
   | ((with_reducible refine wr_mk (IntKind.u64.wrap x.sum) rfl ?_))
   | ((with_reducible apply ixN_litp); (focus rfl); (focus ((try simp only [LN] at *) <;> omega)))
   | with_reducible refine wr_i64 (by first | omega | (simp only [LN] at *; omega)) ?_
   | ((first | (with_reducible refine Z.conZ_mz ?_ (cp1) ?_)); (focus ((repeat' (first | exact trivial | exact rfl | exact Z.low_nil2 | apply And.intro)); done)))
   | ((first | (with_reducible refine Z.conZ_mz ?_ (cp2) ?_)); (focus ((repeat' (first | exact trivial | exact rfl | apply And.intro)); done)))
   | with_reducible first | refine Z.drawZ_rule tabOk mixOk ?_ | refine Z.apZ_mk (by kernel_rfl) ?_
   | fail)
  all_goals (try (conv => whnf))
  all_goals try first | (show Nat.ble _ _ = true; rfl) | (exfalso; rename_i hz; cases hz; done) | (exfalso; (try simp only [LN] at *) <;> omega)
  all_goals first
   | ((refine Z.rndK ((k + 1)) (fun s => [0, s.idAt 5]) rfl rfl rfl rfl ?_ ?_ ?_ ?_); (focus (repeat' (first | exact trivial | exact congrArg (fun n => some (AV.c (Ce.osl _ 0 n none))) hsl | exact rfl | apply And.intro))); (focus (repeat' (first | exact trivial | exact Z.blk_sub rfl ((enc_rows (E := E) (C := C) (a := x.src % 256) (b := x.key % 256) rfl).trans (congrArg (List.map cB) hsn.symm)) (ren_map fun _ => rfl) | (intro b hb; cases hb; rfl) | apply And.intro))); (focus ((try dsimp only); omega)); ((try dsimp only); omega))
   | fail
 have hil : k = l.length := by omega
 subst hil
 rw [List.take_length]
 rw [show be 2 (IntKind.u16.wrap (l.length : Int)) ++ l.flatMap encK = encT l from rfl] at *
 repeat' ((conv => whnf); first
  | (with_reducible refine spB_dec ?_ ?_ <;> intro _ <;> (try (exfalso; first | contradiction | omega | (rename_i hz; refine hz ?_; simp; done) | (rename_i hz; simp at hz; done) | (simp only [LN] at *; omega))))
  | fail)
 all_goals (try (conv => whnf))
 all_goals try first | (show Nat.ble _ _ = true; rfl) | (exfalso; rename_i hz; cases hz; done) | (exfalso; (try simp only [LN] at *) <;> omega)
 all_goals first
  | ((first | (with_reducible apply Z.retF2)); (focus rfl); (repeat' (first | exact trivial | (with_reducible apply Z.frz_one) | (with_reducible apply Z.fq_int) | ((with_reducible apply Z.fq_osl); (focus rfl); (focus (first | exact rfl)); (focus (exact fun _ => rfl))) | exact rfl | apply And.intro)); (all_goals (try exact (fun _ => none))); all_goals (rfl))
  | fail
end Tab
end Go.Proofs.Ytopieffkpdlpbaa
namespace Go.Proofs.Ytopieffkpdlpbaa
open Go Go.RowKit Wx
set_option maxHeartbeats 4000000
open Tab
theorem low_bb {K : Nat → Option Blk} {i n : Nat} {c : Option Nat} {L : List Int} {R : List (List Ce)} (h : K i = some ⟨R, 1, 5, false⟩) (hR : R = L.map cB) (hn : n = L.length) : lowV K (.pl (.one (.osl i 0 n c))) (.one (.ro false 1 (L.map eB))) := by
 show lowC K (.osl i 0 n c) (.ro false 1 (L.map eB))
 subst hR hn
 simp only [lowC, h]
 exact ⟨_, rfl, by simp, by rw [List.drop_zero, List.take_of_length_le (by simp), List.map_map, List.map_map]; exact List.map_congr_left fun x _ => rfl⟩
theorem rnd_sl {m : Nat} {α : Type} {G : α → Z.S} {Inv : α → Prop} {μ : α → Nat} {p : α} {s : Z.S} (ti : Nat) {x : AV} (y : AV) (hm : Nat.ble m s.top = true) (hg : Wx.get s.F ti = some x) (hi : Z.ImpV x y) (k : Z.rndZ m G Inv μ p ⟨(ti, y) :: s.F, s.K, s.top⟩) : Z.rndZ m G Inv μ p s :=
 Z.rndZ_stp (Z.imp_stp s ⟨(ti, y) :: s.F, s.K, s.top⟩ (fun t z hz => by
  have hz' : Wx.get ((ti, y) :: s.F) t = some z := hz
  simp only [Wx.get] at hz'
  cases hb : Nat.beq ti t with
  | true =>
   rw [hb] at hz'
   simp only [Option.some.injEq] at hz'
   subst hz'
   rw [← Nat.eq_of_beq_eq_true hb]
   exact ⟨_, hg, hi⟩
  | false => rw [hb] at hz'; exact ⟨z, hz', Z.ImpV.refl z⟩) (fun j b hb => ⟨b, hb, Z.ImpO.refl b⟩) (Nat.le_refl _) (Nat.le_of_ble_eq_true hm)) k
theorem rnd_cap {m : Nat} {α : Type} {G : α → Z.S} {Inv : α → Prop} {μ : α → Nat} {p : α} {s : Z.S} (ti : Nat) {i q n : Nat} {c : Option Nat} (n' : Nat) (hm : Nat.ble m s.top = true) (hg : Wx.get s.F ti = some (.c (.osl i q n c))) (hn : n = n') (k : Z.rndZ m G Inv μ p ⟨(ti, .c (.osl i q n' none)) :: s.F, s.K, s.top⟩) : Z.rndZ m G Inv μ p s := rnd_sl ti (.c (.osl i q n' none)) hm hg (show Z.Imp (.osl i q n c) (.osl i q n' none) from Z.Imp.oslcn hn) k
theorem flag_con (b : Bool)  : Con Try.prog 53 [.one (.v (.bool b))] (fun rx rK rt => rx = .val (.int .u8 (bif b then 1 else 0)) ∧ rK = [] ∧ rt = 0) := by
 refine Z.con_ofF tabOk 4 Try.f53 _ Try.func53 (by kernel_rfl) rfl rfl rfl rfl ?_
 cases b
 all_goals (
  repeat' ((conv => whnf); first
   | with_reducible first | refine spB_t ?_
   | with_reducible first | refine spB_no (by decide) ?_
   | fail)
  all_goals (try (conv => whnf)))
 all_goals try first | (show Nat.ble _ _ = true; rfl) | (exfalso; rename_i hz; cases hz; done) | (exfalso; (try simp only [LN] at *) <;> omega)
 all_goals first
  | ((first | (with_reducible apply Z.retF1)); (focus rfl); (repeat' (first | exact trivial | (with_reducible apply Z.frz_one) | (with_reducible apply Z.fq_int) | exact rfl | apply And.intro)); (all_goals (try exact (fun _ => none))); all_goals (rfl))
  | fail
theorem sencode_con (x : Sn) (hr : x.rows.length ≤ 1000) (ht : x.txs.length ≤ 1000) : Con Try.prog 23 [.agg [.v (.int .i64 x.op), .v (.int .i64 x.ix), .v (.int .i64 x.w), .v (.bool x.en), .ro false 4 (x.rows.map Tab.eK), .v (.int .i64 x.o0), .v (.int .i64 x.o1), .v (.int .i64 x.o2), .v (.int .i64 x.o3), .v (.int .i64 x.o4), .v (.int .i64 x.o5), .v (.int .i64 x.o6), .v (.int .i64 x.o7), .ro false 3 (x.txs.map eN)]] (fun rx rK rt => rx = .tup [.one (.ro true 1 ((encSR x).1.map eB)), .one (.v (.int .i64 (encSR x).2))] ∧ rK = [] ∧ rt = 0) := by
 refine Z.con_ofF tabOk 80 Try.f23 _ Try.func23 (by kernel_rfl) rfl rfl rfl rfl ?_
 have ck := scheck_con x (by omega) (by omega)
 cases hs : snapR x
 ·rw [hs] at ck
  have e1 : encSR x = ([], 280) := by unfold encSR; rw [hs]; rfl
  rw [e1]
  simp only [cond_false] at ck
  repeat' ((conv => whnf); first
   | with_reducible first | refine spB_t ?_
   | ((with_reducible apply spB_cong); (focus (simp only [splQ, Int.reduceBEq, Int.reduceBNe]; rfl)))
   | ((first | (with_reducible refine Z.callZ_mk ?_ (ck) ?_)); (focus ((repeat' (first | exact trivial | exact rfl | apply And.intro)); done)))
   | fail)
  all_goals (try (conv => whnf))
  all_goals try first | (show Nat.ble _ _ = true; rfl) | (exfalso; rename_i hz; cases hz; done) | (exfalso; (try simp only [LN] at *) <;> omega)
  all_goals first
   | ((first | (with_reducible apply Z.retF2)); (focus rfl); (repeat' (first | exact trivial | (with_reducible apply Z.frz_one) | (exact Z.frz_nil) | exact rfl | apply And.intro)); (all_goals (try exact (fun _ => none))); all_goals (first | (simp; done)))
   | fail
 rw [hs] at ck
 have e1 : encSR x = (encS x, 0) := by unfold encSR; rw [hs]; rfl
 rw [e1]
 clear e1
 simp only [cond_true] at ck
 obtain ⟨⟨f1, f2, f3⟩, f4, f5, f6, f7⟩ := snapR_all hs
 obtain ⟨op, ix, w, en, rows, o0, o1, o2, o3, o4, o5, o6, o7, txs⟩ := x
 dsimp only at *
 obtain ⟨r0, r1, r2, r3, r4, r5, r6, r7⟩ := f4
 have ht5 := tab_len f5
 have hel := encT_len rows
 have ce := encode_con rows (by omega)
 rw [show encTR rows = (encT rows, 0) by unfold encTR; rw [f5]; rfl] at ce
 dsimp only at ce
 obtain ⟨e9, he9⟩ : ∃ e9 : Int, e9 = bif en then 1 else 0 := ⟨_, rfl⟩
 rw [show (encS ⟨op, ix, w, en, rows, o0, o1, o2, o3, o4, o5, o6, o7, txs⟩) = ([op, ix, w, e9] ++ encT rows ++ [o0, o1, o2, o3, o4, o5, o6, o7] ++ [(txs.length : Int)]) ++ txs.flatMap encN by rw [he9]; unfold encS; simp]
 generalize encT rows = E at *
 have cf := flag_con en
 rw [← he9] at cf
 have hb0 : ([op, ix, w, e9] ++ E).length = 4 + E.length := by simp; omega
 repeat' ((conv => whnf); first
  | ((with_reducible apply spB_cong); (focus (simp only [splQ, Int.reduceBEq, Int.reduceBNe]; rfl)))
  | with_reducible first | refine spB_no (by decide) ?_
  | ((with_reducible refine apdE_n ?_); (with_reducible refine apdN.mk ?_ ?_ ?_ ?_ ?_ ?_); (focus (first | (simp; done))); (focus (first | exact one_map2 (fun _ => rfl))); (focus (first | exact Nat.le_refl _)); (iterate 2 (focus ((try simp only [LN] at *) <;> omega))))
  | with_reducible refine wr_u8 (by omega) ?_
  | ((first | (with_reducible refine Z.callZ_mk ?_ (ck) ?_) | (with_reducible refine Z.callZ_mk ?_ (ce) ?_) | (with_reducible refine Z.conZ_mz ?_ (cf) ?_)); (focus ((repeat' (first | exact trivial | exact rfl | apply And.intro)); done)))
  | with_reducible first | refine Z.drawZ_rule tabOk mixOk ?_ | refine Z.apZ_mk (by kernel_rfl) ?_
  | fail)
 all_goals (try (conv => whnf))
 all_goals try first | (show Nat.ble _ _ = true; rfl) | (exfalso; rename_i hz; cases hz; done) | (exfalso; (try simp only [LN] at *) <;> omega)
 obtain ⟨B0, hB0⟩ : ∃ B0, B0 = [op, ix, w, e9] ++ E := ⟨_, rfl⟩
 refine Z.loopK tabOk (fun zq : Nat => [(40, .val (.int .i64 (zq : Int))), (7, .c (.osl 2 0 (B0 ++ [o0, o1, o2, o3, o4, o5, o6, o7].take zq).length none))]) (fun zq : Nat => ([(2, some (Z.Ob.b ⟨(B0 ++ [o0, o1, o2, o3, o4, o5, o6, o7].take zq).map cB, 1, 5, false⟩))] : Z.Kr)) (fun zq => zq ≤ 8) (fun zq => 8 - zq) 0 3 [(1, _), (39, _)] ⟨rfl, rfl, trivial⟩ [(0, some _)] ⟨rfl, trivial⟩ ?_ ?_ rfl rfl (Nat.zero_le _) ?_
 ·repeat' (first | exact trivial | apply And.intro | exact ⟨_, rfl, Z.Imp.refl _⟩ | exact ⟨_, rfl, oslE (by rw [hB0, List.take_zero, List.append_nil, List.length_append, List.length_map] <;> rfl)⟩)
 ·repeat' (first | exact trivial | (intro b hb; cases hb; refine ⟨_, rfl, ⟨rfl, rfl, rfl⟩, Z.imp_eq ?_⟩; first | rfl | (rw [List.take_zero, List.append_nil, hB0]; exact tkS rfl ce_cB rfl); done) | apply And.intro)
 rintro k HINV
 (try dsimp only at HINV); (try dsimp only)
 by_cases hk8 : k < 8
 ·have hk9 : k = 0 ∨ k = 1 ∨ k = 2 ∨ k = 3 ∨ k = 4 ∨ k = 5 ∨ k = 6 ∨ k = 7 := by omega
  clear hk8
  have hBl : B0.length = 4 + E.length := by rw [hB0]; exact hb0
  rcases hk9 with rfl | rfl | rfl | rfl | rfl | rfl | rfl | rfl
  ·skip
   repeat' ((conv => whnf); first
    | with_reducible first | refine spB_yes (by decide) ?_
    | ((with_reducible refine apdE_n ?_); (with_reducible refine apdN.mk ?_ ?_ ?_ ?_ ?_ ?_); (focus (first | rfl)); (focus (first | exact one_all (by rfl))); (focus (first | ((try dsimp only); simp only [List.length_append, List.length_take, List.length_map, List.length_cons, List.length_nil, List.length_range, List.length_drop, List.length_singleton]; omega))); (iterate 2 (focus ((try simp only [LN] at *) <;> omega))))
    | ((with_reducible apply ixN_lit); (focus rfl); (focus rfl))
    | with_reducible refine wr_i64 (by first | omega | (simp only [LN] at *; omega)) ?_
    | with_reducible refine wr_u8 (by omega) ?_
    | fail)
   all_goals (try (conv => whnf))
   all_goals try first | (show Nat.ble _ _ = true; rfl) | (exfalso; rename_i hz; cases hz; done) | (exfalso; (try simp only [LN] at *) <;> omega)
   all_goals first
    | ((refine Z.rndK (1) (fun s => [0, 1, s.idAt 7]) rfl rfl rfl rfl ?_ ?_ ?_ ?_); (focus (repeat' (first | exact trivial | exact oslF (by simp only [List.length_append, List.length_take, List.length_cons, List.length_nil]; omega) | exact rfl | apply And.intro))); (focus (repeat' (first | exact trivial | exact Z.blk_sub rfl (tkT rfl rfl rfl) (ren_map fun _ => rfl) | (intro b hb; cases hb; rfl) | apply And.intro))); (focus ((first | exact Nat.le_of_ble_eq_true rfl))); (first | exact Nat.le_of_ble_eq_true rfl))
    | fail
  ·skip
   repeat' ((conv => whnf); first
    | with_reducible first | refine spB_yes (by decide) ?_
    | ((with_reducible refine apdE_n ?_); (with_reducible refine apdN.mk ?_ ?_ ?_ ?_ ?_ ?_); (focus (first | rfl)); (focus (first | exact one_all (by rfl))); (focus (first | ((try dsimp only); simp only [List.length_append, List.length_take, List.length_map, List.length_cons, List.length_nil, List.length_range, List.length_drop, List.length_singleton]; omega))); (iterate 2 (focus ((try simp only [LN] at *) <;> omega))))
    | ((with_reducible apply ixN_lit); (focus rfl); (focus rfl))
    | with_reducible refine wr_i64 (by first | omega | (simp only [LN] at *; omega)) ?_
    | with_reducible refine wr_u8 (by omega) ?_
    | fail)
   all_goals (try (conv => whnf))
   all_goals try first | (show Nat.ble _ _ = true; rfl) | (exfalso; rename_i hz; cases hz; done) | (exfalso; (try simp only [LN] at *) <;> omega)
   all_goals first
    | ((refine Z.rndK (2) (fun s => [0, 1, s.idAt 7]) rfl rfl rfl rfl ?_ ?_ ?_ ?_); (focus (repeat' (first | exact trivial | exact oslF (by simp only [List.length_append, List.length_take, List.length_cons, List.length_nil]; omega) | exact rfl | apply And.intro))); (focus (repeat' (first | exact trivial | exact Z.blk_sub rfl (tkT rfl rfl rfl) (ren_map fun _ => rfl) | (intro b hb; cases hb; rfl) | apply And.intro))); (focus ((first | exact Nat.le_of_ble_eq_true rfl))); (first | exact Nat.le_of_ble_eq_true rfl))
    | fail
  ·skip
   repeat' ((conv => whnf); first
    | with_reducible first | refine spB_yes (by decide) ?_
    | ((with_reducible refine apdE_n ?_); (with_reducible refine apdN.mk ?_ ?_ ?_ ?_ ?_ ?_); (focus (first | rfl)); (focus (first | exact one_all (by rfl))); (focus (first | ((try dsimp only); simp only [List.length_append, List.length_take, List.length_map, List.length_cons, List.length_nil, List.length_range, List.length_drop, List.length_singleton]; omega))); (iterate 2 (focus ((try simp only [LN] at *) <;> omega))))
    | ((with_reducible apply ixN_lit); (focus rfl); (focus rfl))
    | with_reducible refine wr_i64 (by first | omega | (simp only [LN] at *; omega)) ?_
    | with_reducible refine wr_u8 (by omega) ?_
    | fail)
   all_goals (try (conv => whnf))
   all_goals try first | (show Nat.ble _ _ = true; rfl) | (exfalso; rename_i hz; cases hz; done) | (exfalso; (try simp only [LN] at *) <;> omega)
   all_goals first
    | ((refine Z.rndK (3) (fun s => [0, 1, s.idAt 7]) rfl rfl rfl rfl ?_ ?_ ?_ ?_); (focus (repeat' (first | exact trivial | exact oslF (by simp only [List.length_append, List.length_take, List.length_cons, List.length_nil]; omega) | exact rfl | apply And.intro))); (focus (repeat' (first | exact trivial | exact Z.blk_sub rfl (tkT rfl rfl rfl) (ren_map fun _ => rfl) | (intro b hb; cases hb; rfl) | apply And.intro))); (focus ((first | exact Nat.le_of_ble_eq_true rfl))); (first | exact Nat.le_of_ble_eq_true rfl))
    | fail
  ·skip
   repeat' ((conv => whnf); first
    | with_reducible first | refine spB_yes (by decide) ?_
    | ((with_reducible refine apdE_n ?_); (with_reducible refine apdN.mk ?_ ?_ ?_ ?_ ?_ ?_); (focus (first | rfl)); (focus (first | exact one_all (by rfl))); (focus (first | ((try dsimp only); simp only [List.length_append, List.length_take, List.length_map, List.length_cons, List.length_nil, List.length_range, List.length_drop, List.length_singleton]; omega))); (iterate 2 (focus ((try simp only [LN] at *) <;> omega))))
    | ((with_reducible apply ixN_lit); (focus rfl); (focus rfl))
    | with_reducible refine wr_i64 (by first | omega | (simp only [LN] at *; omega)) ?_
    | with_reducible refine wr_u8 (by omega) ?_
    | fail)
   all_goals (try (conv => whnf))
   all_goals try first | (show Nat.ble _ _ = true; rfl) | (exfalso; rename_i hz; cases hz; done) | (exfalso; (try simp only [LN] at *) <;> omega)
   all_goals first
    | ((refine Z.rndK (4) (fun s => [0, 1, s.idAt 7]) rfl rfl rfl rfl ?_ ?_ ?_ ?_); (focus (repeat' (first | exact trivial | exact oslF (by simp only [List.length_append, List.length_take, List.length_cons, List.length_nil]; omega) | exact rfl | apply And.intro))); (focus (repeat' (first | exact trivial | exact Z.blk_sub rfl (tkT rfl rfl rfl) (ren_map fun _ => rfl) | (intro b hb; cases hb; rfl) | apply And.intro))); (focus ((first | exact Nat.le_of_ble_eq_true rfl))); (first | exact Nat.le_of_ble_eq_true rfl))
    | fail
  ·skip
   repeat' ((conv => whnf); first
    | with_reducible first | refine spB_yes (by decide) ?_
    | ((with_reducible refine apdE_n ?_); (with_reducible refine apdN.mk ?_ ?_ ?_ ?_ ?_ ?_); (focus (first | rfl)); (focus (first | exact one_all (by rfl))); (focus (first | ((try dsimp only); simp only [List.length_append, List.length_take, List.length_map, List.length_cons, List.length_nil, List.length_range, List.length_drop, List.length_singleton]; omega))); (iterate 2 (focus ((try simp only [LN] at *) <;> omega))))
    | ((with_reducible apply ixN_lit); (focus rfl); (focus rfl))
    | with_reducible refine wr_i64 (by first | omega | (simp only [LN] at *; omega)) ?_
    | with_reducible refine wr_u8 (by omega) ?_
    | fail)
   all_goals (try (conv => whnf))
   all_goals try first | (show Nat.ble _ _ = true; rfl) | (exfalso; rename_i hz; cases hz; done) | (exfalso; (try simp only [LN] at *) <;> omega)
   all_goals first
    | ((refine Z.rndK (5) (fun s => [0, 1, s.idAt 7]) rfl rfl rfl rfl ?_ ?_ ?_ ?_); (focus (repeat' (first | exact trivial | exact oslF (by simp only [List.length_append, List.length_take, List.length_cons, List.length_nil]; omega) | exact rfl | apply And.intro))); (focus (repeat' (first | exact trivial | exact Z.blk_sub rfl (tkT rfl rfl rfl) (ren_map fun _ => rfl) | (intro b hb; cases hb; rfl) | apply And.intro))); (focus ((first | exact Nat.le_of_ble_eq_true rfl))); (first | exact Nat.le_of_ble_eq_true rfl))
    | fail
  ·skip
   repeat' ((conv => whnf); first
    | with_reducible first | refine spB_yes (by decide) ?_
    | ((with_reducible refine apdE_n ?_); (with_reducible refine apdN.mk ?_ ?_ ?_ ?_ ?_ ?_); (focus (first | rfl)); (focus (first | exact one_all (by rfl))); (focus (first | ((try dsimp only); simp only [List.length_append, List.length_take, List.length_map, List.length_cons, List.length_nil, List.length_range, List.length_drop, List.length_singleton]; omega))); (iterate 2 (focus ((try simp only [LN] at *) <;> omega))))
    | ((with_reducible apply ixN_lit); (focus rfl); (focus rfl))
    | with_reducible refine wr_i64 (by first | omega | (simp only [LN] at *; omega)) ?_
    | with_reducible refine wr_u8 (by omega) ?_
    | fail)
   all_goals (try (conv => whnf))
   all_goals try first | (show Nat.ble _ _ = true; rfl) | (exfalso; rename_i hz; cases hz; done) | (exfalso; (try simp only [LN] at *) <;> omega)
   all_goals first
    | ((refine Z.rndK (6) (fun s => [0, 1, s.idAt 7]) rfl rfl rfl rfl ?_ ?_ ?_ ?_); (focus (repeat' (first | exact trivial | exact oslF (by simp only [List.length_append, List.length_take, List.length_cons, List.length_nil]; omega) | exact rfl | apply And.intro))); (focus (repeat' (first | exact trivial | exact Z.blk_sub rfl (tkT rfl rfl rfl) (ren_map fun _ => rfl) | (intro b hb; cases hb; rfl) | apply And.intro))); (focus ((first | exact Nat.le_of_ble_eq_true rfl))); (first | exact Nat.le_of_ble_eq_true rfl))
    | fail
  ·skip
   repeat' ((conv => whnf); first
    | with_reducible first | refine spB_yes (by decide) ?_
    | ((with_reducible refine apdE_n ?_); (with_reducible refine apdN.mk ?_ ?_ ?_ ?_ ?_ ?_); (focus (first | rfl)); (focus (first | exact one_all (by rfl))); (focus (first | ((try dsimp only); simp only [List.length_append, List.length_take, List.length_map, List.length_cons, List.length_nil, List.length_range, List.length_drop, List.length_singleton]; omega))); (iterate 2 (focus ((try simp only [LN] at *) <;> omega))))
    | ((with_reducible apply ixN_lit); (focus rfl); (focus rfl))
    | with_reducible refine wr_i64 (by first | omega | (simp only [LN] at *; omega)) ?_
    | with_reducible refine wr_u8 (by omega) ?_
    | fail)
   all_goals (try (conv => whnf))
   all_goals try first | (show Nat.ble _ _ = true; rfl) | (exfalso; rename_i hz; cases hz; done) | (exfalso; (try simp only [LN] at *) <;> omega)
   all_goals first
    | ((refine Z.rndK (7) (fun s => [0, 1, s.idAt 7]) rfl rfl rfl rfl ?_ ?_ ?_ ?_); (focus (repeat' (first | exact trivial | exact oslF (by simp only [List.length_append, List.length_take, List.length_cons, List.length_nil]; omega) | exact rfl | apply And.intro))); (focus (repeat' (first | exact trivial | exact Z.blk_sub rfl (tkT rfl rfl rfl) (ren_map fun _ => rfl) | (intro b hb; cases hb; rfl) | apply And.intro))); (focus ((first | exact Nat.le_of_ble_eq_true rfl))); (first | exact Nat.le_of_ble_eq_true rfl))
    | fail
  ·skip
   repeat' ((conv => whnf); first
    | with_reducible first | refine spB_yes (by decide) ?_
    | ((with_reducible refine apdE_n ?_); (with_reducible refine apdN.mk ?_ ?_ ?_ ?_ ?_ ?_); (focus (first | rfl)); (focus (first | exact one_all (by rfl))); (focus (first | ((try dsimp only); simp only [List.length_append, List.length_take, List.length_map, List.length_cons, List.length_nil, List.length_range, List.length_drop, List.length_singleton]; omega))); (iterate 2 (focus ((try simp only [LN] at *) <;> omega))))
    | ((with_reducible apply ixN_lit); (focus rfl); (focus rfl))
    | with_reducible refine wr_i64 (by first | omega | (simp only [LN] at *; omega)) ?_
    | with_reducible refine wr_u8 (by omega) ?_
    | fail)
   all_goals (try (conv => whnf))
   all_goals try first | (show Nat.ble _ _ = true; rfl) | (exfalso; rename_i hz; cases hz; done) | (exfalso; (try simp only [LN] at *) <;> omega)
   all_goals first
    | ((refine Z.rndK (8) (fun s => [0, 1, s.idAt 7]) rfl rfl rfl rfl ?_ ?_ ?_ ?_); (focus (repeat' (first | exact trivial | exact oslF (by simp only [List.length_append, List.length_take, List.length_cons, List.length_nil]; omega) | exact rfl | apply And.intro))); (focus (repeat' (first | exact trivial | exact Z.blk_sub rfl (tkT rfl rfl rfl) (ren_map fun _ => rfl) | (intro b hb; cases hb; rfl) | apply And.intro))); (focus ((first | exact Nat.le_of_ble_eq_true rfl))); (first | exact Nat.le_of_ble_eq_true rfl))
    | fail
 have hk9 : k = 8 := by omega
 subst hk9
 have hBl : B0.length = 4 + E.length := by rw [hB0]; exact hb0
 have hwn : IntKind.u8.wrap ((List.map eN txs).length : Int) = (txs.length : Int) := by rw [List.length_map]; simp [IntKind.wrap, IntKind.bits, IntKind.signed]; omega
 repeat' ((conv => whnf); first
  | with_reducible first | refine spB_no (by decide) ?_
  | ((with_reducible refine wr_mk ((txs.length : Nat) : Int) hwn ?_))
  | ((with_reducible refine apdE_n ?_); (with_reducible refine apdN.mk ?_ ?_ ?_ ?_ ?_ ?_); (focus (first | rfl)); (focus (first | exact one_all (by rfl))); (focus (first | ((try dsimp only); simp only [List.length_append, List.length_take, List.length_map, List.length_cons, List.length_nil, List.length_range, List.length_drop, List.length_singleton]; omega))); (iterate 2 (focus ((try simp only [LN] at *) <;> omega))))
  | fail)
 all_goals (try (conv => whnf))
 all_goals try first | (show Nat.ble _ _ = true; rfl) | (exfalso; rename_i hz; cases hz; done) | (exfalso; (try simp only [LN] at *) <;> omega)
 obtain ⟨B1, hB1⟩ : ∃ B1, B1 = B0 ++ [o0, o1, o2, o3, o4, o5, o6, o7] ++ [(txs.length : Int)] := ⟨_, rfl⟩
 have hBl1 : B1.length = 13 + E.length := by rw [hB1, List.length_append, List.length_append, hBl]; simp; omega
 refine Z.loopK tabOk (fun zq : Nat => [(59, .val (.int .i64 (zq : Int))), (7, .c (.osl 4 0 (B1 ++ (txs.take zq).flatMap encN).length none))]) (fun zq : Nat => ([(4, some (Z.Ob.b ⟨(B1 ++ (txs.take zq).flatMap encN).map cB, 1, 5, false⟩))] : Z.Kr)) (fun zq => zq ≤ txs.length) (fun zq => txs.length - zq) 0 5 [(57, _), (58, _)] ⟨rfl, rfl, trivial⟩ [] trivial ?_ ?_ rfl rfl (Nat.zero_le _) ?_
 ·repeat' (first | exact trivial | apply And.intro | exact ⟨_, rfl, Z.Imp.refl _⟩ | exact ⟨_, rfl, oslE (by rw [List.take_zero, List.flatMap_nil, List.append_nil, hBl1, List.length_append, hBl]; simp; omega)⟩)
 ·repeat' (first | exact trivial | (intro b hb; cases hb; refine ⟨_, rfl, ⟨rfl, rfl, rfl⟩, Z.imp_eq ?_⟩; first | rfl | (rw [List.take_zero, List.flatMap_nil, List.append_nil, hB1]; exact tkS rfl rfl rfl); done) | apply And.intro)
 rintro k HINV
 (try dsimp only at HINV); (try dsimp only)
 have hNl : (B1 ++ (txs.take k).flatMap encN).length ≤ 13 + E.length + 9 * txs.length := by rw [List.length_append, encNs_len, List.length_take, hBl1]; omega
 by_cases hi : k < txs.length
 ·obtain ⟨n, hx⟩ := getElem?_some' (xs := txs) (i := k) hi
  have hmk := of_decide_eq_true (f7 _ (List.mem_of_getElem? hx))
  try dsimp only at hmk
  have hsn : (B1 ++ (txs.take (k + 1)).flatMap encN) = ((B1 ++ (txs.take k).flatMap encN) ++ [n.s] ++ be 4 n.a) ++ be 4 n.n := by rw [encNs_snoc hx, encN]; simp
  generalize hQ : (B1 ++ (txs.take k).flatMap encN) = Q at *
  have p1 := putO32_con (Q ++ [n.s]) n.a (by rw [List.length_append, List.length_singleton]; omega) (by omega)
  have p2 := putO32_con (Q ++ [n.s] ++ be 4 n.a) n.n (by rw [List.length_append, List.length_append, List.length_singleton, be_len]; omega) (by omega)
  repeat' ((conv => whnf); first
   | (with_reducible refine spB_dec ?_ ?_ <;> intro _ <;> (try (exfalso; (first | (simp only [LN] at *; omega)))))
   | with_reducible first | refine Z.rowN_known hx ?_
   | ((with_reducible refine apdE_n ?_); (with_reducible refine apdN.mk ?_ ?_ ?_ ?_ ?_ ?_); (focus (first | rfl)); (focus (first | exact one_all (by rfl))); (focus (first | ((try dsimp only); simp only [List.length_append, List.length_take, List.length_map, List.length_cons, List.length_nil, List.length_range, List.length_drop, List.length_singleton]; omega))); (iterate 2 (focus ((try simp only [LN] at *) <;> omega))))
   | ((with_reducible apply ixN_litp); (focus rfl); (focus ((try simp only [LN] at *) <;> omega)))
   | with_reducible refine wr_i64 (by first | omega | (simp only [LN] at *; omega)) ?_
   | with_reducible refine wr_u8 (by omega) ?_
   | with_reducible refine wr_u32 (by omega) ?_
   | ((first | (with_reducible refine Z.conZ_mz ?_ (p1) ?_)); (focus ((repeat' (first | exact trivial | exact low_bb rfl (tkS rfl rfl rfl) (by simp) | exact rfl | apply And.intro)); done)))
   | ((first | (with_reducible refine Z.conZ_mz ?_ (p2) ?_)); (focus ((repeat' (first | exact trivial | exact low_bb rfl (by first | rfl | exact ren_cB) (by simp [be_len]) | exact rfl | apply And.intro)); done)))
   | with_reducible first | refine Z.drawZ_rule tabOk mixOk ?_ | refine Z.apZ_mk (by kernel_rfl) ?_
   | fail)
  all_goals (try (conv => whnf))
  all_goals try first | (show Nat.ble _ _ = true; rfl) | (exfalso; rename_i hz; cases hz; done) | (exfalso; (try simp only [LN] at *) <;> omega)
  all_goals first
   | ((refine rnd_cap 7 (Q ++ [n.s] ++ be 4 n.a ++ be 4 n.n).length rfl rfl ?_ ?_); (focus (simp [be_len]; done)); ((refine Z.rndK ((k + 1)) (fun s => [0, 1, 2, 3, s.idAt 7]) rfl rfl rfl rfl ?_ ?_ ?_ ?_); (focus (repeat' (first | exact trivial | exact oslF (by rw [hsn]) | exact rfl | apply And.intro))); (focus (repeat' (first | exact trivial | exact Z.blk_sub rfl (by rw [hsn]; first | rfl | exact ren_cB) (ren_map fun _ => rfl) | apply And.intro))); (focus ((try dsimp only); omega)); ((try dsimp only); omega)))
   | fail
 have hkl : k = txs.length := by omega
 subst hkl
 rw [List.take_length]
 repeat' ((conv => whnf); first
  | (with_reducible refine spB_dec ?_ ?_ <;> intro _ <;> (try (exfalso; (first | (rename_i hz; simp at hz; done)))))
  | fail)
 all_goals (try (conv => whnf))
 all_goals try first | (show Nat.ble _ _ = true; rfl) | (exfalso; rename_i hz; cases hz; done) | (exfalso; (try simp only [LN] at *) <;> omega)
 have hfin : ([op, ix, w, e9] ++ E ++ [o0, o1, o2, o3, o4, o5, o6, o7] ++ [(txs.length : Int)]) ++ txs.flatMap encN = B1 ++ txs.flatMap encN := by rw [hB1, hB0]
 try rw [hfin]
 all_goals first
  | ((first | (with_reducible apply Z.retF2)); (focus rfl); (repeat' (first | exact trivial | (with_reducible apply Z.frz_one) | (with_reducible apply Z.fq_int) | ((with_reducible apply Z.fq_osl); (focus rfl); (focus (first | exact rfl)); (focus (exact fun _ => rfl))) | exact rfl | apply And.intro)); (all_goals (try exact (fun _ => none))); all_goals (first | (rw [hfin]; done)))
  | fail
end Go.Proofs.Ytopieffkpdlpbaa
namespace Go.Proofs.Ytopieffkpdlpbaa
open Go Go.RowKit Wx
set_option maxHeartbeats 4000000
namespace Tab
end Tab
end Go.Proofs.Ytopieffkpdlpbaa
namespace Go.Proofs.Ytopieffkpdlpbaa
open Go Go.RowKit Wx
set_option maxHeartbeats 4000000
namespace Tab
theorem copyk_con (l : List Kc) (hl : l.length ≤ 1000) : Con Try.prog 82 [.agg [.ro false 4 (l.map eK)]] (fun rx rK rt => rx = .pl (.agg [.ro true 4 (l.map eK)]) ∧ rK = [] ∧ rt = 0) := by
 refine Z.con_ofF tabOk 8 Try.f82 _ Try.func82 (by kernel_rfl) rfl rfl rfl rfl ?_
 repeat' ((conv => whnf); first
  | ((with_reducible refine apdE_n ?_); (with_reducible refine apdN.mk ?_ ?_ ?_ ?_ ?_ ?_); (focus (first | (simp; done))); (focus (first | exact one_map2 (fun _ => rfl))); (focus (first | exact Nat.zero_le _)); (iterate 2 (focus ((try simp only [LN] at *) <;> omega))))
  | fail)
 all_goals (try (conv => whnf))
 all_goals try first | (show Nat.ble _ _ = true; rfl) | (exfalso; rename_i hz; cases hz; done) | (exfalso; (try simp only [LN] at *) <;> omega)
 all_goals first
  | ((first | (with_reducible apply Z.retF1)); (focus rfl); (repeat' (first | exact trivial | (with_reducible apply Z.frz_agg) | ((with_reducible apply Z.fq_src); (focus rfl); (focus (first | (simp only [List.length_map, Nat.zero_add]; done))); (focus (exact fun _ => rfl))) | exact rfl | apply And.intro)); (all_goals (try exact (fun _ => none))); all_goals (first | (simp; done)))
  | fail
end Tab
end Go.Proofs.Ytopieffkpdlpbaa
namespace Go.Proofs.Ytopieffkpdlpbaa
open Go Go.RowKit Wx
set_option maxHeartbeats 4000000
def shortS (x : Sn) : Sn := ⟨x.op, x.ix, x.w, x.en, x.rows.take 257, x.o0, x.o1, x.o2, x.o3, x.o4, x.o5, x.o6, x.o7, x.txs.take 25⟩
abbrev eSn (x : Sn) : List RT := [RT.v (.int .i64 x.op), RT.v (.int .i64 x.ix), RT.v (.int .i64 x.w), RT.v (.bool x.en), RT.ro 4 (x.rows.map Tab.eK), RT.v (.int .i64 x.o0), RT.v (.int .i64 x.o1), RT.v (.int .i64 x.o2), RT.v (.int .i64 x.o3), RT.v (.int .i64 x.o4), RT.v (.int .i64 x.o5), RT.v (.int .i64 x.o6), RT.v (.int .i64 x.o7), RT.ro 3 (x.txs.map eN)]
theorem shortS_len (x : Sn) : (shortS x).rows.length ≤ 257 ∧ (shortS x).txs.length ≤ 25 := by unfold shortS; simp only [List.length_take]; omega
theorem cut_ro {α : Type} {f : α → List RT} (l : List α) (k : Nat) : (l.take k).map f = List.take ((l.take k).length - 0) (List.drop 0 (l.map f)) := by
 have e : List.take ((l.take k).length) l = l.take k := List.take_eq_take_iff.2 (by rw [List.length_take]; omega)
 rw [Nat.sub_zero, List.drop_zero, ← List.map_take, e]
theorem cut_n (l : List Nm) (k : Nat) (fl : Bool) : List.map (List.map (RT.ce fl)) (List.take ((l.take k).length - 0) (List.drop 0 (l.map eN))) = (l.take k).map cN := by
 rw [← cut_ro, List.map_map]
 rfl
theorem one_cutN {l : List Nm} {n m : Nat} {fl : Bool} : ∀ r ∈ List.map (List.map (RT.ce fl)) (List.take n (List.drop m (l.map eN))), ∀ c ∈ r, c.single = true := fun r hr c hc => by
 obtain ⟨t, ht, rfl⟩ := List.mem_map.1 hr
 obtain ⟨z, _, rfl⟩ := List.mem_map.1 (List.mem_of_mem_drop (List.mem_of_mem_take ht))
 simp only [List.map_cons, List.map_nil, List.mem_cons, List.not_mem_nil, or_false] at hc
 rcases hc with rfl | rfl | rfl <;> rfl
theorem shortS_con (x : Sn) (hr : x.rows.length ≤ 9223372036854775807) (ht : x.txs.length ≤ 9223372036854775807) : Con Try.prog 20 [.agg [.v (.int .i64 x.op), .v (.int .i64 x.ix), .v (.int .i64 x.w), .v (.bool x.en), .ro false 4 (x.rows.map Tab.eK), .v (.int .i64 x.o0), .v (.int .i64 x.o1), .v (.int .i64 x.o2), .v (.int .i64 x.o3), .v (.int .i64 x.o4), .v (.int .i64 x.o5), .v (.int .i64 x.o6), .v (.int .i64 x.o7), .ro false 3 (x.txs.map eN)]] (fun rx rK rt => rx = .pl (.agg [.v (.int .i64 (shortS x).op), .v (.int .i64 (shortS x).ix), .v (.int .i64 (shortS x).w), .v (.bool (shortS x).en), .ro true 4 ((shortS x).rows.map Tab.eK), .v (.int .i64 (shortS x).o0), .v (.int .i64 (shortS x).o1), .v (.int .i64 (shortS x).o2), .v (.int .i64 (shortS x).o3), .v (.int .i64 (shortS x).o4), .v (.int .i64 (shortS x).o5), .v (.int .i64 (shortS x).o6), .v (.int .i64 (shortS x).o7), .ro true 3 ((shortS x).txs.map eN)]) ∧ rK = [] ∧ rt = 0) := by
 refine Z.con_ofF tabOk 24 Try.f20 _ Try.func20 (by kernel_rfl) rfl rfl rfl rfl ?_
 have ccp := Tab.copyk_con (x.rows.take 257) (by rw [List.length_take]; omega)
 have htl : (x.txs.take 25).length ≤ 25 := by rw [List.length_take]; exact Nat.min_le_left _ _
 have HC := cut_n x.txs 25
 repeat' ((conv => whnf); first
  | ((with_reducible refine slN_hi ((x.rows.take 257).length) ?_ ?_ ?_); (focus (rw [List.length_take, List.length_map]; omega)); (focus (rw [List.length_take, List.length_map]; omega)))
  | ((with_reducible refine slN_hi ((x.txs.take 25).length) ?_ ?_ ?_); (focus (rw [List.length_take, List.length_map]; omega)); (focus (rw [List.length_take, List.length_map]; omega)))
  | ((with_reducible refine apdE_n ?_); (with_reducible refine apdN.mk ?_ ?_ ?_ ?_ ?_ ?_); (focus (first | (simp; done))); (focus (first | exact one_cutN)); (focus (first | exact Nat.zero_le _)); (iterate 2 (focus ((try simp only [LN] at *) <;> omega))))
  | with_reducible first | refine Z.callZ_in tabOk 13 Try.f47 _ Try.func47 (by kernel_rfl) rfl rfl rfl ?_
  | ((first | (with_reducible refine Z.conZ_mz ?_ (ccp) ?_)); (focus ((repeat' (first | exact trivial | exact congrArg (Ce.ro false 4) (cut_ro _ _) | apply And.intro)); done)))
  | ((with_reducible apply ex_and); exact rfl)
  | with_reducible first | refine Z.drawZ_rule tabOk mixOk ?_ | refine Z.apZ_mk (by kernel_rfl) ?_
  | fail)
 all_goals (try (conv => whnf))
 all_goals try first | (show Nat.ble _ _ = true; rfl) | (exfalso; rename_i hz; cases hz; done) | (exfalso; (try simp only [LN] at *) <;> omega)
 all_goals first
  | ((first | (with_reducible apply Z.retF1)); (focus rfl); (repeat' (first | exact trivial | (refine Z.frz_oslw (l := x.txs.take 25) (f := cN) (ty := 90) (bx := false) rfl ?_ ?_ (fun _ => rfl); (focus (first | (simp; done))); (focus (first | exact (congrArg (List.take _) (HC _)).trans (List.take_of_length_le (by simp))))) | (with_reducible apply Z.frz_agg) | (with_reducible apply Z.fq_int) | (with_reducible apply Z.fq_bool) | exact rfl | apply And.intro)); (all_goals (try exact (fun _ => none))); all_goals (first | (simp; done)))
  | fail
end Go.Proofs.Ytopieffkpdlpbaa
namespace Go.Proofs.Ytopieffkpdlpbaa
open Go Go.RowKit Wx
set_option maxHeartbeats 4000000
theorem sn_iff (x y : Sn) : decide (x = y) = (x.op == y.op && (x.ix == y.ix && (x.w == y.w && (x.en == y.en && (decide (x.rows = y.rows) && (x.o0 == y.o0 && (x.o1 == y.o1 && (x.o2 == y.o2 && (x.o3 == y.o3 && (x.o4 == y.o4 && (x.o5 == y.o5 && (x.o6 == y.o6 && (x.o7 == y.o7 && decide (x.txs = y.txs)))))))))))))) := by
 cases x; cases y
 simp only [Sn.mk.injEq]
 rw [Bool.eq_iff_iff]
 simp only [Bool.and_eq_true, decide_eq_true_eq, beq_iff_eq]
theorem same_con (x y : Sn) (hr : x.rows.length ≤ 9223372036854775807) (ht : x.txs.length ≤ 9223372036854775807) : Con Try.prog 25 [.agg [.v (.int .i64 x.op), .v (.int .i64 x.ix), .v (.int .i64 x.w), .v (.bool x.en), .ro false 4 (x.rows.map Tab.eK), .v (.int .i64 x.o0), .v (.int .i64 x.o1), .v (.int .i64 x.o2), .v (.int .i64 x.o3), .v (.int .i64 x.o4), .v (.int .i64 x.o5), .v (.int .i64 x.o6), .v (.int .i64 x.o7), .ro false 3 (x.txs.map eN)], .agg [.v (.int .i64 y.op), .v (.int .i64 y.ix), .v (.int .i64 y.w), .v (.bool y.en), .ro false 4 (y.rows.map Tab.eK), .v (.int .i64 y.o0), .v (.int .i64 y.o1), .v (.int .i64 y.o2), .v (.int .i64 y.o3), .v (.int .i64 y.o4), .v (.int .i64 y.o5), .v (.int .i64 y.o6), .v (.int .i64 y.o7), .ro false 3 (y.txs.map eN)]] (fun rx rK rt => rx = .val (.bool (decide (x = y))) ∧ rK = [] ∧ rt = 0) := by
 refine Z.con_ofF tabOk 52 Try.f25 _ Try.func25 (by kernel_rfl) rfl rfl rfl rfl ?_
 have ct := Tab.same_con x.rows y.rows hr
 have cn := names_con x.txs y.txs ht
 have hz := sn_iff x y
 repeat' ((conv => whnf); first
  | with_reducible first | refine spB_t ?_
  | with_reducible first | refine spB_no (by decide) ?_
  | (with_reducible refine spB_dec ?_ ?_ <;> intro _ <;> (try (exfalso; (first | (simp only [LN] at *; omega)))))
  | (with_reducible refine spB_beq ?_ ?_ <;> intro _ <;> (try (exfalso; (first | (simp only [LN] at *; omega)))))
  | (with_reducible refine spB_mk ?_ ?_ <;> intro _ <;> (try (exfalso; (first | (simp only [LN] at *; omega)))))
  | ((first | (with_reducible refine Z.callZ_mk ?_ (ct) ?_) | (with_reducible refine Z.callZ_mk ?_ (cn) ?_)); (focus ((repeat' (first | exact trivial | exact rfl | apply And.intro)); done)))
  | fail)
 all_goals (try (conv => whnf))
 all_goals try first | (show Nat.ble _ _ = true; rfl) | (exfalso; rename_i hz; cases hz; done) | (exfalso; (try simp only [LN] at *) <;> omega)
 all_goals first
  | ((first | (with_reducible apply Z.retF1)); (focus rfl); (repeat' (first | exact trivial | (with_reducible apply Z.frz_one) | (with_reducible apply Z.fq_bool) | (apply Z.fq_bool) | apply And.intro)); (all_goals (try exact (fun _ => none))); all_goals (first | (rw [hz]; simp_all; done)))
  | fail
end Go.Proofs.Ytopieffkpdlpbaa
namespace Go.Proofs.Ytopieffkpdlpbaa
open Go Go.RowKit Wx
set_option maxHeartbeats 4000000
namespace Tab
theorem bq_con (a : List Int) (hl : a.length ≤ 9223372036854775807) : Con Try.prog 26 [.one (.ro false 1 (a.map eB)), .one (.ro false 1 (a.map eB))] (fun rx rK rt => rx = .val (.bool true) ∧ rK = [] ∧ rt = 0) := by
 refine Z.con_ofF tabOk 10 Try.f26 _ Try.func26 (by kernel_rfl) rfl rfl rfl rfl ?_
 repeat' ((conv => whnf); first
  | with_reducible first | refine spB_t ?_
  | ((with_reducible apply spB_cong); (focus (simp only [splQ, Int.reduceBEq, Int.reduceBNe]; rfl)))
  | with_reducible first | refine spB_yes (by decide) ?_ | refine spB_no (by decide) ?_ | refine spB_f ?_ | refine spB_not ?_ | refine spB_yes (by assumption) ?_ | refine spB_no (by assumption) ?_
  | (with_reducible refine spB_dec ?_ ?_ <;> intro _ <;> (try (exfalso; first | contradiction | omega | (rename_i hz; refine hz ?_; simp; done) | (rename_i hz; simp at hz; done) | (simp only [LN] at *; omega))))
  | (with_reducible refine spB_beq ?_ ?_ <;> intro _ <;> (try (exfalso; first | contradiction | omega | (rename_i hz; refine hz ?_; simp; done) | (rename_i hz; simp at hz; done) | (simp only [LN] at *; omega))))
  | (with_reducible refine spB_bne ?_ ?_ <;> intro _ <;> (try (exfalso; first | contradiction | omega | (rename_i hz; refine hz ?_; simp; done) | (rename_i hz; simp at hz; done) | (simp only [LN] at *; omega))))
  | (with_reducible refine spB_mk ?_ ?_ <;> intro _ <;> (try (exfalso; first | contradiction | omega | (rename_i hz; refine hz ?_; simp; done) | (rename_i hz; simp at hz; done) | (simp only [LN] at *; omega))))
  | ((with_reducible apply rowN_mk); (focus rfl))
  | ((with_reducible apply ixN_lit); (focus rfl); (focus rfl))
  | ((with_reducible apply ixN_litp); (focus rfl); (focus ((try simp only [LN] at *) <;> omega)))
  | ((with_reducible refine eqN_mk2 ?_ ?_); (focus rfl))
  | ((with_reducible refine strN_src ?_ ?_ ?_); (focus (exact fun _ => rfl)); (focus ((try simp only [LN] at *) <;> omega)))
  | ((with_reducible refine strN_own ?_ ?_ ?_ ?_); (focus (exact fun _ => rfl)); (focus ((try simp only [LN] at *) <;> omega)); (focus ((try simp only [LN] at *) <;> omega)))
  | with_reducible refine wr_i64 (by first | omega | (simp only [LN] at *; omega)) ?_
  | with_reducible refine wr_u64 (by omega) ?_
  | with_reducible refine wr_u8 (by omega) ?_
  | with_reducible refine wr_u32 (by omega) ?_
  | with_reducible first | refine wr_mk _ rfl ?_
  | ((with_reducible refine ixN_nat ?_ ?_); (focus ((try simp only [LN] at *) <;> omega)))
  | ((with_reducible refine rowN_map ?_ ?_); (focus ((try simp only [LN] at *) <;> omega)); intro x hx)
  | with_reducible refine eqN_dec (by omega) ?_
  | with_reducible first | refine apN_mk (by kernel_rfl) ?_
  | ((with_reducible refine eqN_mk2 ?_ ?_); (focus (exact Z.kb_some rfl)))
  | ((with_reducible apply ex_and); exact rfl))
 all_goals (try (conv => whnf))
 all_goals try (show Nat.ble _ _ = true; rfl)
 all_goals first
  | ((first | (with_reducible apply Z.retF1) | (with_reducible apply Z.retF2) | (with_reducible apply Z.retF0)); (focus rfl); (repeat' (first | exact trivial | (with_reducible apply Z.frz_one) | (with_reducible apply Z.frz_agg) | (with_reducible apply Z.fq_int) | (with_reducible apply Z.fq_bool) | (exact Z.frz_nil) | (exact Z.frz_osl0 rfl rfl rfl) | (with_reducible apply Z.fq_nil) | (with_reducible apply Z.fq_ro) | ((with_reducible apply Z.fq_gsl); (focus (first | rfl | exact Z.isB_map _ | exact Z.gB_snoc.symm)); (focus (exact fun _ => rfl))) | ((with_reducible apply Z.fq_osl); (focus rfl); (focus (first | exact rfl | (simp only [List.length_map, Nat.zero_add]; done) | ((try simp only [LN] at *) <;> omega))); (focus (exact fun _ => rfl))) | ((with_reducible apply Z.fq_src); (focus rfl); (focus (first | exact rfl | (simp only [List.length_map, Nat.zero_add]; done) | ((try simp only [LN] at *) <;> omega))); (focus (exact fun _ => rfl))) | exact rfl | ((apply Z.fq_osl); (focus rfl); (focus (first | exact rfl | (simp only [List.length_map, Nat.zero_add]; done) | ((try simp only [LN] at *) <;> omega))); (focus (exact fun _ => rfl))) | ((apply Z.fq_src); (focus rfl); (focus (first | exact rfl | (simp only [List.length_map, Nat.zero_add]; done) | ((try simp only [LN] at *) <;> omega))); (focus (exact fun _ => rfl))) | (apply Z.fq_ro) | (apply Z.fq_int) | (apply Z.fq_bool) | apply And.intro)); (all_goals (try exact (fun _ => none))); all_goals (first | rfl | (simp; done)))
  | (exfalso; rename_i hz; cases hz; done)
  | (exfalso; (try simp only [LN] at *) <;> omega)
  | (fail)
end Tab
end Go.Proofs.Ytopieffkpdlpbaa
namespace Go.Proofs.Ytopieffkpdlpbaa
open Go Go.RowKit Wx
set_option maxHeartbeats 4000000
def rowsE {α : Type} (sz mx : Nat) (d : List Ce → Option α) (dr : List RT → Option α) (K : Nat → Option Y.Ob) : Ce → Option (List α)
 | .ro _ z rows => match Nat.beq z sz, rows.mapM dr with
  | true, some xs => match Nat.ble xs.length mx with
   | true => some xs
   | false => none
  | _, _ => none
 | c => Y.rowsD sz mx d K c
theorem mapM_en {α : Type} {dr : List RT → Option α} {en : α → List RT} (hd : ∀ r x, dr r = some x → r = en x) : ∀ {rows : List (List RT)} {xs : List α}, rows.mapM dr = some xs → rows = xs.map en
 | [], xs, h => by simp only [List.mapM_nil, Option.pure_def, Option.some.injEq] at h; subst h; rfl
 | r :: rows, xs, h => by
  rw [List.mapM_cons] at h
  cases h1 : dr r with
  | none => rw [h1] at h; cases h
  | some x =>
   cases h2 : rows.mapM dr with
   | none => rw [h1, h2] at h; cases h
   | some ys =>
    rw [h1, h2] at h
    simp only [Option.pure_def, Option.bind_eq_bind, Option.bind_some, Option.some.injEq] at h
    subst h
    rw [List.map_cons, ← hd r x h1, ← mapM_en hd h2]
theorem rowsE_low {α : Type} {sz mx : Nat} {d : List Ce → Option α} {dr : List RT → Option α} {en : α → List RT} (hd : ∀ r x, d r = some x → r.map RT.of = (en x).map some) (hr : ∀ r x, dr r = some x → r = en x) {K : Nat → Option Y.Ob} {c : Ce} {xs : List α} (h : rowsE sz mx d dr K c = some xs) : lowC (Y.blkOf K) c (.ro false sz (xs.map en)) ∧ xs.length ≤ mx := by
 unfold rowsE at h
 split at h
 ·rename_i fl z rows
  split at h
  ·rename_i ys h1 h2
   split at h
   ·rename_i h3
    simp only [Option.some.injEq] at h
    subst h
    refine ⟨?_, Nat.le_of_ble_eq_true h3⟩
    have e := mapM_en hr h2
    subst e
    rw [Nat.eq_of_beq_eq_true h1]
    exact rfl
   ·cases h
  ·cases h
 ·exact Y.rowsD_low hd h
def decK : List Ce → Option Tab.Kc
 | [.v (.int .i64 a), .v (.int .i64 b), .v (.int .i64 c), .v (.int .i64 d)] => some ⟨a, b, c, d⟩
 | _ => none
theorem decK_ok (r : List Ce) (x : Tab.Kc) (h : decK r = some x) : r.map RT.of = (Tab.eK x).map some := by
 unfold decK at h
 split at h
 ·simp only [Option.some.injEq] at h; subst h; rfl
 ·cases h
def decKr : List RT → Option Tab.Kc
 | [.v (.int .i64 a), .v (.int .i64 b), .v (.int .i64 c), .v (.int .i64 d)] => some ⟨a, b, c, d⟩
 | _ => none
theorem decKr_ok (r : List RT) (x : Tab.Kc) (h : decKr r = some x) : r = Tab.eK x := by
 unfold decKr at h
 split at h
 ·simp only [Option.some.injEq] at h; subst h; rfl
 ·cases h
def orcJ : Y.CallFn := fun c avs K top => match c, avs with
 | .fn g [], [.pl (.agg [ca]), .pl (.agg [cb])] => match Nat.beq g 79, rowsE 4 1000 decK decKr K.get ca, rowsE 4 1000 decK decKr K.get cb with
  | true, some a, some b => some ⟨.tup [.agg [.ro true 4 ((Tab.joinT a b).1.map Tab.eK)], .one (.v (.int .i64 (Tab.joinT a b).2))], K, top, []⟩
  | _, _, _ => none
 | _, _ => none
theorem orcJ_sound : Y.CallsOk Try.prog orcJ := by
 intro c avs K top r h
 unfold orcJ at h
 split at h
 ·rename_i g ca cb
  split at h
  ·rename_i a b h1 h2 h3
   simp only [Option.some.injEq] at h
   subst h
   obtain ⟨g1, g2⟩ := rowsE_low (en := Tab.eK) decK_ok decKr_ok h2
   obtain ⟨g3, g4⟩ := rowsE_low (en := Tab.eK) decK_ok decKr_ok h3
   have := Nat.eq_of_beq_eq_true h1
   subst this
   exact ⟨Y.con_callE (args := [.agg [.ro false 4 (a.map Tab.eK)], .agg [.ro false 4 (b.map Tab.eK)]]) ⟨⟨g1, trivial⟩, ⟨g3, trivial⟩, trivial⟩ (Tab.tjoin_con a b g2 g4) rfl, fun _ _ => rfl⟩
  ·cases h
 ·cases h
theorem wakes_con : Con Try.prog 9 [] (fun x K t => x = .val (.bool true) ∧ K = [] ∧ t = 0) := Y.con_runO ftabOk tabOk mixOk orcJ_sound 60 14 (by kernel_rfl) (by kernel_rfl)
end Go.Proofs.Ytopieffkpdlpbaa
namespace Go.Proofs.Ytopieffkpdlpbaa
open Go Go.RowKit Wx
set_option maxHeartbeats 4000000
open Tab
theorem snapback_con (x : Sn) (b : List Int) (hr : x.rows.length ≤ 9223372036854775807) (ht : x.txs.length ≤ 9223372036854775807) (hab : ∀ y ∈ x.rows, (-9223372036854775808 ≤ y.cnt ∧ y.cnt ≤ 9223372036854775807) ∧ (-9223372036854775808 ≤ y.sum ∧ y.sum ≤ 9223372036854775807)) (hbl9 : b.length ≤ 9223372036854775807) (hB : isB b) : Con Try.prog 6 [.agg [.v (.int .i64 x.op), .v (.int .i64 x.ix), .v (.int .i64 x.w), .v (.bool x.en), .ro false 4 (x.rows.map Tab.eK), .v (.int .i64 x.o0), .v (.int .i64 x.o1), .v (.int .i64 x.o2), .v (.int .i64 x.o3), .v (.int .i64 x.o4), .v (.int .i64 x.o5), .v (.int .i64 x.o6), .v (.int .i64 x.o7), .ro false 3 (x.txs.map eN)], .one (.ro false 1 (b.map eB))] (fun rx rK rt => rx = .val (.bool true) ∧ rK = [] ∧ rt = 0) := by
 refine Z.con_ofF tabOk 90 Try.f6 _ Try.func6 (by kernel_rfl) rfl rfl rfl rfl ?_
 have cs := shortS_con x hr ht
 obtain ⟨hL8, hL9⟩ := shortS_len x
 have hLa : ∀ y ∈ (shortS x).rows, (-9223372036854775808 ≤ y.cnt ∧ y.cnt ≤ 9223372036854775807) ∧ (-9223372036854775808 ≤ y.sum ∧ y.sum ≤ 9223372036854775807) := fun y hy => hab y (List.mem_of_mem_take hy)
 generalize shortS x = X at *
 obtain ⟨m, hm⟩ : ∃ m : Nat, m = min b.length 6000 := ⟨_, rfl⟩
 have hBm : isB (b.take m) := isB_take hB
 have hbl : (b.take m).length ≤ 6000 := by rw [List.length_take]; omega
 have cd4 := sdecode_con (b.take m) hBm (by omega)
 have hany := decS_any hBm
 have hR : (b.take m).map eB = ((b.map eB).drop 0).take (m - 0) := by rw [List.drop_zero, Nat.sub_zero, List.map_take]
 have cq := bq_con (b.take m) (by omega)
 generalize b.take m = B at *
 obtain ⟨Y, er, hX⟩ : ∃ Y er, decS B = (Y, er) := ⟨_, _, rfl⟩
 rw [hX] at cd4 hany
 dsimp only at cd4 hany
 have cm0 := same_con zeroS zeroS (by exact Nat.zero_le _) (by exact Nat.zero_le _)
 rw [decide_eq_true rfl] at cm0
 dsimp only [zeroS] at cm0
 have ce := sencode_con X (by omega) (by omega)
 cases hok : snapR X
 ·rw [show encSR X = ([], 280) by unfold encSR; rw [hok]; rfl] at ce
  dsimp only at ce
  rcases hany with ⟨rfl, hsn, hE, hY8, hY9, _⟩ | ⟨rfl, rfl | rfl⟩
  ·have ce2 := sencode_con Y (by omega) (by omega)
   rw [show encSR Y = (B, 0) by unfold encSR; rw [if_pos hsn, hE]] at ce2
   dsimp only at ce2
   rw [hR] at cd4 ce2 cq
   repeat' ((conv => whnf); first
    | with_reducible first | refine spB_t ?_
    | ((with_reducible apply spB_cong); (focus (simp only [splQ, Int.reduceBEq, Int.reduceBNe]; rfl)))
    | with_reducible first | refine spB_no (by decide) ?_
    | ((with_reducible refine slN_hi m ?_ ?_ ?_); (focus (rw [List.length_map]; omega)); (focus (rw [List.length_map]; omega)))
    | ((first | (with_reducible refine Z.callZ_mk ?_ (wakes_con) ?_) | (with_reducible refine Z.callZ_mk ?_ (cs) ?_) | (with_reducible refine Z.callZ_mk ?_ (cd4) ?_) | (with_reducible refine Z.callZ_mk ?_ (cq) ?_)); (focus ((repeat' (first | exact trivial | exact rfl | apply And.intro)); done)))
    | ((first | (with_reducible refine Z.callZ_mk ?_ (ce) ?_)); (focus ((repeat' (first | exact trivial | exact rfl | apply And.intro)); done)))
    | ((first | (with_reducible refine Z.callZ_mk ?_ (ce2) ?_)); (focus ((repeat' (first | exact trivial | exact rfl | apply And.intro)); done)))
    | fail)
   all_goals (try (conv => whnf))
   all_goals try first | (show Nat.ble _ _ = true; rfl) | (exfalso; rename_i hz; cases hz; done) | (exfalso; (try simp only [LN] at *) <;> omega)
   all_goals first
    | ((first | (with_reducible apply Z.retF1)); (focus rfl); (repeat' (first | exact trivial | exact rfl | apply And.intro)); (all_goals (try exact (fun _ => none))); all_goals (first | (simp; done)))
    | fail
  ·dsimp only [zeroS] at cd4
   rw [hR] at cd4
   repeat' ((conv => whnf); first
    | with_reducible first | refine spB_t ?_
    | ((with_reducible apply spB_cong); (focus (simp only [splQ, Int.reduceBEq, Int.reduceBNe]; rfl)))
    | with_reducible first | refine spB_no (by decide) ?_
    | ((with_reducible refine slN_hi m ?_ ?_ ?_); (focus (rw [List.length_map]; omega)); (focus (rw [List.length_map]; omega)))
    | ((first | (with_reducible refine Z.callZ_mk ?_ (wakes_con) ?_) | (with_reducible refine Z.callZ_mk ?_ (cs) ?_) | (with_reducible refine Z.callZ_mk ?_ (ce) ?_) | (with_reducible refine Z.callZ_mk ?_ (cd4) ?_) | (with_reducible refine Z.callZ_mk ?_ (cm0) ?_)); (focus ((repeat' (first | exact trivial | exact rfl | exact Z.low_nil | apply And.intro)); done)))
    | fail)
   all_goals (try (conv => whnf))
   all_goals try first | (show Nat.ble _ _ = true; rfl) | (exfalso; rename_i hz; cases hz; done) | (exfalso; (try simp only [LN] at *) <;> omega)
   all_goals first
    | ((first | (with_reducible apply Z.retF1)); (focus rfl); (repeat' (first | exact trivial | (with_reducible apply Z.frz_one) | (with_reducible apply Z.fq_bool) | exact rfl | apply And.intro)); (all_goals (try exact (fun _ => none))); all_goals (first | (simp; done)))
    | fail
  ·dsimp only [zeroS] at cd4
   rw [hR] at cd4
   repeat' ((conv => whnf); first
    | with_reducible first | refine spB_t ?_
    | ((with_reducible apply spB_cong); (focus (simp only [splQ, Int.reduceBEq, Int.reduceBNe]; rfl)))
    | with_reducible first | refine spB_no (by decide) ?_
    | ((with_reducible refine slN_hi m ?_ ?_ ?_); (focus (rw [List.length_map]; omega)); (focus (rw [List.length_map]; omega)))
    | ((first | (with_reducible refine Z.callZ_mk ?_ (wakes_con) ?_) | (with_reducible refine Z.callZ_mk ?_ (cs) ?_) | (with_reducible refine Z.callZ_mk ?_ (ce) ?_) | (with_reducible refine Z.callZ_mk ?_ (cd4) ?_) | (with_reducible refine Z.callZ_mk ?_ (cm0) ?_)); (focus ((repeat' (first | exact trivial | exact rfl | exact Z.low_nil | apply And.intro)); done)))
    | fail)
   all_goals (try (conv => whnf))
   all_goals try first | (show Nat.ble _ _ = true; rfl) | (exfalso; rename_i hz; cases hz; done) | (exfalso; (try simp only [LN] at *) <;> omega)
   all_goals first
    | ((first | (with_reducible apply Z.retF1)); (focus rfl); (repeat' (first | exact trivial | (with_reducible apply Z.frz_one) | (with_reducible apply Z.fq_bool) | exact rfl | apply And.intro)); (all_goals (try exact (fun _ => none))); all_goals (first | (simp; done)))
    | fail
 have hto := (snapR_all hok).2.2.1
 have hLo := tab_okK hto hLa
 rw [show encSR X = (encS X, 0) by unfold encSR; rw [hok]; rfl] at ce
 dsimp only at ce
 have cm := same_con X X (by omega) (by omega)
 rw [decide_eq_true rfl] at cm
 have hel := encS_len X
 have hEB := encS_isB hok
 have cd1 := sdecode_con (encS X) hEB (by omega)
 rw [(encS_parts hok hLo).2.2.2] at cd1
 dsimp only at cd1
 have hls : ∀ k, k < (encS X).length → decS ((encS X).take k) = (zeroS, 7) := fun k hk => decS_less hok hLo hk
 generalize encS X = E at *
 rcases hany with ⟨rfl, hsn, hE, hY8, hY9, _⟩ | ⟨rfl, rfl | rfl⟩
 ·have ce2 := sencode_con Y (by omega) (by omega)
  rw [show encSR Y = (B, 0) by unfold encSR; rw [if_pos hsn, hE]] at ce2
  dsimp only at ce2
  rw [hR] at cd4 ce2 cq
  repeat' ((conv => whnf); first
   | with_reducible first | refine spB_t ?_
   | ((with_reducible apply spB_cong); (focus (simp only [splQ, Int.reduceBEq, Int.reduceBNe]; rfl)))
   | with_reducible first | refine spB_no (by decide) ?_
   | ((first | (with_reducible refine Z.callZ_mk ?_ (wakes_con) ?_) | (with_reducible refine Z.callZ_mk ?_ (cs) ?_) | (with_reducible refine Z.callZ_mk ?_ (cd1) ?_) | (with_reducible refine Z.callZ_mk ?_ (cm) ?_)); (focus ((repeat' (first | exact trivial | exact rfl | apply And.intro)); done)))
   | ((first | (with_reducible refine Z.callZ_mk ?_ (ce) ?_)); (focus ((repeat' (first | exact trivial | exact rfl | apply And.intro)); done)))
   | fail)
  all_goals (try (conv => whnf))
  all_goals try first | (show Nat.ble _ _ = true; rfl) | (exfalso; rename_i hz; cases hz; done) | (exfalso; (try simp only [LN] at *) <;> omega)
  all_goals (
   apply loopQ3
   ·intro Q0 hq9
    refine Z.loopK tabOk (fun zq : Nat => [(42, .val (.int .i64 (zq : Int)))]) (fun zq : Nat => ([] : Z.Kr)) (fun zq => zq ≤ E.length ∧ zq ≤ 120) (fun zq => E.length - zq) 0 3 [(1, _), (6, _), (41, _)] ⟨rfl, rfl, rfl, trivial⟩ [] trivial ?_ ?_ rfl rfl ⟨Nat.zero_le _, Nat.zero_le _⟩ ?_
    ·repeat' (first | exact trivial | apply And.intro | exact ⟨_, rfl, Z.Imp.refl _⟩)
    ·repeat' (first | exact trivial)
    rintro k HINV
    (try dsimp only at HINV); (try dsimp only)
    obtain ⟨HI, HI2⟩ := HINV
    by_cases hk : k < E.length ∧ k < 120
    ·obtain ⟨hk, hk2⟩ := hk
     have cd2 := sdecode_con (E.take k) (isB_take hEB) (by rw [List.length_take]; omega)
     rw [hls k hk, show (E.take k).map eB = ((E.map eB).drop 0).take (k - 0) by rw [List.drop_zero, Nat.sub_zero, List.map_take]] at cd2
     dsimp only [zeroS] at cd2
     repeat' ((conv => whnf); first
      | ((with_reducible apply spB_cong); (focus (simp only [splQ, Int.reduceBEq, Int.reduceBNe]; rfl)))
      | with_reducible first | refine spB_no (by decide) ?_
      | (with_reducible refine spB_dec ?_ ?_ <;> intro _ <;> (try (exfalso; (first | (simp only [LN] at *; omega)))))
      | ((with_reducible refine slN_hi k ?_ ?_ ?_); (focus rfl); (focus (rw [List.length_map]; omega)))
      | with_reducible refine wr_i64 (by first | omega | (simp only [LN] at *; omega)) ?_
      | ((first | (with_reducible refine Z.callZ_mk ?_ (cd2) ?_)); (focus ((repeat' (first | exact trivial | exact rfl | apply And.intro)); done)))
      | fail)
     all_goals (try (conv => whnf))
     all_goals try first | (show Nat.ble _ _ = true; rfl) | (exfalso; rename_i hz; cases hz; done) | (exfalso; (try simp only [LN] at *) <;> omega)
     all_goals first
      | ((refine Z.rndK ((k + 1)) (fun s => [0, 1, 2]) rfl rfl rfl rfl ?_ ?_ ?_ ?_); (focus (repeat' (first | exact trivial | exact rfl | apply And.intro))); (focus (repeat' (first | exact trivial))); (focus (exact ⟨by (try dsimp only); omega, by (try dsimp only); omega⟩)); ((try dsimp only); omega))
      | fail
    have hkl : k = min E.length 120 := by omega
    repeat' ((conv => whnf); first
     | (with_reducible refine spB_dec ?_ ?_ <;> intro _ <;> (try (exfalso; (first | (simp only [LN] at *; omega)))))
     | fail)
    all_goals (try (conv => whnf))
    subst hkl
    exact hq9
   repeat' ((conv => whnf); first
    | with_reducible first | refine spB_t ?_
    | ((with_reducible apply spB_cong); (focus (simp only [splQ, Int.reduceBEq, Int.reduceBNe]; rfl)))
    | with_reducible first | refine spB_no (by decide) ?_
    | ((with_reducible refine slN_hi m ?_ ?_ ?_); (focus (rw [List.length_map]; omega)); (focus (rw [List.length_map]; omega)))
    | ((first | (with_reducible refine Z.callZ_mk ?_ (cd4) ?_) | (with_reducible refine Z.callZ_mk ?_ (cq) ?_)); (focus ((repeat' (first | exact trivial | exact rfl | apply And.intro)); done)))
    | ((first | (with_reducible refine Z.callZ_mk ?_ (ce2) ?_)); (focus ((repeat' (first | exact trivial | exact rfl | apply And.intro)); done)))
    | fail)
   all_goals (try (conv => whnf))
   all_goals try (show Nat.ble _ _ = true; rfl)
   all_goals try (exfalso; rename_i hz; cases hz; done)
   all_goals try (exfalso; (try simp only [LN] at *) <;> omega))
  all_goals first
   | ((first | (with_reducible apply Z.retF1)); (focus rfl); (repeat' (first | exact trivial | exact rfl | apply And.intro)); (all_goals (try exact (fun _ => none))); all_goals (first | (simp; done)))
   | fail
 ·dsimp only [zeroS] at cd4
  rw [hR] at cd4
  repeat' ((conv => whnf); first
   | with_reducible first | refine spB_t ?_
   | ((with_reducible apply spB_cong); (focus (simp only [splQ, Int.reduceBEq, Int.reduceBNe]; rfl)))
   | with_reducible first | refine spB_no (by decide) ?_
   | ((first | (with_reducible refine Z.callZ_mk ?_ (wakes_con) ?_) | (with_reducible refine Z.callZ_mk ?_ (cs) ?_) | (with_reducible refine Z.callZ_mk ?_ (ce) ?_) | (with_reducible refine Z.callZ_mk ?_ (cd1) ?_)); (focus ((repeat' (first | exact trivial | exact rfl | apply And.intro)); done)))
   | ((first | (with_reducible refine Z.callZ_mk ?_ (cm) ?_)); (focus ((repeat' (first | exact trivial | exact rfl | apply And.intro)); done)))
   | fail)
  all_goals (try (conv => whnf))
  all_goals try first | (show Nat.ble _ _ = true; rfl) | (exfalso; rename_i hz; cases hz; done) | (exfalso; (try simp only [LN] at *) <;> omega)
  all_goals (
   apply loopQ3
   ·intro Q0 hq9
    refine Z.loopK tabOk (fun zq : Nat => [(42, .val (.int .i64 (zq : Int)))]) (fun zq : Nat => ([] : Z.Kr)) (fun zq => zq ≤ E.length ∧ zq ≤ 120) (fun zq => E.length - zq) 0 3 [(1, _), (6, _), (41, _)] ⟨rfl, rfl, rfl, trivial⟩ [] trivial ?_ ?_ rfl rfl ⟨Nat.zero_le _, Nat.zero_le _⟩ ?_
    ·repeat' (first | exact trivial | apply And.intro | exact ⟨_, rfl, Z.Imp.refl _⟩)
    ·repeat' (first | exact trivial)
    rintro k HINV
    (try dsimp only at HINV); (try dsimp only)
    obtain ⟨HI, HI2⟩ := HINV
    by_cases hk : k < E.length ∧ k < 120
    ·obtain ⟨hk, hk2⟩ := hk
     have cd2 := sdecode_con (E.take k) (isB_take hEB) (by rw [List.length_take]; omega)
     rw [hls k hk, show (E.take k).map eB = ((E.map eB).drop 0).take (k - 0) by rw [List.drop_zero, Nat.sub_zero, List.map_take]] at cd2
     dsimp only [zeroS] at cd2
     repeat' ((conv => whnf); first
      | ((with_reducible apply spB_cong); (focus (simp only [splQ, Int.reduceBEq, Int.reduceBNe]; rfl)))
      | with_reducible first | refine spB_no (by decide) ?_
      | (with_reducible refine spB_dec ?_ ?_ <;> intro _ <;> (try (exfalso; (first | (simp only [LN] at *; omega)))))
      | ((with_reducible refine slN_hi k ?_ ?_ ?_); (focus rfl); (focus (rw [List.length_map]; omega)))
      | with_reducible refine wr_i64 (by first | omega | (simp only [LN] at *; omega)) ?_
      | ((first | (with_reducible refine Z.callZ_mk ?_ (cd2) ?_)); (focus ((repeat' (first | exact trivial | exact rfl | apply And.intro)); done)))
      | fail)
     all_goals (try (conv => whnf))
     all_goals try first | (show Nat.ble _ _ = true; rfl) | (exfalso; rename_i hz; cases hz; done) | (exfalso; (try simp only [LN] at *) <;> omega)
     all_goals first
      | ((refine Z.rndK ((k + 1)) (fun s => [0, 1, 2]) rfl rfl rfl rfl ?_ ?_ ?_ ?_); (focus (repeat' (first | exact trivial | exact rfl | apply And.intro))); (focus (repeat' (first | exact trivial))); (focus (exact ⟨by (try dsimp only); omega, by (try dsimp only); omega⟩)); ((try dsimp only); omega))
      | fail
    have hkl : k = min E.length 120 := by omega
    repeat' ((conv => whnf); first
     | (with_reducible refine spB_dec ?_ ?_ <;> intro _ <;> (try (exfalso; (first | (simp only [LN] at *; omega)))))
     | fail)
    all_goals (try (conv => whnf))
    subst hkl
    exact hq9
   repeat' ((conv => whnf); first
    | with_reducible first | refine spB_t ?_
    | ((with_reducible apply spB_cong); (focus (simp only [splQ, Int.reduceBEq, Int.reduceBNe]; rfl)))
    | ((with_reducible refine slN_hi m ?_ ?_ ?_); (focus (rw [List.length_map]; omega)); (focus (rw [List.length_map]; omega)))
    | ((first | (with_reducible refine Z.callZ_mk ?_ (cd4) ?_)); (focus ((repeat' (first | exact trivial | exact rfl | apply And.intro)); done)))
    | ((first | (with_reducible refine Z.callZ_mk ?_ (cm0) ?_)); (focus ((repeat' (first | exact trivial | exact rfl | exact Z.low_nil | apply And.intro)); done)))
    | fail)
   all_goals (try (conv => whnf))
   all_goals try (show Nat.ble _ _ = true; rfl)
   all_goals try (exfalso; rename_i hz; cases hz; done)
   all_goals try (exfalso; (try simp only [LN] at *) <;> omega))
  all_goals first
   | ((first | (with_reducible apply Z.retF1)); (focus rfl); (repeat' (first | exact trivial | (with_reducible apply Z.frz_one) | (with_reducible apply Z.fq_bool) | exact rfl | apply And.intro)); (all_goals (try exact (fun _ => none))); all_goals (first | (simp; done)))
   | fail
 ·dsimp only [zeroS] at cd4
  rw [hR] at cd4
  repeat' ((conv => whnf); first
   | with_reducible first | refine spB_t ?_
   | ((with_reducible apply spB_cong); (focus (simp only [splQ, Int.reduceBEq, Int.reduceBNe]; rfl)))
   | with_reducible first | refine spB_no (by decide) ?_
   | ((first | (with_reducible refine Z.callZ_mk ?_ (wakes_con) ?_) | (with_reducible refine Z.callZ_mk ?_ (cs) ?_) | (with_reducible refine Z.callZ_mk ?_ (ce) ?_) | (with_reducible refine Z.callZ_mk ?_ (cd1) ?_)); (focus ((repeat' (first | exact trivial | exact rfl | apply And.intro)); done)))
   | ((first | (with_reducible refine Z.callZ_mk ?_ (cm) ?_)); (focus ((repeat' (first | exact trivial | exact rfl | apply And.intro)); done)))
   | fail)
  all_goals (try (conv => whnf))
  all_goals try first | (show Nat.ble _ _ = true; rfl) | (exfalso; rename_i hz; cases hz; done) | (exfalso; (try simp only [LN] at *) <;> omega)
  all_goals (
   apply loopQ3
   ·intro Q0 hq9
    refine Z.loopK tabOk (fun zq : Nat => [(42, .val (.int .i64 (zq : Int)))]) (fun zq : Nat => ([] : Z.Kr)) (fun zq => zq ≤ E.length ∧ zq ≤ 120) (fun zq => E.length - zq) 0 3 [(1, _), (6, _), (41, _)] ⟨rfl, rfl, rfl, trivial⟩ [] trivial ?_ ?_ rfl rfl ⟨Nat.zero_le _, Nat.zero_le _⟩ ?_
    ·repeat' (first | exact trivial | apply And.intro | exact ⟨_, rfl, Z.Imp.refl _⟩)
    ·repeat' (first | exact trivial)
    rintro k HINV
    (try dsimp only at HINV); (try dsimp only)
    obtain ⟨HI, HI2⟩ := HINV
    by_cases hk : k < E.length ∧ k < 120
    ·obtain ⟨hk, hk2⟩ := hk
     have cd2 := sdecode_con (E.take k) (isB_take hEB) (by rw [List.length_take]; omega)
     rw [hls k hk, show (E.take k).map eB = ((E.map eB).drop 0).take (k - 0) by rw [List.drop_zero, Nat.sub_zero, List.map_take]] at cd2
     dsimp only [zeroS] at cd2
     repeat' ((conv => whnf); first
      | ((with_reducible apply spB_cong); (focus (simp only [splQ, Int.reduceBEq, Int.reduceBNe]; rfl)))
      | with_reducible first | refine spB_no (by decide) ?_
      | (with_reducible refine spB_dec ?_ ?_ <;> intro _ <;> (try (exfalso; (first | (simp only [LN] at *; omega)))))
      | ((with_reducible refine slN_hi k ?_ ?_ ?_); (focus rfl); (focus (rw [List.length_map]; omega)))
      | with_reducible refine wr_i64 (by first | omega | (simp only [LN] at *; omega)) ?_
      | ((first | (with_reducible refine Z.callZ_mk ?_ (cd2) ?_)); (focus ((repeat' (first | exact trivial | exact rfl | apply And.intro)); done)))
      | fail)
     all_goals (try (conv => whnf))
     all_goals try first | (show Nat.ble _ _ = true; rfl) | (exfalso; rename_i hz; cases hz; done) | (exfalso; (try simp only [LN] at *) <;> omega)
     all_goals first
      | ((refine Z.rndK ((k + 1)) (fun s => [0, 1, 2]) rfl rfl rfl rfl ?_ ?_ ?_ ?_); (focus (repeat' (first | exact trivial | exact rfl | apply And.intro))); (focus (repeat' (first | exact trivial))); (focus (exact ⟨by (try dsimp only); omega, by (try dsimp only); omega⟩)); ((try dsimp only); omega))
      | fail
    have hkl : k = min E.length 120 := by omega
    repeat' ((conv => whnf); first
     | (with_reducible refine spB_dec ?_ ?_ <;> intro _ <;> (try (exfalso; (first | (simp only [LN] at *; omega)))))
     | fail)
    all_goals (try (conv => whnf))
    subst hkl
    exact hq9
   repeat' ((conv => whnf); first
    | with_reducible first | refine spB_t ?_
    | ((with_reducible apply spB_cong); (focus (simp only [splQ, Int.reduceBEq, Int.reduceBNe]; rfl)))
    | with_reducible first | refine spB_no (by decide) ?_
    | ((with_reducible refine slN_hi m ?_ ?_ ?_); (focus (rw [List.length_map]; omega)); (focus (rw [List.length_map]; omega)))
    | ((first | (with_reducible refine Z.callZ_mk ?_ (cd4) ?_)); (focus ((repeat' (first | exact trivial | exact rfl | apply And.intro)); done)))
    | ((first | (with_reducible refine Z.callZ_mk ?_ (cm0) ?_)); (focus ((repeat' (first | exact trivial | exact rfl | exact Z.low_nil | apply And.intro)); done)))
    | fail)
   all_goals (try (conv => whnf))
   all_goals try (show Nat.ble _ _ = true; rfl)
   all_goals try (exfalso; rename_i hz; cases hz; done)
   all_goals try (exfalso; (try simp only [LN] at *) <;> omega))
  all_goals first
   | ((first | (with_reducible apply Z.retF1)); (focus rfl); (repeat' (first | exact trivial | (with_reducible apply Z.frz_one) | (with_reducible apply Z.fq_bool) | exact rfl | apply And.intro)); (all_goals (try exact (fun _ => none))); all_goals (first | (simp; done)))
   | fail
end Go.Proofs.Ytopieffkpdlpbaa
namespace Go.Proofs.Ytopieffkpdlpbaa
open Go Go.RowKit Wx
set_option maxHeartbeats 4000000
def okKw (x : Tab.Kc) : Prop := (Lit.int .i64 x.src).wf = true ∧ (Lit.int .i64 x.key).wf = true ∧ (Lit.int .i64 x.cnt).wf = true ∧ (Lit.int .i64 x.sum).wf = true
theorem rowKc (row : List RT) (h : RowF (.st (.cons 3 1 (.int .i64) (.cons 3 1 (.int .i64) (.cons 65 2 (.st (.cons 2 1 (.int .i64) (.cons 2 1 (.int .i64) .nil))) .nil)))) row) : ∃ x, row = Tab.eK x ∧ okKw x := by
 obtain ⟨a0, r0, rfl, _, ⟨z0, rfl, w0⟩, a1, r1, rfl, _, ⟨z1, rfl, w1⟩, a2, r2, rfl, _, ⟨a3, r3, rfl, _, ⟨z2, rfl, w2⟩, a4, r4, rfl, _, ⟨z3, rfl, w3⟩, rfl⟩, rfl⟩ := h
 exact ⟨⟨z0, z1, z2, z3⟩, rfl, w0, w1, w2, w3⟩
def okNm (x : Nm) : Prop := (Lit.int .i64 x.s).wf = true ∧ (Lit.int .i64 x.a).wf = true ∧ (Lit.int .i64 x.n).wf = true
theorem rowNm (row : List RT) (h : RowF (.st (.cons 3 1 (.int .i64) (.cons 3 1 (.int .i64) (.cons 3 1 (.int .i64) .nil)))) row) : ∃ x, row = eN x ∧ okNm x := by
 obtain ⟨a0, r0, rfl, _, ⟨z0, rfl, w0⟩, a1, r1, rfl, _, ⟨z1, rfl, w1⟩, a2, r2, rfl, _, ⟨z2, rfl, w2⟩, rfl⟩ := h
 exact ⟨⟨z0, z1, z2⟩, rfl, w0, w1, w2⟩
theorem row_arr {rows : List (List RT)} (h : ∀ row ∈ rows, RowF (.int .i64) row ∧ row.length = 1) : ∃ zs : List Int, rows.flatten = zs.map (fun z => RT.v (.int .i64 z)) ∧ zs.length = rows.length ∧ ∀ z ∈ zs, (Lit.int .i64 z).wf = true := by
 induction rows with
 | nil => exact ⟨[], rfl, rfl, fun z h => nomatch h⟩
 | cons r rs ih =>
  obtain ⟨zs, e, l, w⟩ := ih fun row hr => h row (by simp [hr])
  obtain ⟨⟨z, rfl, w0⟩, _⟩ := h r (by simp)
  exact ⟨z :: zs, by simp [e], by simp [l], fun y hy => by
   rcases List.mem_cons.1 hy with rfl | h2
   ·exact w0
   ·exact w y h2⟩
theorem list8 {zs : List Int} (h : zs.length = 8) : ∃ p0 p1 p2 p3 p4 p5 p6 p7, zs = [p0, p1, p2, p3, p4, p5, p6, p7] := by
 match zs, h with
 | [p0, p1, p2, p3, p4, p5, p6, p7], _ => exact ⟨p0, p1, p2, p3, p4, p5, p6, p7, rfl⟩
def wI (z : Int) : Prop := (Lit.int .i64 z).wf = true
def okSn (x : Sn) : Prop := ((wI x.op ∧ wI x.ix ∧ wI x.w) ∧ (wI x.o0 ∧ wI x.o1 ∧ wI x.o2 ∧ wI x.o3 ∧ wI x.o4 ∧ wI x.o5 ∧ wI x.o6 ∧ wI x.o7)) ∧ (x.rows.length ≤ maxLen ∧ ∀ z ∈ x.rows, okKw z) ∧ x.txs.length ≤ maxLen ∧ ∀ z ∈ x.txs, okNm z
theorem rowSn (row : List RT) (h : RowF (.st (.cons 3 1 (.int .i64) (.cons 3 1 (.int .i64) (.cons 3 1 (.int .i64) (.cons 4 1 .bool (.cons 28 1 (.st (.cons 26 1 (.sl (.st (.cons 3 1 (.int .i64) (.cons 3 1 (.int .i64) (.cons 65 2 (.st (.cons 2 1 (.int .i64) (.cons 2 1 (.int .i64) .nil))) .nil)))) 70 4) .nil)) (.cons 30 8 (.arr 8 (.int .i64) 3 1) (.cons 31 1 (.sl (.st (.cons 3 1 (.int .i64) (.cons 3 1 (.int .i64) (.cons 3 1 (.int .i64) .nil)))) 90 3) .nil)))))))) row) : ∃ x, row = eSn x ∧ okSn x := by
 obtain ⟨a0, r0, rfl, _, ⟨z0, rfl, w0⟩, a1, r1, rfl, _, ⟨z1, rfl, w1⟩, a2, r2, rfl, _, ⟨z2, rfl, w2⟩, a3, r3, rfl, _, ⟨z3, rfl⟩, a4, r4, rfl, _, ⟨a5, r5, rfl, _, ⟨rows5, rfl, l5, h5⟩, rfl⟩, a6, r6, rfl, _, ⟨rows6, rfl, l6, h6⟩, a7, r7, rfl, _, ⟨rows7, rfl, l7, h7⟩, rfl⟩ := h
 obtain ⟨z5, rfl, k5⟩ := rows_map Tab.eK okKw rowKc rows5 h5
 obtain ⟨z7, rfl, k7⟩ := rows_map eN okNm rowNm rows7 h7
 obtain ⟨zs, e6, ln6, w6⟩ := row_arr h6
 obtain ⟨p0, p1, p2, p3, p4, p5, p6, p7, rfl⟩ := list8 (ln6.trans l6)
 rw [e6]
 exact ⟨⟨z0, z1, z2, z3, z5, p0, p1, p2, p3, p4, p5, p6, p7, z7⟩, rfl, ⟨⟨w0, w1, w2⟩, w6 p0 (by simp), w6 p1 (by simp), w6 p2 (by simp), w6 p3 (by simp), w6 p4 (by simp), w6 p5 (by simp), w6 p6 (by simp), w6 p7 (by simp)⟩, ⟨by simpa using l5, k5⟩, by simpa using l7, k7⟩
end Go.Proofs.Ytopieffkpdlpbaa
namespace Go.Proofs.Ytopieffkpdlpbaa
open Go Go.RowKit Wx
set_option maxHeartbeats 4000000
open Tab
theorem wf64 {z : Int} (h : (Lit.int .i64 z).wf = true) : -9223372036854775808 ≤ z ∧ z ≤ 9223372036854775807 := by
 simp [Lit.wf, IntKind.min, IntKind.max, IntKind.signed, IntKind.bits] at h; omega
theorem wf8 {z : Int} (h : (Lit.int .u8 z).wf = true) : 0 ≤ z ∧ z ≤ 255 := by
 simp [Lit.wf, IntKind.min, IntKind.max, IntKind.signed, IntKind.bits] at h; omega
namespace snapBack
theorem main (avs : List A0) (h : All2 FitA [(.st (.cons 3 1 (.int .i64) (.cons 3 1 (.int .i64) (.cons 3 1 (.int .i64) (.cons 4 1 .bool (.cons 28 1 (.st (.cons 26 1 (.sl (.st (.cons 3 1 (.int .i64) (.cons 3 1 (.int .i64) (.cons 65 2 (.st (.cons 2 1 (.int .i64) (.cons 2 1 (.int .i64) .nil))) .nil)))) 70 4) .nil)) (.cons 30 8 (.arr 8 (.int .i64) 3 1) (.cons 31 1 (.sl (.st (.cons 3 1 (.int .i64) (.cons 3 1 (.int .i64) (.cons 3 1 (.int .i64) .nil)))) 90 3) .nil)))))))), (.sl (.int .u8) 5 1)] avs) : Con Try.prog 6 avs (fun x K t => x = .val (.bool true) ∧ K = [] ∧ t = 0) := by
 obtain ⟨x0, x1, rfl, h0, h1⟩ : ∃ x0 x1, avs = [x0, x1] ∧ FitA (.st (.cons 3 1 (.int .i64) (.cons 3 1 (.int .i64) (.cons 3 1 (.int .i64) (.cons 4 1 .bool (.cons 28 1 (.st (.cons 26 1 (.sl (.st (.cons 3 1 (.int .i64) (.cons 3 1 (.int .i64) (.cons 65 2 (.st (.cons 2 1 (.int .i64) (.cons 2 1 (.int .i64) .nil))) .nil)))) 70 4) .nil)) (.cons 30 8 (.arr 8 (.int .i64) 3 1) (.cons 31 1 (.sl (.st (.cons 3 1 (.int .i64) (.cons 3 1 (.int .i64) (.cons 3 1 (.int .i64) .nil)))) 90 3) .nil)))))))) x0 ∧ FitA (.sl (.int .u8) 5 1) x1 := by
  cases avs with
  | nil => exact h.elim
  | cons x0 r => cases r with
   | nil => exact h.2.elim
   | cons x1 r => cases r with
    | nil => exact ⟨x0, x1, rfl, h.1, h.2.1⟩
    | cons => exact h.2.2.elim
 clear h
 obtain ⟨row0, hrow0, rfl⟩ := h0
 obtain ⟨x, rfl, kx⟩ := rowSn row0 hrow0
 obtain ⟨b, rfl, lb, wb⟩ := fit_ints h1
 exact snapback_con x b (by have := kx.2.1.1; simpa [maxLen] using this) (by have := kx.2.2.1; simpa [maxLen] using this) (fun z hz => ⟨wf64 (kx.2.1.2 z hz).2.2.1, wf64 (kx.2.1.2 z hz).2.2.2⟩) (by simpa [maxLen] using lb) (fun z hz => wf8 (wb z hz))
end snapBack
end Go.Proofs.Ytopieffkpdlpbaa
