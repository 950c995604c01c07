import Derived.Test.YtopieffkpdlpbaaGreatOwn7
import Derived.Test.YtopieffkpdlpbaaGreatOwn6
set_option linter.unusedVariables false
set_option linter.unusedSimpArgs false
namespace Go.Proofs.YtopieffkpdlpbaaGreat
open Go Go.RowKit Wx
set_option maxHeartbeats 40000000
open Tab
theorem wr_orx {y b : Int} {A : Int → Prop} (hy : 0 ≤ y ∧ y < 4294967296) (hb : 0 ≤ b ∧ b ≤ 255) (k : A ((y * 256 + b) * 256)) : wr .u64 (IntKind.u64.wrap ((BitVec.ofInt IntKind.u64.bits (y * 256) ||| BitVec.ofInt IntKind.u64.bits b).toNat : Int) * 2 ^ (min (Int.toNat 8) IntKind.u64.bits)) A := by
 rw [or_add (x := y) (by omega) hb]
 exact wr_shl8 (by omega) k
theorem wr_or32 {y b : Int} {A : Int → Prop} (hy : 0 ≤ y ∧ y < 16777216) (hb : 0 ≤ b ∧ b ≤ 255) (k : A (y * 256 + b)) : wr .u32 (IntKind.u64.wrap ((BitVec.ofInt IntKind.u64.bits (y * 256) ||| BitVec.ofInt IntKind.u64.bits b).toNat : Int)) A := ⟨y * 256 + b, by
 rw [or_add (x := y) (by omega) hb]
 simp [IntKind.wrap, IntKind.bits, IntKind.signed]; omega, k⟩
theorem split4 {b : List Int} (h : 4 ≤ b.length) : ∃ x y z w r, b = x :: y :: z :: w :: r := by
 match b, h with
 | x :: y :: z :: w :: r, _ => exact ⟨x, y, z, w, r, rfl⟩
def preN (acc : List Nm) (x : List Nm × Int × List Int) : List Nm × Int × List Int := if x.2.1 = 0 then (acc ++ x.1, 0, x.2.2) else ([], 7, [])
theorem preN_nil (n : Nat) (b : List Int) : decN n b = preN [] (decN n b) := by
 unfold preN
 cases n with
 | zero => simp [decN]
 | succ n =>
  rw [decN]
  split
  ·simp
  ·split
   ·simp
   ·simp
theorem preN_step {acc : List Nm} {n : Nat} {b : List Int} {x : Nm} (hl : ¬ b.length < 9) (h : nmD b = x) : preN acc (decN (n + 1) b) = preN (acc ++ [x]) (decN n (b.drop 9)) := by
 unfold preN
 simp only [decN, if_neg hl, h]
 by_cases h2 : (decN n (b.drop 9)).2.1 = 0
 ·simp [h2]
 ·simp [h2]
theorem preN_bad {acc : List Nm} {n : Nat} {b : List Int} (hl : b.length < 9) : preN acc (decN (n + 1) b) = ([], 7, []) := by
 unfold preN
 simp only [decN, if_pos hl]
 rfl
end Go.Proofs.YtopieffkpdlpbaaGreat
namespace Go.Proofs.YtopieffkpdlpbaaGreat
open Go Go.RowKit Wx
set_option maxHeartbeats 40000000
open Tab
end Go.Proofs.YtopieffkpdlpbaaGreat
namespace Go.Proofs.YtopieffkpdlpbaaGreat
open Go Go.RowKit Wx
set_option maxHeartbeats 4000000
open Tab
end Go.Proofs.YtopieffkpdlpbaaGreat
namespace Go.Proofs.YtopieffkpdlpbaaGreat
open Go Go.RowKit Wx
set_option maxHeartbeats 4000000
open Tab
end Go.Proofs.YtopieffkpdlpbaaGreat
namespace Go.Proofs.YtopieffkpdlpbaaGreat
open Go Go.RowKit Wx
set_option maxHeartbeats 4000000
open Tab
end Go.Proofs.YtopieffkpdlpbaaGreat
namespace Go.Proofs.YtopieffkpdlpbaaGreat
open Go Go.RowKit Wx
set_option maxHeartbeats 4000000
open Tab
end Go.Proofs.YtopieffkpdlpbaaGreat
namespace Go.Proofs.YtopieffkpdlpbaaGreat
open Go Go.RowKit Wx
set_option maxHeartbeats 4000000
open Tab
end Go.Proofs.YtopieffkpdlpbaaGreat
namespace Go.Proofs.YtopieffkpdlpbaaGreat
open Go Go.RowKit Wx
set_option maxHeartbeats 4000000
open Tab
end Go.Proofs.YtopieffkpdlpbaaGreat
namespace Go.Proofs.YtopieffkpdlpbaaGreat
open Go Go.RowKit Wx
set_option maxHeartbeats 4000000
open Tab
end Go.Proofs.YtopieffkpdlpbaaGreat
namespace Go.Proofs.YtopieffkpdlpbaaGreat
open Go Go.RowKit Wx
set_option maxHeartbeats 4000000
open Tab
end Go.Proofs.YtopieffkpdlpbaaGreat
namespace Go.Proofs.YtopieffkpdlpbaaGreat
open Go Go.RowKit Wx
set_option maxHeartbeats 4000000
open Tab
theorem putO4_con (b : List Int) (x : Int) (hb : b.length ≤ 1099511627776) (hx : 0 ≤ x ∧ x < 18446744073709551616) : Con Tryz.prog 78 [.one (.ro false 1 (b.map eB)), .one (.v (.int .u64 x)), .one (.v (.int .i64 4))] (fun rx rK rt => rx = .c (.osl 0 0 (b.length + 4) (some (b.length + 4))) ∧ rK = [(0, some ⟨(b ++ be 4 x).map cB, 1, 5, false⟩)] ∧ rt = 1) := putO_con b x 4 hb (by decide) hx
theorem putO32_con (b : List Int) (x : Int) (hb : b.length ≤ 1099511627776) (hx : 0 ≤ x ∧ x < 4294967296) : Con Tryz.prog 39 [.one (.ro false 1 (b.map eB)), .one (.v (.int .u32 x))] (fun rx rK rt => rx = .c (.osl 0 0 (b.length + 4) (some (b.length + 4))) ∧ rK = [(0, some ⟨(b ++ be 4 x).map cB, 1, 5, false⟩)] ∧ rt = 1) := by
 refine Z.con_ofZ tabOk 9 Tryz.f39 _ Tryz.func39 (by kernel_rfl) rfl rfl rfl rfl ?_
 repeat' ((conv => whnf); first
  | with_reducible first | refine spB_t ?_
  | ((with_reducible apply spB_cong); (focus (simp only [splQ, Int.reduceBEq, Int.reduceBNe]; rfl)))
  | with_reducible first | refine spB_yes (by decide) ?_ | refine spB_no (by decide) ?_ | refine spB_f ?_ | refine spB_not ?_ | refine spB_yes (by assumption) ?_ | refine spB_no (by assumption) ?_
  | (with_reducible refine spB_dec ?_ ?_ <;> intro _ <;> (try (exfalso; first | contradiction | omega | (rename_i hz; refine hz ?_; simp; done) | (rename_i hz; simp at hz; done) | (simp only [LN] at *; omega))))
  | (with_reducible refine spB_beq ?_ ?_ <;> intro _ <;> (try (exfalso; first | contradiction | omega | (rename_i hz; refine hz ?_; simp; done) | (rename_i hz; simp at hz; done) | (simp only [LN] at *; omega))))
  | (with_reducible refine spB_bne ?_ ?_ <;> intro _ <;> (try (exfalso; first | contradiction | omega | (rename_i hz; refine hz ?_; simp; done) | (rename_i hz; simp at hz; done) | (simp only [LN] at *; omega))))
  | (with_reducible refine spB_mk ?_ ?_ <;> intro _ <;> (try (exfalso; first | contradiction | omega | (rename_i hz; refine hz ?_; simp; done) | (rename_i hz; simp at hz; done) | (simp only [LN] at *; omega))))
  | ((with_reducible apply rowN_mk); (focus rfl))
  | ((with_reducible apply ixN_lit); (focus rfl); (focus rfl))
  | ((with_reducible apply ixN_litp); (focus rfl); (focus ((try simp only [LN] at *) <;> omega)))
  | ((with_reducible refine eqN_mk2 ?_ ?_); (focus rfl))
  | with_reducible refine wr_i64 (by first | omega | (simp only [LN] at *; omega)) ?_
  | with_reducible refine wr_u64 (by omega) ?_
  | with_reducible refine wr_u8 (by omega) ?_
  | with_reducible refine wr_u32 (by omega) ?_
  | with_reducible first | refine wr_mk _ rfl ?_
  | ((with_reducible refine ixN_nat ?_ ?_); (focus ((try simp only [LN] at *) <;> omega)))
  | ((with_reducible refine rowN_map ?_ ?_); (focus ((try simp only [LN] at *) <;> omega)); intro x hx)
  | with_reducible refine eqN_dec (by omega) ?_
  | with_reducible first | refine apN_mk (by kernel_rfl) ?_
  | ((first | (with_reducible apply Z.conZ_mz ?_ (putO4_con _ _ ?_ ?_) ?_) | (with_reducible apply Z.callZ_mk ?_ (putO4_con _ _ ?_ ?_) ?_)); (rotate_left 2); (focus ((repeat' (first | exact trivial | exact rfl | exact Z.low_nil | exact Z.low_nil2 | exact low_osl (fun _ => rfl) | (refine Z.low_osln ?_ (fun _ => rfl); (simp only [List.length_map]; done)) | exact low_oslr (fun _ => rfl) | exact Z.low_gslm (by first | rfl | exact Z.kb_some rfl) (fun _ => rfl) | exact .inl rfl | exact .inr ⟨_, rfl⟩ | apply And.intro)); done)); (iterate 2 (focus (first | assumption | omega | ((try simp only [LN] at *); omega)))))
  | ((with_reducible refine eqN_mk2 ?_ ?_); (focus (exact Z.kb_some rfl)))
  | ((with_reducible apply ex_and); exact rfl))
 all_goals (try (conv => whnf))
 all_goals try first | (show Nat.ble _ _ = true; rfl) | (exfalso; rename_i hz; cases hz; done) | (exfalso; (try simp only [LN] at *) <;> omega)
 all_goals first
  | (refine ret1b 0 (.c (.osl 0 0 (b.length + 4) (some (b.length + 4)))) ((b ++ be 4 x).map cB) 1 5 false _ rfl rfl rfl ren_cB ren_cB rfl (own_map fun _ => rfl) ⟨rfl, rfl, rfl⟩)
  | (exfalso; rename_i hz; cases hz; done)
  | (exfalso; (try simp only [LN] at *) <;> omega)
  | (fail)
end Go.Proofs.YtopieffkpdlpbaaGreat
namespace Go.Proofs.YtopieffkpdlpbaaGreat
open Go Go.RowKit Wx
set_option maxHeartbeats 4000000
namespace Tab
theorem put_con (b : List Int) (x : Int) (n : Nat) (hb : b.length ≤ 1099511627776) (hn : n ≤ 8) (hx : 0 ≤ x ∧ x < 18446744073709551616) : Con Tryz.prog 78 [.one (.ro false 1 (b.map eB)), .one (.v (.int .u64 x)), .one (.v (.int .i64 (n : Int)))] (fun rx rK rt => rx = .c (.ro true 1 ((b ++ be n x).map eB)) ∧ rK = [] ∧ rt = 0) := by
 refine Z.con_ofF tabOk 34 Tryz.f78 _ Tryz.func78 (by kernel_rfl) rfl rfl rfl rfl ?_
 repeat' ((conv => whnf); first
  | ((with_reducible refine mkN_any (b.length + n) ?_ ?_ ?_ ?_ ?_); (iterate 4 (focus ((try simp only [LN] at *) <;> omega))))
  | ((with_reducible refine cpyN.mk ?_ ?_ ?_ ?_); (focus (first | (simp; done))); (focus (first | exact one_map2 (fun _ => rfl))); (focus ((try simp only [LN] at *) <;> omega)))
  | with_reducible refine wr_i64 (by first | omega | (simp only [LN] at *; omega)) ?_
  | fail)
 all_goals (try (conv => whnf))
 all_goals try first | (show Nat.ble _ _ = true; rfl) | (exfalso; rename_i hz; cases hz; done) | (exfalso; (try simp only [LN] at *) <;> omega)
 refine Z.loopK tabOk (fun zq : Nat × Int × List Int => [(18, .val (.int .i64 (zq.1 : Int))), (1, .val (.int .u64 zq.2.1))]) (fun zq : Nat × Int × List Int => ([(0, some (Z.Ob.b ⟨(b ++ List.replicate (n - zq.1) 0 ++ zq.2.2).map cB, 1, 5, false⟩))] : Z.Kr)) (fun zq => zq.1 ≤ n ∧ zq.2.2.length = zq.1 ∧ be (n - zq.1) zq.2.1 ++ zq.2.2 = be n x ∧ 0 ≤ zq.2.1 ∧ zq.2.1 < 18446744073709551616) (fun zq => n - zq.1) (0, x, []) 1 [(7, _), (17, _)] ⟨rfl, rfl, trivial⟩ [] trivial ?_ ?_ rfl rfl ⟨Nat.zero_le _, rfl, by simp, hx⟩ ?_
 ·repeat' (first | exact trivial | apply And.intro | exact ⟨_, rfl, Z.Imp.refl _⟩)
 ·repeat' (first | exact trivial | (intro b hb; cases hb; refine ⟨_, rfl, ⟨rfl, rfl, rfl⟩, Z.imp_eq ?_⟩; first | rfl | exact put_lay (by simp) | exact (put_lay (by simp)).trans (by simp); done) | apply And.intro)
 rintro ⟨i, y, T⟩ HINV
 dsimp only at HINV ⊢
 obtain ⟨HI, HT, HB, hy⟩ := HINV
 have hlr : (b ++ List.replicate (n - i) 0 ++ T).length = b.length + n := by simp; omega
 by_cases hi : i < n
 ·obtain ⟨m, hm⟩ : ∃ m, n - i = m + 1 := ⟨n - i - 1, by omega⟩
  rw [hm] at hlr HB ⊢
  rw [be, List.append_assoc] at HB
  repeat' ((conv => whnf); first
   | (with_reducible refine spB_dec ?_ ?_ <;> intro _ <;> (try (exfalso; first | contradiction | omega | (rename_i hz; refine hz ?_; simp; done) | (rename_i hz; simp at hz; done) | (simp only [LN] at *; omega))))
   | (with_reducible refine vN_shr8 (by omega) ?_)
   | ((with_reducible refine ixN_mk (b.length + m) ?_ ?_ ?_); (focus (first | ((try simp only [LN] at *) <;> omega))); (focus ((try simp only [LN] at *) <;> omega)))
   | ((with_reducible refine rowN_mk (cB 0) ?_ ?_); (focus (exact put_row)))
   | with_reducible first | refine wr_mod8 ?_
   | ((with_reducible refine eqN_mk2 ?_ ?_); (focus rfl))
   | with_reducible refine wr_i64 (by first | omega | (simp only [LN] at *; omega)) ?_
   | fail)
  all_goals (try (conv => whnf))
  all_goals try first | (show Nat.ble _ _ = true; rfl) | (exfalso; rename_i hz; cases hz; done) | (exfalso; (try simp only [LN] at *) <;> omega)
  all_goals first
   | ((refine Z.rnd_rw 0 ((b ++ List.replicate (n - (i + 1)) 0 ++ (y % 256) :: T).map cB) rfl rfl ?_ ?_); (focus (rw [show n - (i + 1) = m by omega]; exact put_set)); ((refine Z.rndK ((i + 1, y / 256, (y % 256) :: T)) (fun s => [0]) rfl rfl rfl rfl ?_ ?_ ?_ ?_); (focus (repeat' (first | exact trivial | exact rfl | apply And.intro))); (focus (repeat' (first | exact trivial | exact Z.blk_sub rfl rfl (ren_map fun _ => rfl) | apply And.intro))); (focus (exact ⟨by (try dsimp only); omega, by (try dsimp only); rw [List.length_cons, HT], by (try dsimp only); rw [show n - (i + 1) = m by omega]; exact HB, by (try dsimp only); omega⟩)); ((try dsimp only); omega)))
   | fail
 have hil : i = n := by omega
 subst hil
 rw [Nat.sub_self, be, List.nil_append] at HB
 subst HB
 repeat' ((conv => whnf); first
  | (with_reducible refine spB_dec ?_ ?_ <;> intro _ <;> (try (exfalso; first | contradiction | omega | (rename_i hz; refine hz ?_; simp; done) | (rename_i hz; simp at hz; done) | (simp only [LN] at *; omega))))
  | fail)
 all_goals (try (conv => whnf))
 all_goals try first | (show Nat.ble _ _ = true; rfl) | (exfalso; rename_i hz; cases hz; done) | (exfalso; (try simp only [LN] at *) <;> omega)
 all_goals first
  | ((first | (with_reducible apply Z.retF1)); (focus rfl); (repeat' (first | exact trivial | (with_reducible apply Z.frz_one) | ((with_reducible apply Z.fq_osl); (focus rfl); (focus (first | ((try simp only [LN] at *) <;> omega))); (focus (exact fun _ => rfl))) | apply And.intro)); (all_goals (try exact (fun _ => none))); all_goals (first | (simp; done)))
  | fail
theorem put8_con (b : List Int) (x : Int) (hb : b.length ≤ 1099511627776) (hx : 0 ≤ x ∧ x < 18446744073709551616) : Con Tryz.prog 78 [.one (.ro false 1 (b.map eB)), .one (.v (.int .u64 x)), .one (.v (.int .i64 8))] (fun rx rK rt => rx = .c (.ro true 1 ((b ++ be 8 x).map eB)) ∧ rK = [] ∧ rt = 0) := put_con b x 8 hb (by decide) hx
theorem put64_con (b : List Int) (x : Int) (hb : b.length ≤ 1099511627776) (hx : 0 ≤ x ∧ x < 18446744073709551616) : Con Tryz.prog 77 [.one (.ro false 1 (b.map eB)), .one (.v (.int .u64 x))] (fun rx rK rt => rx = .c (.ro true 1 ((b ++ be 8 x).map eB)) ∧ rK = [] ∧ rt = 0) := by
 refine Z.con_ofF tabOk 8 Tryz.f77 _ Tryz.func77 (by kernel_rfl) rfl rfl rfl rfl ?_
 repeat' ((conv => whnf); first
  | ((first | (with_reducible apply Z.callZ_mk ?_ (put8_con _ _ ?_ ?_) ?_)); (rotate_left 2); (focus ((repeat' (first | exact trivial | exact rfl | apply And.intro)); done)); (iterate 2 (focus (first | assumption))))
  | fail)
 all_goals (try (conv => whnf))
 all_goals first
  | ((first | (with_reducible apply Z.retF1)); (focus rfl); (repeat' (first | exact trivial | exact rfl | apply And.intro)); (all_goals (try exact (fun _ => none))); all_goals (rfl))
  | fail
end Tab
end Go.Proofs.YtopieffkpdlpbaaGreat
namespace Go.Proofs.YtopieffkpdlpbaaGreat
open Go Go.RowKit Wx
set_option maxHeartbeats 4000000
namespace Tab
theorem enc_rows {E C : List Int} {a b : Int} {fl : Bool} {S : List (List Ce)} (hS : S = [cB a, cB b]) : List.take (E.length + 2) (List.take E.length (E.map cB) ++ S) ++ (C.map eB).map (List.map (RT.ce fl)) = (E ++ [a, b] ++ C).map cB := by
 subst hS
 rw [ce_cB, List.take_of_length_le (l := E.map cB) (by simp), List.take_of_length_le (by simp), List.map_append, List.map_append]
 rfl
theorem encode_con (l : List Kc) (hl : l.length ≤ 9223372036854775807) : Con Tryz.prog 37 [.agg [.ro false 4 (l.map eK)]] (fun rx rK rt => rx = .tup [.one (.ro true 1 ((encTR l).1.map eB)), .one (.v (.int .i64 (encTR l).2))] ∧ rK = [] ∧ rt = 0) := by
 refine Z.con_ofF tabOk 50 Tryz.f37 _ Tryz.func37 (by kernel_rfl) rfl rfl rfl rfl ?_
 have cc := check_con l hl
 cases hok : tabR l
 ·rw [hok] at cc
  have e1 : encTR l = ([], 220) := by unfold encTR; rw [hok]; rfl
  rw [e1]
  simp only [cond_false] at cc
  repeat' ((conv => whnf); first
   | with_reducible first | refine spB_t ?_
   | ((with_reducible apply spB_cong); (focus (simp only [splQ, Int.reduceBEq, Int.reduceBNe]; rfl)))
   | ((first | (with_reducible refine Z.callZ_mk ?_ (cc) ?_)); (focus ((repeat' (first | exact trivial | exact rfl | apply And.intro)); done)))
   | fail)
  all_goals (try (conv => whnf))
  all_goals try first | (show Nat.ble _ _ = true; rfl) | (exfalso; rename_i hz; cases hz; done) | (exfalso; (try simp only [LN] at *) <;> omega)
  all_goals first
   | ((first | (with_reducible apply Z.retF2)); (focus rfl); (repeat' (first | exact trivial | (with_reducible apply Z.frz_one) | (exact Z.frz_nil) | exact rfl | apply And.intro)); (all_goals (try exact (fun _ => none))); all_goals (first | (simp; done)))
   | fail
 rw [hok] at cc
 have e1 : encTR l = (encT l, 0) := by unfold encTR; rw [hok]; rfl
 rw [e1]
 simp only [cond_true] at cc
 have hl256 := tab_len hok
 have hwl : 0 ≤ IntKind.u16.wrap (l.length : Int) ∧ IntKind.u16.wrap (l.length : Int) < 65536 := by rw [u16_in (by omega)]; omega
 have cp0 := putO16_con [] (IntKind.u16.wrap (l.length : Int)) (by simp) hwl
 rw [List.nil_append] at cp0
 repeat' ((conv => whnf); first
  | ((with_reducible apply spB_cong); (focus (simp only [splQ, Int.reduceBEq, Int.reduceBNe]; rfl)))
  | with_reducible first | refine spB_no (by decide) ?_
  | ((with_reducible refine wr_mk (IntKind.u16.wrap (l.length : Int)) (by rw [List.length_map]) ?_))
  | ((first | (with_reducible refine Z.callZ_mk ?_ (cc) ?_) | (with_reducible refine Z.callZ_mk ?_ (cp0) ?_)); (focus ((repeat' (first | exact trivial | exact rfl | exact Z.low_nil2 | apply And.intro)); done)))
  | fail)
 all_goals (try (conv => whnf))
 all_goals try first | (show Nat.ble _ _ = true; rfl) | (exfalso; rename_i hz; cases hz; done) | (exfalso; (try simp only [LN] at *) <;> omega)
 refine Z.loopK tabOk (fun zq : Nat => [(22, .val (.int .i64 (zq : Int))), (5, .c (.osl 1 0 (be 2 (IntKind.u16.wrap (l.length : Int)) ++ (l.take zq).flatMap encK).length none))]) (fun zq : Nat => ([(0, some (Z.Ob.b ⟨[[.ro false 4 (l.map eK)]], 1, 30, true⟩)), (1, some (Z.Ob.b ⟨(be 2 (IntKind.u16.wrap (l.length : Int)) ++ (l.take zq).flatMap encK).map cB, 1, 5, false⟩))] : Z.Kr)) (fun zq => zq ≤ l.length) (fun zq => l.length - zq) 0 2 [(20, _), (21, _)] ⟨rfl, rfl, trivial⟩ [] trivial ?_ ?_ rfl rfl (Nat.zero_le _) ?_
 ·repeat' (first | exact trivial | apply And.intro | exact ⟨_, rfl, Z.Imp.refl _⟩ | exact ⟨_, rfl, Z.Imp.oslcn (by simp [be_len])⟩)
 ·repeat' (first | exact trivial | exact (fun b hb => ⟨b, hb, Z.ImpO.refl b⟩) | apply And.intro)
 rintro k HINV
 (try dsimp only at HINV); (try dsimp only)
 have hEl : (be 2 (IntKind.u16.wrap (l.length : Int)) ++ (l.take k).flatMap encK).length ≤ 2 + 18 * l.length := by rw [List.length_append, be_len, encKs_len, List.length_take]; omega
 by_cases hi : k < l.length
 ·obtain ⟨x, hx⟩ := getElem?_some' (xs := l) (i := k) hi
  have hsn : (be 2 (IntKind.u16.wrap (l.length : Int)) ++ (l.take (k + 1)).flatMap encK) = (be 2 (IntKind.u16.wrap (l.length : Int)) ++ (l.take k).flatMap encK) ++ [x.src % 256, x.key % 256] ++ (be 8 (IntKind.u64.wrap x.cnt) ++ be 8 (IntKind.u64.wrap x.sum)) := by rw [encKs_snoc hx, encK]; simp only [List.append_assoc]
  generalize hE : (be 2 (IntKind.u16.wrap (l.length : Int)) ++ (l.take k).flatMap encK) = E at *
  have cp1 := put64_con [] (IntKind.u64.wrap x.cnt) (by simp) (u64_rng _)
  rw [List.nil_append] at cp1
  have cp2 := put64_con (be 8 (IntKind.u64.wrap x.cnt)) (IntKind.u64.wrap x.sum) (by simp [be_len]) (u64_rng _)
  have hcl : (be 8 (IntKind.u64.wrap x.cnt) ++ be 8 (IntKind.u64.wrap x.sum)).length = 16 := by simp [be_len]
  generalize hC : be 8 (IntKind.u64.wrap x.cnt) ++ be 8 (IntKind.u64.wrap x.sum) = C at *
  have hsl : E.length + 2 + (List.map eB C).length = (be 2 (IntKind.u16.wrap (l.length : Int)) ++ (l.take (k + 1)).flatMap encK).length := by rw [hsn]; simp only [List.length_append, List.length_map, List.length_cons, List.length_nil]
  repeat' ((conv => whnf); first
   | (with_reducible refine spB_dec ?_ ?_ <;> intro _ <;> (try (exfalso; first | contradiction | omega | (rename_i hz; refine hz ?_; simp; done) | (rename_i hz; simp at hz; done) | (simp only [LN] at *; omega))))
   | with_reducible first | refine Z.rowN_known hx ?_
   | ((with_reducible refine apdE_n ?_); (with_reducible refine apdN.mk ?_ ?_ ?_ ?_ ?_ ?_); (focus (simp; done)); (focus (exact one_map2 (fun _ => rfl))); (focus (show _ ≤ (List.take E.length (List.map cB E) ++ _).length; rw [List.length_append, List.length_take, List.length_map, Nat.min_self]; exact Nat.le_refl _)); (iterate 2 (focus ((try simp only [LN] at *) <;> omega))))
   | ((with_reducible refine apdE_n ?_); (with_reducible refine apdN.mk ?_ ?_ ?_ ?_ ?_ ?_); (focus rfl); (focus (exact one_all (by rfl))); (focus (first | ((try simp only [LN] at *) <;> omega))); (iterate 2 (focus ((try simp only [LN] at *) <;> omega))))
   | with_reducible first | refine wr_mod8 ?_
   | ((with_reducible refine wr_mk (IntKind.u64.wrap x.cnt) rfl ?_))
   | ((with_reducible refine wr_mk (IntKind.u64.wrap x.sum) rfl ?_))
   | ((with_reducible apply ixN_litp); (focus rfl); (focus ((try simp only [LN] at *) <;> omega)))
   | with_reducible refine wr_i64 (by first | omega | (simp only [LN] at *; omega)) ?_
   | ((first | (with_reducible refine Z.conZ_mz ?_ (cp1) ?_)); (focus ((repeat' (first | exact trivial | exact rfl | exact Z.low_nil2 | apply And.intro)); done)))
   | ((first | (with_reducible refine Z.conZ_mz ?_ (cp2) ?_)); (focus ((repeat' (first | exact trivial | exact rfl | apply And.intro)); done)))
   | with_reducible first | refine Z.drawZ_rule tabOk mixOk ?_ | refine Z.apZ_mk (by kernel_rfl) ?_
   | fail)
  all_goals (try (conv => whnf))
  all_goals try first | (show Nat.ble _ _ = true; rfl) | (exfalso; rename_i hz; cases hz; done) | (exfalso; (try simp only [LN] at *) <;> omega)
  all_goals first
   | ((refine Z.rndK ((k + 1)) (fun s => [0, s.idAt 5]) rfl rfl rfl rfl ?_ ?_ ?_ ?_); (focus (repeat' (first | exact trivial | exact congrArg (fun n => some (AV.c (Ce.osl _ 0 n none))) hsl | exact rfl | apply And.intro))); (focus (repeat' (first | exact trivial | exact Z.blk_sub rfl ((enc_rows (E := E) (C := C) (a := x.src % 256) (b := x.key % 256) rfl).trans (congrArg (List.map cB) hsn.symm)) (ren_map fun _ => rfl) | (intro b hb; cases hb; rfl) | apply And.intro))); (focus ((try dsimp only); omega)); ((try dsimp only); omega))
   | fail
 have hil : k = l.length := by omega
 subst hil
 rw [List.take_length]
 rw [show be 2 (IntKind.u16.wrap (l.length : Int)) ++ l.flatMap encK = encT l from rfl] at *
 repeat' ((conv => whnf); first
  | (with_reducible refine spB_dec ?_ ?_ <;> intro _ <;> (try (exfalso; first | contradiction | omega | (rename_i hz; refine hz ?_; simp; done) | (rename_i hz; simp at hz; done) | (simp only [LN] at *; omega))))
  | fail)
 all_goals (try (conv => whnf))
 all_goals try first | (show Nat.ble _ _ = true; rfl) | (exfalso; rename_i hz; cases hz; done) | (exfalso; (try simp only [LN] at *) <;> omega)
 all_goals first
  | ((first | (with_reducible apply Z.retF2)); (focus rfl); (repeat' (first | exact trivial | (with_reducible apply Z.frz_one) | (with_reducible apply Z.fq_int) | ((with_reducible apply Z.fq_osl); (focus rfl); (focus (first | exact rfl)); (focus (exact fun _ => rfl))) | exact rfl | apply And.intro)); (all_goals (try exact (fun _ => none))); all_goals (rfl))
  | fail
end Tab
end Go.Proofs.YtopieffkpdlpbaaGreat
namespace Go.Proofs.YtopieffkpdlpbaaGreat
open Go Go.RowKit Wx
set_option maxHeartbeats 4000000
open Tab
theorem low_bb {K : Nat → Option Blk} {i n : Nat} {c : Option Nat} {L : List Int} {R : List (List Ce)} (h : K i = some ⟨R, 1, 5, false⟩) (hR : R = L.map cB) (hn : n = L.length) : lowV K (.pl (.one (.osl i 0 n c))) (.one (.ro false 1 (L.map eB))) := by
 show lowC K (.osl i 0 n c) (.ro false 1 (L.map eB))
 subst hR hn
 simp only [lowC, h]
 exact ⟨_, rfl, by simp, by rw [List.drop_zero, List.take_of_length_le (by simp), List.map_map, List.map_map]; exact List.map_congr_left fun x _ => rfl⟩
theorem rnd_sl {m : Nat} {α : Type} {G : α → Z.S} {Inv : α → Prop} {μ : α → Nat} {p : α} {s : Z.S} (ti : Nat) {x : AV} (y : AV) (hm : Nat.ble m s.top = true) (hg : Wx.get s.F ti = some x) (hi : Z.ImpV x y) (k : Z.rndZ m G Inv μ p ⟨(ti, y) :: s.F, s.K, s.top⟩) : Z.rndZ m G Inv μ p s :=
 Z.rndZ_stp (Z.imp_stp s ⟨(ti, y) :: s.F, s.K, s.top⟩ (fun t z hz => by
  have hz' : Wx.get ((ti, y) :: s.F) t = some z := hz
  simp only [Wx.get] at hz'
  cases hb : Nat.beq ti t with
  | true =>
   rw [hb] at hz'
   simp only [Option.some.injEq] at hz'
   subst hz'
   rw [← Nat.eq_of_beq_eq_true hb]
   exact ⟨_, hg, hi⟩
  | false => rw [hb] at hz'; exact ⟨z, hz', Z.ImpV.refl z⟩) (fun j b hb => ⟨b, hb, Z.ImpO.refl b⟩) (Nat.le_refl _) (Nat.le_of_ble_eq_true hm)) k
theorem rnd_cap {m : Nat} {α : Type} {G : α → Z.S} {Inv : α → Prop} {μ : α → Nat} {p : α} {s : Z.S} (ti : Nat) {i q n : Nat} {c : Option Nat} (n' : Nat) (hm : Nat.ble m s.top = true) (hg : Wx.get s.F ti = some (.c (.osl i q n c))) (hn : n = n') (k : Z.rndZ m G Inv μ p ⟨(ti, .c (.osl i q n' none)) :: s.F, s.K, s.top⟩) : Z.rndZ m G Inv μ p s := rnd_sl ti (.c (.osl i q n' none)) hm hg (show Z.Imp (.osl i q n c) (.osl i q n' none) from Z.Imp.oslcn hn) k
theorem valF0 {a b : Int} (h : a = b) : some (AV.val (.int .i64 a)) = some (AV.val (.int .i64 b)) := by rw [h]
theorem flag_con (b : Bool)  : Con Tryz.prog 38 [.one (.v (.bool b))] (fun rx rK rt => rx = .val (.int .u8 (bif b then 1 else 0)) ∧ rK = [] ∧ rt = 0) := by
 refine Z.con_ofF tabOk 4 Tryz.f38 _ Tryz.func38 (by kernel_rfl) rfl rfl rfl rfl ?_
 cases b
 all_goals (
  repeat' ((conv => whnf); first
   | with_reducible first | refine spB_t ?_
   | with_reducible first | refine spB_no (by decide) ?_
   | fail)
  all_goals (try (conv => whnf)))
 all_goals try first | (show Nat.ble _ _ = true; rfl) | (exfalso; rename_i hz; cases hz; done) | (exfalso; (try simp only [LN] at *) <;> omega)
 all_goals first
  | ((first | (with_reducible apply Z.retF1)); (focus rfl); (repeat' (first | exact trivial | (with_reducible apply Z.frz_one) | (with_reducible apply Z.fq_int) | exact rfl | apply And.intro)); (all_goals (try exact (fun _ => none))); all_goals (rfl))
  | fail
theorem sencode_con (x : Sn) (hr : x.rows.length ≤ 1000) (ht : x.txs.length ≤ 1000) : Con Tryz.prog 14 [.agg [.v (.int .i64 x.op), .v (.int .i64 x.ix), .v (.int .i64 x.w), .v (.bool x.en), .ro false 4 (x.rows.map Tab.eK), .v (.int .i64 x.o0), .v (.int .i64 x.o1), .v (.int .i64 x.o2), .v (.int .i64 x.o3), .v (.int .i64 x.o4), .v (.int .i64 x.o5), .v (.int .i64 x.o6), .v (.int .i64 x.o7), .ro false 3 (x.txs.map eN)]] (fun rx rK rt => rx = .tup [.one (.ro true 1 ((encSR x).1.map eB)), .one (.v (.int .i64 (encSR x).2))] ∧ rK = [] ∧ rt = 0) := by
 refine Z.con_ofF tabOk 80 Tryz.f14 _ Tryz.func14 (by kernel_rfl) rfl rfl rfl rfl ?_
 have ck := scheck_con x (by omega) (by omega)
 cases hs : snapR x
 ·rw [hs] at ck
  have e1 : encSR x = ([], 280) := by unfold encSR; rw [hs]; rfl
  rw [e1]
  simp only [cond_false] at ck
  repeat' ((conv => whnf); first
   | with_reducible first | refine spB_t ?_
   | ((with_reducible apply spB_cong); (focus (simp only [splQ, Int.reduceBEq, Int.reduceBNe]; rfl)))
   | ((first | (with_reducible refine Z.callZ_mk ?_ (ck) ?_)); (focus ((repeat' (first | exact trivial | exact rfl | apply And.intro)); done)))
   | fail)
  all_goals (try (conv => whnf))
  all_goals try first | (show Nat.ble _ _ = true; rfl) | (exfalso; rename_i hz; cases hz; done) | (exfalso; (try simp only [LN] at *) <;> omega)
  all_goals first
   | ((first | (with_reducible apply Z.retF2)); (focus rfl); (repeat' (first | exact trivial | (with_reducible apply Z.frz_one) | (exact Z.frz_nil) | exact rfl | apply And.intro)); (all_goals (try exact (fun _ => none))); all_goals (first | (simp; done)))
   | fail
 rw [hs] at ck
 have e1 : encSR x = (encS x, 0) := by unfold encSR; rw [hs]; rfl
 rw [e1]
 clear e1
 simp only [cond_true] at ck
 obtain ⟨⟨f1, f2, f3⟩, f4, f5, f6, f7⟩ := snapR_all hs
 obtain ⟨op, ix, w, en, rows, o0, o1, o2, o3, o4, o5, o6, o7, txs⟩ := x
 dsimp only at *
 obtain ⟨r0, r1, r2, r3, r4, r5, r6, r7⟩ := f4
 have ht5 := tab_len f5
 have hel := encT_len rows
 have ce := encode_con rows (by omega)
 rw [show encTR rows = (encT rows, 0) by unfold encTR; rw [f5]; rfl] at ce
 dsimp only at ce
 obtain ⟨e9, he9⟩ : ∃ e9 : Int, e9 = bif en then 1 else 0 := ⟨_, rfl⟩
 rw [show (encS ⟨op, ix, w, en, rows, o0, o1, o2, o3, o4, o5, o6, o7, txs⟩) = ([op, ix, w, e9] ++ encT rows ++ [o0, o1, o2, o3, o4, o5, o6, o7] ++ [(txs.length : Int)]) ++ txs.flatMap encN by rw [he9]; unfold encS; simp]
 generalize encT rows = E at *
 have cf := flag_con en
 rw [← he9] at cf
 have hb0 : ([op, ix, w, e9] ++ E).length = 4 + E.length := by simp; omega
 repeat' ((conv => whnf); first
  | ((with_reducible apply spB_cong); (focus (simp only [splQ, Int.reduceBEq, Int.reduceBNe]; rfl)))
  | with_reducible first | refine spB_no (by decide) ?_
  | ((with_reducible refine apdE_n ?_); (with_reducible refine apdN.mk ?_ ?_ ?_ ?_ ?_ ?_); (focus (first | (simp; done))); (focus (first | exact one_map2 (fun _ => rfl))); (focus (first | exact Nat.le_refl _)); (iterate 2 (focus ((try simp only [LN] at *) <;> omega))))
  | with_reducible refine wr_u8 (by omega) ?_
  | ((first | (with_reducible refine Z.callZ_mk ?_ (ck) ?_) | (with_reducible refine Z.callZ_mk ?_ (ce) ?_) | (with_reducible refine Z.conZ_mz ?_ (cf) ?_)); (focus ((repeat' (first | exact trivial | exact rfl | apply And.intro)); done)))
  | with_reducible first | refine Z.drawZ_rule tabOk mixOk ?_ | refine Z.apZ_mk (by kernel_rfl) ?_
  | fail)
 all_goals (try (conv => whnf))
 all_goals try first | (show Nat.ble _ _ = true; rfl) | (exfalso; rename_i hz; cases hz; done) | (exfalso; (try simp only [LN] at *) <;> omega)
 obtain ⟨B0, hB0⟩ : ∃ B0, B0 = [op, ix, w, e9] ++ E := ⟨_, rfl⟩
 refine Z.loopK tabOk (fun zq : Nat => [(40, .val (.int .i64 (zq : Int))), (7, .c (.osl 2 0 (B0 ++ [o0, o1, o2, o3, o4, o5, o6, o7].take zq).length none))]) (fun zq : Nat => ([(2, some (Z.Ob.b ⟨(B0 ++ [o0, o1, o2, o3, o4, o5, o6, o7].take zq).map cB, 1, 5, false⟩))] : Z.Kr)) (fun zq => zq ≤ 8) (fun zq => 8 - zq) 0 3 [(1, _), (39, _)] ⟨rfl, rfl, trivial⟩ [(0, some _)] ⟨rfl, trivial⟩ ?_ ?_ rfl rfl (Nat.zero_le _) ?_
 ·repeat' (first | exact trivial | apply And.intro | exact ⟨_, rfl, Z.Imp.refl _⟩ | exact ⟨_, rfl, oslE (by rw [hB0, List.take_zero, List.append_nil, List.length_append, List.length_map] <;> rfl)⟩)
 ·repeat' (first | exact trivial | (intro b hb; cases hb; refine ⟨_, rfl, ⟨rfl, rfl, rfl⟩, Z.imp_eq ?_⟩; first | rfl | (rw [List.take_zero, List.append_nil, hB0]; exact tkS rfl ce_cB rfl); done) | apply And.intro)
 rintro k HINV
 (try dsimp only at HINV); (try dsimp only)
 by_cases hk8 : k < 8
 ·obtain ⟨j, hj⟩ : ∃ j, j = k := ⟨k, rfl⟩
  have hk9 : k = 0 ∨ k = 1 ∨ k = 2 ∨ k = 3 ∨ k = 4 ∨ k = 5 ∨ k = 6 ∨ k = 7 := by omega
  clear hk8
  have hBl : B0.length = 4 + E.length := by rw [hB0]; exact hb0
  rcases hk9 with rfl | rfl | rfl | rfl | rfl | rfl | rfl | rfl
  all_goals (
   repeat' ((conv => whnf); first
    | with_reducible first | refine spB_yes (by decide) ?_
    | ((with_reducible refine apdE_n ?_); (with_reducible refine apdN.mk ?_ ?_ ?_ ?_ ?_ ?_); (focus (first | rfl)); (focus (first | exact one_all (by rfl))); (focus (first | ((try dsimp only); simp only [List.length_append, List.length_take, List.length_map, List.length_cons, List.length_nil, List.length_range, List.length_drop, List.length_singleton]; omega))); (iterate 2 (focus ((try simp only [LN] at *) <;> omega))))
    | ((with_reducible apply ixN_lit); (focus rfl); (focus rfl))
    | with_reducible refine wr_i64 (by first | omega | (simp only [LN] at *; omega)) ?_
    | with_reducible refine wr_u8 (by omega) ?_
    | fail)
   all_goals (try (conv => whnf))
   all_goals try (show Nat.ble _ _ = true; rfl)
   all_goals try (exfalso; rename_i hz; cases hz; done)
   all_goals try (exfalso; (try simp only [LN] at *) <;> omega))
  all_goals first
   | ((refine Z.rndK ((j + 1)) (fun s => [0, 1, s.idAt 7]) rfl rfl rfl rfl ?_ ?_ ?_ ?_); (focus (repeat' (first | exact trivial | exact oslF (by simp only [List.length_append, List.length_take, List.length_cons, List.length_nil]; omega) | exact valF0 (by omega) | exact rfl | apply And.intro))); (focus (repeat' (first | exact trivial | exact Z.blk_sub rfl (by subst hj; exact tkT rfl rfl rfl) (ren_map fun _ => rfl) | (intro b hb; cases hb; rfl) | apply And.intro))); (focus ((try dsimp only); omega)); ((try dsimp only); omega))
   | fail
 have hk9 : k = 8 := by omega
 subst hk9
 have hBl : B0.length = 4 + E.length := by rw [hB0]; exact hb0
 have hwn : IntKind.u8.wrap ((List.map eN txs).length : Int) = (txs.length : Int) := by rw [List.length_map]; simp [IntKind.wrap, IntKind.bits, IntKind.signed]; omega
 repeat' ((conv => whnf); first
  | with_reducible first | refine spB_no (by decide) ?_
  | ((with_reducible refine wr_mk ((txs.length : Nat) : Int) hwn ?_))
  | ((with_reducible refine apdE_n ?_); (with_reducible refine apdN.mk ?_ ?_ ?_ ?_ ?_ ?_); (focus (first | rfl)); (focus (first | exact one_all (by rfl))); (focus (first | ((try dsimp only); simp only [List.length_append, List.length_take, List.length_map, List.length_cons, List.length_nil, List.length_range, List.length_drop, List.length_singleton]; omega))); (iterate 2 (focus ((try simp only [LN] at *) <;> omega))))
  | fail)
 all_goals (try (conv => whnf))
 all_goals try first | (show Nat.ble _ _ = true; rfl) | (exfalso; rename_i hz; cases hz; done) | (exfalso; (try simp only [LN] at *) <;> omega)
 obtain ⟨B1, hB1⟩ : ∃ B1, B1 = B0 ++ [o0, o1, o2, o3, o4, o5, o6, o7] ++ [(txs.length : Int)] := ⟨_, rfl⟩
 have hBl1 : B1.length = 13 + E.length := by rw [hB1, List.length_append, List.length_append, hBl]; simp; omega
 refine Z.loopK tabOk (fun zq : Nat => [(59, .val (.int .i64 (zq : Int))), (7, .c (.osl 4 0 (B1 ++ (txs.take zq).flatMap encN).length none))]) (fun zq : Nat => ([(4, some (Z.Ob.b ⟨(B1 ++ (txs.take zq).flatMap encN).map cB, 1, 5, false⟩))] : Z.Kr)) (fun zq => zq ≤ txs.length) (fun zq => txs.length - zq) 0 5 [(57, _), (58, _)] ⟨rfl, rfl, trivial⟩ [] trivial ?_ ?_ rfl rfl (Nat.zero_le _) ?_
 ·repeat' (first | exact trivial | apply And.intro | exact ⟨_, rfl, Z.Imp.refl _⟩ | exact ⟨_, rfl, oslE (by rw [List.take_zero, List.flatMap_nil, List.append_nil, hBl1, List.length_append, hBl]; simp; omega)⟩)
 ·repeat' (first | exact trivial | (intro b hb; cases hb; refine ⟨_, rfl, ⟨rfl, rfl, rfl⟩, Z.imp_eq ?_⟩; first | rfl | (rw [List.take_zero, List.flatMap_nil, List.append_nil, hB1]; exact tkS rfl rfl rfl); done) | apply And.intro)
 rintro k HINV
 (try dsimp only at HINV); (try dsimp only)
 have hNl : (B1 ++ (txs.take k).flatMap encN).length ≤ 13 + E.length + 9 * txs.length := by rw [List.length_append, encNs_len, List.length_take, hBl1]; omega
 by_cases hi : k < txs.length
 ·obtain ⟨n, hx⟩ := getElem?_some' (xs := txs) (i := k) hi
  have hmk := of_decide_eq_true (f7 _ (List.mem_of_getElem? hx))
  try dsimp only at hmk
  have hsn : (B1 ++ (txs.take (k + 1)).flatMap encN) = ((B1 ++ (txs.take k).flatMap encN) ++ [n.s] ++ be 4 n.a) ++ be 4 n.n := by rw [encNs_snoc hx, encN]; simp
  generalize hQ : (B1 ++ (txs.take k).flatMap encN) = Q at *
  have p1 := putO32_con (Q ++ [n.s]) n.a (by rw [List.length_append, List.length_singleton]; omega) (by omega)
  have p2 := putO32_con (Q ++ [n.s] ++ be 4 n.a) n.n (by rw [List.length_append, List.length_append, List.length_singleton, be_len]; omega) (by omega)
  repeat' ((conv => whnf); first
   | (with_reducible refine spB_dec ?_ ?_ <;> intro _ <;> (try (exfalso; (first | (simp only [LN] at *; omega)))))
   | with_reducible first | refine Z.rowN_known hx ?_
   | ((with_reducible refine apdE_n ?_); (with_reducible refine apdN.mk ?_ ?_ ?_ ?_ ?_ ?_); (focus (first | rfl)); (focus (first | exact one_all (by rfl))); (focus (first | ((try dsimp only); simp only [List.length_append, List.length_take, List.length_map, List.length_cons, List.length_nil, List.length_range, List.length_drop, List.length_singleton]; omega))); (iterate 2 (focus ((try simp only [LN] at *) <;> omega))))
   | ((with_reducible apply ixN_litp); (focus rfl); (focus ((try simp only [LN] at *) <;> omega)))
   | with_reducible refine wr_i64 (by first | omega | (simp only [LN] at *; omega)) ?_
   | with_reducible refine wr_u8 (by omega) ?_
   | with_reducible refine wr_u32 (by omega) ?_
   | ((first | (with_reducible refine Z.conZ_mz ?_ (p1) ?_)); (focus ((repeat' (first | exact trivial | exact low_bb rfl (tkS rfl rfl rfl) (by simp) | exact rfl | apply And.intro)); done)))
   | ((first | (with_reducible refine Z.conZ_mz ?_ (p2) ?_)); (focus ((repeat' (first | exact trivial | exact low_bb rfl (by first | rfl | exact ren_cB) (by simp [be_len]) | exact rfl | apply And.intro)); done)))
   | with_reducible first | refine Z.drawZ_rule tabOk mixOk ?_ | refine Z.apZ_mk (by kernel_rfl) ?_
   | fail)
  all_goals (try (conv => whnf))
  all_goals try first | (show Nat.ble _ _ = true; rfl) | (exfalso; rename_i hz; cases hz; done) | (exfalso; (try simp only [LN] at *) <;> omega)
  all_goals first
   | ((refine rnd_cap 7 (Q ++ [n.s] ++ be 4 n.a ++ be 4 n.n).length rfl rfl ?_ ?_); (focus (simp [be_len]; done)); ((refine Z.rndK ((k + 1)) (fun s => [0, 1, 2, 3, s.idAt 7]) rfl rfl rfl rfl ?_ ?_ ?_ ?_); (focus (repeat' (first | exact trivial | exact oslF (by rw [hsn]) | exact rfl | apply And.intro))); (focus (repeat' (first | exact trivial | exact Z.blk_sub rfl (by rw [hsn]; first | rfl | exact ren_cB) (ren_map fun _ => rfl) | apply And.intro))); (focus ((try dsimp only); omega)); ((try dsimp only); omega)))
   | fail
 have hkl : k = txs.length := by omega
 subst hkl
 rw [List.take_length]
 repeat' ((conv => whnf); first
  | (with_reducible refine spB_dec ?_ ?_ <;> intro _ <;> (try (exfalso; (first | (rename_i hz; simp at hz; done)))))
  | fail)
 all_goals (try (conv => whnf))
 all_goals try first | (show Nat.ble _ _ = true; rfl) | (exfalso; rename_i hz; cases hz; done) | (exfalso; (try simp only [LN] at *) <;> omega)
 have hfin : ([op, ix, w, e9] ++ E ++ [o0, o1, o2, o3, o4, o5, o6, o7] ++ [(txs.length : Int)]) ++ txs.flatMap encN = B1 ++ txs.flatMap encN := by rw [hB1, hB0]
 try rw [hfin]
 all_goals first
  | ((first | (with_reducible apply Z.retF2)); (focus rfl); (repeat' (first | exact trivial | (with_reducible apply Z.frz_one) | (with_reducible apply Z.fq_int) | ((with_reducible apply Z.fq_osl); (focus rfl); (focus (first | exact rfl)); (focus (exact fun _ => rfl))) | exact rfl | apply And.intro)); (all_goals (try exact (fun _ => none))); all_goals (first | (rw [hfin]; done)))
  | fail
end Go.Proofs.YtopieffkpdlpbaaGreat
namespace Go.Proofs.YtopieffkpdlpbaaGreat
open Go Go.RowKit Wx
set_option maxHeartbeats 4000000
namespace Tab
theorem high0 (x : Int)  : Con Tryz.prog 41 [.one (.v (.int .u64 x)), .one (.v (.int .i64 0))] (fun rx rK rt => rx = .val (.slice none 0 0) ∧ rK = [] ∧ rt = 0) := by
 refine Z.con_ofZ tabOk 17 Tryz.f41 _ Tryz.func41 (by kernel_rfl) rfl rfl rfl rfl ?_
 repeat' ((conv => whnf); first
  | with_reducible first | refine spB_t ?_
  | ((with_reducible apply spB_cong); (focus (simp only [splQ, Int.reduceBEq, Int.reduceBNe]; rfl)))
  | fail)
 all_goals (try (conv => whnf))
 all_goals try first | (show Nat.ble _ _ = true; rfl) | (exfalso; rename_i hz; cases hz; done) | (exfalso; (try simp only [LN] at *) <;> omega)
 all_goals first
  | (refine ret0 _ rfl _ rfl (fun _ => rfl) rfl ⟨rfl, rfl, rfl⟩)
  | fail
theorem high1 (x : Int) (hx : 0 ≤ x ∧ x < 18446744073709551616) : Con Tryz.prog 41 [.one (.v (.int .u64 x)), .one (.v (.int .i64 1))] (fun rx rK rt => rx = .c (.gsl 0 ((be 1 x).map cB)) ∧ rK = [(0, some ⟨(be 1 x).map cB, 1, 5, false⟩)] ∧ rt = 1) := by
 refine Z.con_ofZ tabOk 17 Tryz.f41 _ Tryz.func41 (by kernel_rfl) rfl rfl rfl rfl ?_
 repeat' ((conv => whnf); first
  | ((with_reducible apply spB_cong); (focus (simp only [splQ, Int.reduceBEq, Int.reduceBNe]; rfl)))
  | with_reducible first | refine spB_no (by decide) ?_
  | (with_reducible refine vN_shr8 (by omega) ?_)
  | (refine wr_mk (x % 256) (and8 hx) ?_)
  | ((with_reducible refine posE_pos ?_ ?_); (focus ((try simp only [LN] at *) <;> omega)))
  | ((with_reducible refine eqN_mk2 ?_ ?_); (focus rfl))
  | ((with_reducible refine apdN.mk ?_ ?_ ?_ ?_ ?_ ?_); (focus (first | rfl)); (focus (first | exact one_all (by rfl))); (focus ((try simp only [LN] at *) <;> omega)); (focus ((try simp only [LN] at *) <;> omega)); (focus ((try simp only [LN] at *) <;> omega)))
  | with_reducible refine wr_i64 (by first | omega | (simp only [LN] at *; omega)) ?_
  | ((first | (with_reducible apply Z.callZ_mk ?_ (high0 _) ?_)); (rotate_left 1); (focus ((repeat' (first | exact trivial | exact low_int (by omega) | exact rfl | apply And.intro)); done)))
  | fail)
 all_goals (try (conv => whnf))
 all_goals try first | (show Nat.ble _ _ = true; rfl) | (exfalso; rename_i hz; cases hz; done) | (exfalso; (try simp only [LN] at *) <;> omega)
 all_goals first
  | (refine ret1g (1) ((be 1 x).map cB) 1 5 _ rfl rfl (by first | rfl | exact Z.kb_some rfl) (rfl) (rfl) ren_cB (own_map fun _ => rfl) ⟨rfl, rfl, rfl⟩)
  | fail
theorem highs (n : Nat) (x m : Int) (hx : 0 ≤ x ∧ x < 18446744073709551616) (hn : n ≠ 0) (hm : m = (n : Int) + 1) (hn8 : n ≤ 8) (ih : Con Tryz.prog 41 [.one (.v (.int .u64 (x / 256))), .one (.v (.int .i64 (m - 1)))] (fun rx rK rt => rx = .c (.gsl 0 ((be n (x / 256)).map cB)) ∧ rK = [(0, some ⟨(be n (x / 256)).map cB, 1, 5, false⟩)] ∧ rt = 1)) : Con Tryz.prog 41 [.one (.v (.int .u64 x)), .one (.v (.int .i64 m))] (fun rx rK rt => rx = .c (.gsl 0 ((be (n + 1) x).map cB)) ∧ rK = [(0, some ⟨(be (n + 1) x).map cB, 1, 5, false⟩)] ∧ rt = 1) := by
 refine Z.con_ofZ tabOk 17 Tryz.f41 _ Tryz.func41 (by kernel_rfl) rfl rfl rfl rfl ?_
 have hbn : be n (x / 256) ≠ [] := fun h9 => by have h8 := @be_len n (x / 256); rw [h9] at h8; exact hn h8.symm
 have hbl := @be_len n (x / 256)
 repeat' ((conv => whnf); first
  | (with_reducible refine spB_beq ?_ ?_ <;> intro _ <;> (try (exfalso; (first | omega))))
  | (with_reducible refine vN_shr8 (by omega) ?_)
  | (refine wr_mk (x % 256) (and8 hx) ?_)
  | ((with_reducible refine eqN_mk2 ?_ ?_); (focus (exact (Z.kb_some rfl).trans (gB_r (by assumption)))))
  | ((with_reducible refine posE_pos ?_ ?_); (focus ((try simp only [LN] at *) <;> omega)))
  | ((with_reducible refine eqN_mk2 ?_ ?_); (focus rfl))
  | ((with_reducible refine apdN.mk ?_ ?_ ?_ ?_ ?_ ?_); (focus (first | rfl)); (focus (first | exact one_all (by rfl))); (focus ((try simp only [LN] at *) <;> omega)); (focus ((try simp only [LN] at *) <;> omega)); (focus ((try simp only [LN] at *) <;> omega)))
  | with_reducible refine wr_i64 (by first | omega | (simp only [LN] at *; omega)) ?_
  | ((first | (with_reducible refine Z.callZ_mk ?_ (ih) ?_)); (focus ((repeat' (first | exact trivial | exact low_int (by omega) | apply And.intro)); done)))
  | fail)
 all_goals (try (conv => whnf))
 all_goals try first | (show Nat.ble _ _ = true; rfl) | (exfalso; rename_i hz; cases hz; done) | (exfalso; (try simp only [LN] at *) <;> omega)
 all_goals first
  | (refine ret1g (2) ((be (n + 1) x).map cB) 1 5 _ rfl rfl (by first | rfl | exact Z.kb_some rfl) (app_lit (B := [x % 256]) rfl rfl) (app_lit (B := [x % 256]) rfl rfl) ren_cB (own_map fun _ => rfl) ⟨rfl, rfl, rfl⟩)
  | fail
theorem high_con : ∀ (n : Nat) (x m : Int) (hx : 0 ≤ x ∧ x < 18446744073709551616) (hm : m = (n : Int) + 1) (hn8 : n ≤ 7), Con Tryz.prog 41 [.one (.v (.int .u64 x)), .one (.v (.int .i64 m))] (fun rx rK rt => rx = .c (.gsl 0 ((be (n + 1) x).map cB)) ∧ rK = [(0, some ⟨(be (n + 1) x).map cB, 1, 5, false⟩)] ∧ rt = 1)
 | 0, x, m, hx, hm, _ => by subst hm; exact high1 x hx
 | n + 1, x, m, hx, hm, h8 => highs (n + 1) x m hx (by omega) hm (by omega) (high_con n (x / 256) (m - 1) (by omega) (by omega) (by omega))
theorem high8 (x : Int) (hx : 0 ≤ x ∧ x < 18446744073709551616) : Con Tryz.prog 41 [.one (.v (.int .u64 x)), .one (.v (.int .i64 8))] (fun rx rK rt => rx = .c (.gsl 0 ((be 8 x).map cB)) ∧ rK = [(0, some ⟨(be 8 x).map cB, 1, 5, false⟩)] ∧ rt = 1) := high_con 7 x 8 hx (by decide) (by decide)
end Tab
end Go.Proofs.YtopieffkpdlpbaaGreat
namespace Go.Proofs.YtopieffkpdlpbaaGreat
open Go Go.RowKit Wx
set_option maxHeartbeats 4000000
namespace Tab
theorem tk_app {E T : List Int} {S : List (List Ce)} {n : Nat} (hS : S = T.map cB) (hn : n = E.length) : List.take n (E.map cB) ++ S = (E ++ T).map cB := by
 subst hS hn
 rw [List.take_of_length_le (by simp), List.map_append]
theorem gslI {i n : Nat} {rows : List (List Ce)} (hne : 0 < rows.length) (hn : n = rows.length) : Z.Imp (.gsl i rows) (.osl i 0 n none) := fun I R u h => by
 subst hn
 rcases h with ⟨rfl, _⟩ | ⟨_, p, c', hp, rfl, h1, h2⟩
 ·simp at hne
 ·exact ⟨p, c', hp, by rw [Nat.zero_mul], h1, by omega, fun _ h => nomatch h⟩
theorem one_rn {l : List Int} {q n : Nat} {f : Nat → Nat} : ∀ r ∈ List.take n (List.drop q ((l.map cB).map (List.map (Ce.ren f)))), ∀ c ∈ r, c.single = true := fun r hr c hc => by
 obtain ⟨t, ht, rfl⟩ := List.mem_map.1 (List.mem_of_mem_drop (List.mem_of_mem_take hr))
 obtain ⟨z, _, rfl⟩ := List.mem_map.1 ht
 simp only [List.map_cons, List.map_nil, List.mem_singleton] at hc
 subst hc
 rfl
theorem ap_rn {E T : List Int} {n m : Nat} {r : Nat → Nat} (hn : n = E.length) (hm : m = T.length) : List.take n (E.map cB) ++ List.take m (List.drop 0 ((T.map cB).map (List.map (Ce.ren r)))) = (E ++ T).map cB := by
 subst hn hm
 rw [ren_cB, List.drop_zero, List.take_of_length_le (by simp), List.take_of_length_le (by simp), List.map_append]
theorem rbytes_con (l : List Kc) (hl : l.length ≤ 9223372036854775807) (ht : tabR l = true) : Con Tryz.prog 40 [.agg [.ro false 4 (l.map eK)]] (fun rx rK rt => rx = .c (.ro true 1 ((encT l).map eB)) ∧ rK = [] ∧ rt = 0) := by
 refine Z.con_ofF tabOk 42 Tryz.f40 _ Tryz.func40 (by kernel_rfl) rfl rfl rfl rfl ?_
 have hl256 := tab_len ht
 have hwl : IntKind.u64.wrap ((List.map eK l).length : Int) = IntKind.u16.wrap (l.length : Int) := by rw [u16_in (by omega), List.length_map]; exact u64_in _ (by omega)
 have hwr : 0 ≤ IntKind.u16.wrap (l.length : Int) ∧ IntKind.u16.wrap (l.length : Int) < 18446744073709551616 := by rw [u16_in (by omega)]; omega
 have ch0 := high_con 1 (IntKind.u16.wrap (l.length : Int)) 2 hwr rfl (by decide)
 have hb0 : (be 2 (IntKind.u16.wrap (l.length : Int))).length = 2 := be_len
 repeat' ((conv => whnf); first
  | ((with_reducible refine wr_mk (IntKind.u16.wrap (l.length : Int)) hwl ?_))
  | ((first | (with_reducible refine Z.callZ_mk ?_ (ch0) ?_)); (focus ((repeat' (first | exact trivial | exact rfl | apply And.intro)); done)))
  | fail)
 all_goals (try (conv => whnf))
 all_goals try first | (show Nat.ble _ _ = true; rfl) | (exfalso; rename_i hz; cases hz; done) | (exfalso; (try simp only [LN] at *) <;> omega)
 refine Z.loopK tabOk (fun zq : Nat => [(14, .val (.int .i64 (zq : Int))), (3, .c (.osl 1 0 (be 2 (IntKind.u16.wrap (l.length : Int)) ++ (l.take zq).flatMap encK).length none))]) (fun zq : Nat => ([(0, some (Z.Ob.b ⟨[[.ro false 4 (l.map eK)]], 1, 30, true⟩)), (1, some (Z.Ob.b ⟨(be 2 (IntKind.u16.wrap (l.length : Int)) ++ (l.take zq).flatMap encK).map cB, 1, 5, false⟩))] : Z.Kr)) (fun zq => zq ≤ l.length) (fun zq => l.length - zq) 0 2 [(12, _), (13, _)] ⟨rfl, rfl, trivial⟩ [] trivial ?_ ?_ rfl rfl (Nat.zero_le _) ?_
 ·repeat' (first | exact trivial | apply And.intro | exact ⟨_, rfl, Z.Imp.refl _⟩ | exact ⟨_, rfl, gslI (by simp [be_len]) (by simp [be_len])⟩)
 ·repeat' (first | exact trivial | exact (fun b hb => ⟨b, hb, Z.ImpO.refl b⟩) | apply And.intro)
 rintro k HINV
 (try dsimp only at HINV); (try dsimp only)
 have hEl : (be 2 (IntKind.u16.wrap (l.length : Int)) ++ (l.take k).flatMap encK).length ≤ 2 + 18 * l.length := by rw [List.length_append, be_len, encKs_len, List.length_take]; omega
 by_cases hi : k < l.length
 ·obtain ⟨x, hx⟩ := getElem?_some' (xs := l) (i := k) hi
  have hsn : (be 2 (IntKind.u16.wrap (l.length : Int)) ++ (l.take (k + 1)).flatMap encK) = (be 2 (IntKind.u16.wrap (l.length : Int)) ++ (l.take k).flatMap encK) ++ [x.src % 256, x.key % 256] ++ be 8 (IntKind.u64.wrap x.cnt) ++ be 8 (IntKind.u64.wrap x.sum) := by rw [encKs_snoc hx, encK]; simp only [List.append_assoc]
  generalize hE : (be 2 (IntKind.u16.wrap (l.length : Int)) ++ (l.take k).flatMap encK) = E at *
  have ch1 := high8 (IntKind.u64.wrap x.cnt) (u64_rng _)
  have ch2 := high8 (IntKind.u64.wrap x.sum) (u64_rng _)
  have hb1 : (be 8 (IntKind.u64.wrap x.cnt)).length = 8 := be_len
  have hb2 : (be 8 (IntKind.u64.wrap x.sum)).length = 8 := be_len
  have hn1 : be 8 (IntKind.u64.wrap x.cnt) ≠ [] := fun e => by rw [e] at hb1; simp at hb1
  have hn2 : be 8 (IntKind.u64.wrap x.sum) ≠ [] := fun e => by rw [e] at hb2; simp at hb2
  have hrw : ∀ r1 r2 : Nat → Nat, List.take (E.length + 2 + (List.map cB (be 8 (IntKind.u64.wrap x.cnt))).length) (List.take (E.length + 2) (List.take E.length (List.map cB E) ++ [cB (x.src % 256), cB (x.key % 256)]) ++ List.take (List.map cB (be 8 (IntKind.u64.wrap x.cnt))).length (List.drop 0 (List.map (List.map (Ce.ren r1)) (List.map cB (be 8 (IntKind.u64.wrap x.cnt)))))) ++ List.take (List.map cB (be 8 (IntKind.u64.wrap x.sum))).length (List.drop 0 (List.map (List.map (Ce.ren r2)) (List.map cB (be 8 (IntKind.u64.wrap x.sum))))) = List.map cB (be 2 (IntKind.u16.wrap (l.length : Int)) ++ (l.take (k + 1)).flatMap encK) := fun r1 r2 => by
   rw [show (List.take E.length (List.map cB E) ++ [cB (x.src % 256), cB (x.key % 256)]) = (E ++ [x.src % 256, x.key % 256]).map cB from tk_app rfl rfl, ap_rn (by simp) (by simp), ap_rn (by simp <;> omega) (by simp), hsn]
  have hsl : E.length + 2 + (List.map cB (be 8 (IntKind.u64.wrap x.cnt))).length + (List.map cB (be 8 (IntKind.u64.wrap x.sum))).length = (be 2 (IntKind.u16.wrap (l.length : Int)) ++ (l.take (k + 1)).flatMap encK).length := by rw [hsn]; simp only [List.length_append, List.length_map, List.length_cons, List.length_nil]
  repeat' ((conv => whnf); first
   | (with_reducible refine spB_dec ?_ ?_ <;> intro _ <;> (try (exfalso; (first | (simp only [LN] at *; omega)))))
   | with_reducible first | refine Z.rowN_known hx ?_
   | ((with_reducible refine apdE_n ?_); (with_reducible refine apdN.mk ?_ ?_ ?_ ?_ ?_ ?_); (focus rfl); (focus (exact one_all (by rfl))); (focus (first | ((try simp only [LN] at *) <;> omega))); (iterate 2 (focus ((try simp only [LN] at *) <;> omega))))
   | ((with_reducible refine apdE_n ?_); (with_reducible refine apdN.mk ?_ ?_ ?_ ?_ ?_ ?_); (focus ((show (List.take _ (List.drop 0 (List.map (List.map (Ce.ren _)) (List.map cB (be 8 (IntKind.u64.wrap x.cnt)))))).length = _); (simp only [List.length_append, List.length_map, List.length_take, List.length_drop, List.length_cons, List.length_nil, be_len, maxLen] at *); omega)); (focus (exact one_rn)); (focus ((show _ ≤ (List.take E.length (List.map cB E) ++ [cB (x.src % 256), cB (x.key % 256)]).length); (simp only [List.length_append, List.length_map, List.length_take, List.length_drop, List.length_cons, List.length_nil, be_len, maxLen] at *); omega)); (iterate 2 (focus ((simp only [List.length_append, List.length_map, List.length_take, List.length_drop, List.length_cons, List.length_nil, be_len, maxLen] at *); omega))))
   | ((with_reducible refine apdE_n ?_); (with_reducible refine apdN.mk ?_ ?_ ?_ ?_ ?_ ?_); (focus ((show (List.take _ (List.drop 0 (List.map (List.map (Ce.ren _)) (List.map cB (be 8 (IntKind.u64.wrap x.sum)))))).length = _); (simp only [List.length_append, List.length_map, List.length_take, List.length_drop, List.length_cons, List.length_nil, be_len, maxLen] at *); omega)); (focus (exact one_rn)); (focus ((show _ ≤ (List.take (E.length + 2) (List.take E.length (List.map cB E) ++ [cB (x.src % 256), cB (x.key % 256)]) ++ List.take (List.map cB (be 8 (IntKind.u64.wrap x.cnt))).length (List.drop 0 (List.map (List.map (Ce.ren _)) (List.map cB (be 8 (IntKind.u64.wrap x.cnt)))))).length); (simp only [List.length_append, List.length_map, List.length_take, List.length_drop, List.length_cons, List.length_nil, be_len, maxLen] at *); omega)); (iterate 2 (focus ((simp only [List.length_append, List.length_map, List.length_take, List.length_drop, List.length_cons, List.length_nil, be_len, maxLen] at *); omega))))
   | with_reducible first | refine wr_mod8 ?_
   | ((with_reducible refine wr_mk (IntKind.u64.wrap x.cnt) rfl ?_))
   | ((with_reducible refine wr_mk (IntKind.u64.wrap x.sum) rfl ?_))
   | ((with_reducible apply ixN_litp); (focus rfl); (focus ((try simp only [LN] at *) <;> omega)))
   | with_reducible refine wr_i64 (by first | omega | (simp only [LN] at *; omega)) ?_
   | ((first | (with_reducible refine Z.conZ_mz ?_ (ch1) ?_)); (focus ((repeat' (first | exact trivial | exact rfl | apply And.intro)); done)))
   | ((first | (with_reducible refine Z.conZ_mz ?_ (ch2) ?_)); (focus ((repeat' (first | exact trivial | exact rfl | apply And.intro)); done)))
   | with_reducible first | refine Z.drawZ_rule tabOk mixOk ?_ | refine Z.apZ_mk (by kernel_rfl) ?_
   | fail)
  all_goals (try (conv => whnf))
  all_goals try first | (show Nat.ble _ _ = true; rfl) | (exfalso; rename_i hz; cases hz; done) | (exfalso; (try simp only [LN] at *) <;> omega)
  all_goals first
   | ((refine Z.rndK ((k + 1)) (fun s => [0, s.idAt 3]) rfl rfl rfl rfl ?_ ?_ ?_ ?_); (focus (repeat' (first | exact trivial | exact congrArg (fun n => some (AV.c (Ce.osl _ 0 n none))) hsl | exact rfl | apply And.intro))); (focus (repeat' (first | exact trivial | exact Z.blk_sub rfl (hrw _ _) (ren_map fun _ => rfl) | (intro b hb; cases hb; rfl) | apply And.intro))); (focus ((try dsimp only); omega)); ((try dsimp only); omega))
   | fail
 have hil : k = l.length := by omega
 subst hil
 rw [List.take_length]
 rw [show be 2 (IntKind.u16.wrap (l.length : Int)) ++ l.flatMap encK = encT l from rfl] at *
 repeat' ((conv => whnf); first
  | (with_reducible refine spB_dec ?_ ?_ <;> intro _ <;> (try (exfalso; (first | (rename_i hz; simp at hz; done)))))
  | fail)
 all_goals (try (conv => whnf))
 all_goals try first | (show Nat.ble _ _ = true; rfl) | (exfalso; rename_i hz; cases hz; done) | (exfalso; (try simp only [LN] at *) <;> omega)
 all_goals first
  | ((first | (with_reducible apply Z.retF1)); (focus rfl); (repeat' (first | exact trivial | (with_reducible apply Z.frz_one) | ((with_reducible apply Z.fq_osl); (focus rfl); (focus (first | exact rfl)); (focus (exact fun _ => rfl))) | exact rfl | apply And.intro)); (all_goals (try exact (fun _ => none))); all_goals (first | (simp; done)))
  | fail
end Tab
end Go.Proofs.YtopieffkpdlpbaaGreat
namespace Go.Proofs.YtopieffkpdlpbaaGreat
open Go Go.RowKit Wx
set_option maxHeartbeats 4000000
open Tab
theorem rsbytes_con (x : Sn) (hs : snapR x = true) : Con Tryz.prog 16 [.agg [.v (.int .i64 x.op), .v (.int .i64 x.ix), .v (.int .i64 x.w), .v (.bool x.en), .ro false 4 (x.rows.map Tab.eK), .v (.int .i64 x.o0), .v (.int .i64 x.o1), .v (.int .i64 x.o2), .v (.int .i64 x.o3), .v (.int .i64 x.o4), .v (.int .i64 x.o5), .v (.int .i64 x.o6), .v (.int .i64 x.o7), .ro false 3 (x.txs.map eN)]] (fun rx rK rt => rx = .c (.ro true 1 ((encS x).map eB)) ∧ rK = [] ∧ rt = 0) := by
 refine Z.con_ofF tabOk 71 Tryz.f16 _ Tryz.func16 (by kernel_rfl) rfl rfl rfl rfl ?_
 obtain ⟨⟨f1, f2, f3⟩, f4, f5, f6, f7⟩ := snapR_all hs
 obtain ⟨op, ix, w, en, rows, o0, o1, o2, o3, o4, o5, o6, o7, txs⟩ := x
 dsimp only at *
 obtain ⟨r0, r1, r2, r3, r4, r5, r6, r7⟩ := f4
 have ht5 := tab_len f5
 have hel := encT_len rows
 have ce := rbytes_con rows (by omega) f5
 obtain ⟨e9, he9⟩ : ∃ e9 : Int, e9 = bif en then 1 else 0 := ⟨_, rfl⟩
 rw [show (encS ⟨op, ix, w, en, rows, o0, o1, o2, o3, o4, o5, o6, o7, txs⟩) = ([op, ix, w, e9] ++ encT rows ++ [o0, o1, o2, o3, o4, o5, o6, o7] ++ [(txs.length : Int)]) ++ txs.flatMap encN by rw [he9]; unfold encS; simp]
 generalize encT rows = E at *
 have hb0 : ([op, ix, w, e9] ++ E).length = 4 + E.length := by simp; omega
 cases en
 ·have he9 : e9 = 0 := he9
  subst he9
  repeat' ((conv => whnf); first
   | with_reducible first | refine spB_no (by decide) ?_
   | ((with_reducible refine apdE_n ?_); (with_reducible refine apdN.mk ?_ ?_ ?_ ?_ ?_ ?_); (focus (first | (simp; done))); (focus (first | exact one_map2 (fun _ => rfl))); (focus (first | exact Nat.le_refl _)); (iterate 2 (focus ((try simp only [LN] at *) <;> omega))))
   | with_reducible refine wr_u8 (by omega) ?_
   | ((first | (with_reducible refine Z.callZ_mk ?_ (ce) ?_)); (focus ((repeat' (first | exact trivial | exact rfl | apply And.intro)); done)))
   | fail)
  all_goals (try (conv => whnf))
  all_goals try first | (show Nat.ble _ _ = true; rfl) | (exfalso; rename_i hz; cases hz; done) | (exfalso; (try simp only [LN] at *) <;> omega)
  obtain ⟨B0, hB0⟩ : ∃ B0, B0 = [op, ix, w, (0 : Int)] ++ E := ⟨_, rfl⟩
  refine Z.loopK tabOk (fun zq : Nat => [(29, .val (.int .i64 (zq : Int))), (3, .c (.osl 2 0 (B0 ++ [o0, o1, o2, o3, o4, o5, o6, o7].take zq).length none))]) (fun zq : Nat => ([(2, some (Z.Ob.b ⟨(B0 ++ [o0, o1, o2, o3, o4, o5, o6, o7].take zq).map cB, 1, 5, false⟩))] : Z.Kr)) (fun zq => zq ≤ 8) (fun zq => 8 - zq) 0 3 [(1, _), (28, _)] ⟨rfl, rfl, trivial⟩ [(0, some _)] ⟨rfl, trivial⟩ ?_ ?_ rfl rfl (Nat.zero_le _) ?_
  ·repeat' (first | exact trivial | apply And.intro | exact ⟨_, rfl, Z.Imp.refl _⟩ | exact ⟨_, rfl, oslE (by rw [hB0, List.take_zero, List.append_nil, List.length_append, List.length_map] <;> rfl)⟩)
  ·repeat' (first | exact trivial | (intro b hb; cases hb; refine ⟨_, rfl, ⟨rfl, rfl, rfl⟩, Z.imp_eq ?_⟩; first | rfl | (rw [List.take_zero, List.append_nil, hB0]; exact tkS rfl ce_cB rfl); done) | apply And.intro)
  rintro k HINV
  (try dsimp only at HINV); (try dsimp only)
  by_cases hk8 : k < 8
  ·obtain ⟨j, hj⟩ : ∃ j, j = k := ⟨k, rfl⟩
   have hk9 : k = 0 ∨ k = 1 ∨ k = 2 ∨ k = 3 ∨ k = 4 ∨ k = 5 ∨ k = 6 ∨ k = 7 := by omega
   clear hk8
   have hBl : B0.length = 4 + E.length := by rw [hB0]; exact hb0
   rcases hk9 with rfl | rfl | rfl | rfl | rfl | rfl | rfl | rfl
   all_goals (
    repeat' ((conv => whnf); first
     | with_reducible first | refine spB_yes (by decide) ?_
     | ((with_reducible refine apdE_n ?_); (with_reducible refine apdN.mk ?_ ?_ ?_ ?_ ?_ ?_); (focus (first | rfl)); (focus (first | exact one_all (by rfl))); (focus (first | ((try dsimp only); simp only [List.length_append, List.length_take, List.length_map, List.length_cons, List.length_nil, List.length_range, List.length_drop, List.length_singleton]; omega))); (iterate 2 (focus ((try simp only [LN] at *) <;> omega))))
     | ((with_reducible apply ixN_lit); (focus rfl); (focus rfl))
     | with_reducible refine wr_i64 (by first | omega | (simp only [LN] at *; omega)) ?_
     | with_reducible refine wr_u8 (by omega) ?_
     | fail)
    all_goals (try (conv => whnf))
    all_goals try (show Nat.ble _ _ = true; rfl)
    all_goals try (exfalso; rename_i hz; cases hz; done)
    all_goals try (exfalso; (try simp only [LN] at *) <;> omega))
   all_goals first
    | ((refine Z.rndK ((j + 1)) (fun s => [0, 1, s.idAt 3]) rfl rfl rfl rfl ?_ ?_ ?_ ?_); (focus (repeat' (first | exact trivial | exact oslF (by simp only [List.length_append, List.length_take, List.length_cons, List.length_nil]; omega) | exact valF0 (by omega) | exact rfl | apply And.intro))); (focus (repeat' (first | exact trivial | exact Z.blk_sub rfl (by subst hj; exact tkT rfl rfl rfl) (ren_map fun _ => rfl) | (intro b hb; cases hb; rfl) | apply And.intro))); (focus ((try dsimp only); omega)); ((try dsimp only); omega))
    | fail
  have hk9 : k = 8 := by omega
  subst hk9
  have hBl : B0.length = 4 + E.length := by rw [hB0]; exact hb0
  have hwn : IntKind.u8.wrap ((List.map eN txs).length : Int) = (txs.length : Int) := by rw [List.length_map]; simp [IntKind.wrap, IntKind.bits, IntKind.signed]; omega
  repeat' ((conv => whnf); first
   | with_reducible first | refine spB_no (by decide) ?_
   | ((with_reducible refine wr_mk ((txs.length : Nat) : Int) hwn ?_))
   | ((with_reducible refine apdE_n ?_); (with_reducible refine apdN.mk ?_ ?_ ?_ ?_ ?_ ?_); (focus (first | rfl)); (focus (first | exact one_all (by rfl))); (focus (first | ((try dsimp only); simp only [List.length_append, List.length_take, List.length_map, List.length_cons, List.length_nil, List.length_range, List.length_drop, List.length_singleton]; omega))); (iterate 2 (focus ((try simp only [LN] at *) <;> omega))))
   | fail)
  all_goals (try (conv => whnf))
  all_goals try first | (show Nat.ble _ _ = true; rfl) | (exfalso; rename_i hz; cases hz; done) | (exfalso; (try simp only [LN] at *) <;> omega)
  obtain ⟨B1, hB1⟩ : ∃ B1, B1 = B0 ++ [o0, o1, o2, o3, o4, o5, o6, o7] ++ [(txs.length : Int)] := ⟨_, rfl⟩
  have hBl1 : B1.length = 13 + E.length := by rw [hB1, List.length_append, List.length_append, hBl]; simp; omega
  refine Z.loopK tabOk (fun zq : Nat => [(48, .val (.int .i64 (zq : Int))), (3, .c (.osl 4 0 (B1 ++ (txs.take zq).flatMap encN).length none))]) (fun zq : Nat => ([(4, some (Z.Ob.b ⟨(B1 ++ (txs.take zq).flatMap encN).map cB, 1, 5, false⟩))] : Z.Kr)) (fun zq => zq ≤ txs.length) (fun zq => txs.length - zq) 0 5 [(46, _), (47, _)] ⟨rfl, rfl, trivial⟩ [] trivial ?_ ?_ rfl rfl (Nat.zero_le _) ?_
  ·repeat' (first | exact trivial | apply And.intro | exact ⟨_, rfl, Z.Imp.refl _⟩ | exact ⟨_, rfl, oslE (by rw [List.take_zero, List.flatMap_nil, List.append_nil, hBl1, List.length_append, hBl]; simp; omega)⟩)
  ·repeat' (first | exact trivial | (intro b hb; cases hb; refine ⟨_, rfl, ⟨rfl, rfl, rfl⟩, Z.imp_eq ?_⟩; first | rfl | (rw [List.take_zero, List.flatMap_nil, List.append_nil, hB1]; exact tkS rfl rfl rfl); done) | apply And.intro)
  rintro k HINV
  (try dsimp only at HINV); (try dsimp only)
  have hNl : (B1 ++ (txs.take k).flatMap encN).length ≤ 13 + E.length + 9 * txs.length := by rw [List.length_append, encNs_len, List.length_take, hBl1]; omega
  by_cases hi : k < txs.length
  ·obtain ⟨n, hx⟩ := getElem?_some' (xs := txs) (i := k) hi
   have hmk := of_decide_eq_true (f7 _ (List.mem_of_getElem? hx))
   try dsimp only at hmk
   have hsn : (B1 ++ (txs.take (k + 1)).flatMap encN) = ((B1 ++ (txs.take k).flatMap encN) ++ [n.s] ++ be 4 n.a) ++ be 4 n.n := by rw [encNs_snoc hx, encN]; simp
   generalize hQ : (B1 ++ (txs.take k).flatMap encN) = Q at *
   have ch1 := high_con 3 n.a 4 (by omega) rfl (by decide)
   have ch2 := high_con 3 n.n 4 (by omega) rfl (by decide)
   have hb1 : (be 4 n.a).length = 4 := be_len
   have hb2 : (be 4 n.n).length = 4 := be_len
   have hn1 : be 4 n.a ≠ [] := fun e => by rw [e] at hb1; simp at hb1
   have hn2 : be 4 n.n ≠ [] := fun e => by rw [e] at hb2; simp at hb2
   have hsl : Q.length + 1 + (List.map cB (be 4 n.a)).length + (List.map cB (be 4 n.n)).length = (B1 ++ (txs.take (k + 1)).flatMap encN).length := by rw [hsn]; simp only [List.length_append, List.length_map, List.length_cons, List.length_nil]
   have hrw : ∀ r1 r2 : Nat → Nat, List.take (Q.length + 1 + (List.map cB (be 4 n.a)).length) (List.take (Q.length + 1) (List.take Q.length (List.map cB Q) ++ [cB n.s]) ++ List.take (List.map cB (be 4 n.a)).length (List.drop 0 (List.map (List.map (Ce.ren r1)) (List.map cB (be 4 n.a))))) ++ List.take (List.map cB (be 4 n.n)).length (List.drop 0 (List.map (List.map (Ce.ren r2)) (List.map cB (be 4 n.n)))) = List.map cB (B1 ++ (txs.take (k + 1)).flatMap encN) := fun r1 r2 => by
    rw [show (List.take Q.length (List.map cB Q) ++ [cB n.s]) = (Q ++ [n.s]).map cB from tk_app rfl rfl, ap_rn (by simp) (by simp), ap_rn (by simp <;> omega) (by simp), hsn]
   repeat' ((conv => whnf); first
    | (with_reducible refine spB_dec ?_ ?_ <;> intro _ <;> (try (exfalso; (first | (simp only [LN] at *; omega)))))
    | with_reducible first | refine Z.rowN_known hx ?_
    | ((with_reducible refine apdE_n ?_); (with_reducible refine apdN.mk ?_ ?_ ?_ ?_ ?_ ?_); (focus (first | rfl)); (focus (first | exact one_all (by rfl))); (focus (first | ((try dsimp only); simp only [List.length_append, List.length_take, List.length_map, List.length_cons, List.length_nil, List.length_range, List.length_drop, List.length_singleton]; omega))); (iterate 2 (focus ((try simp only [LN] at *) <;> omega))))
    | ((with_reducible refine apdE_n ?_); (with_reducible refine apdN.mk ?_ ?_ ?_ ?_ ?_ ?_); (focus ((show (List.take _ (List.drop 0 (List.map (List.map (Ce.ren _)) (List.map cB (be 4 n.a))))).length = _); (simp only [List.length_append, List.length_map, List.length_take, List.length_drop, List.length_cons, List.length_nil, be_len, maxLen] at *); omega)); (focus (exact one_rn)); (focus ((show _ ≤ (List.take Q.length (List.map cB Q) ++ [cB n.s]).length); (simp only [List.length_append, List.length_map, List.length_take, List.length_drop, List.length_cons, List.length_nil, be_len, maxLen] at *); omega)); (iterate 2 (focus ((simp only [List.length_append, List.length_map, List.length_take, List.length_drop, List.length_cons, List.length_nil, be_len, maxLen] at *); omega))))
    | ((with_reducible refine apdE_n ?_); (with_reducible refine apdN.mk ?_ ?_ ?_ ?_ ?_ ?_); (focus ((show (List.take _ (List.drop 0 (List.map (List.map (Ce.ren _)) (List.map cB (be 4 n.n))))).length = _); (simp only [List.length_append, List.length_map, List.length_take, List.length_drop, List.length_cons, List.length_nil, be_len, maxLen] at *); omega)); (focus (exact one_rn)); (focus ((show _ ≤ (List.take (Q.length + 1) (List.take Q.length (List.map cB Q) ++ [cB n.s]) ++ List.take (List.map cB (be 4 n.a)).length (List.drop 0 (List.map (List.map (Ce.ren _)) (List.map cB (be 4 n.a))))).length); (simp only [List.length_append, List.length_map, List.length_take, List.length_drop, List.length_cons, List.length_nil, be_len, maxLen] at *); omega)); (iterate 2 (focus ((simp only [List.length_append, List.length_map, List.length_take, List.length_drop, List.length_cons, List.length_nil, be_len, maxLen] at *); omega))))
    | ((with_reducible apply ixN_litp); (focus rfl); (focus ((try simp only [LN] at *) <;> omega)))
    | with_reducible refine wr_i64 (by first | omega | (simp only [LN] at *; omega)) ?_
    | with_reducible refine wr_u64 (by omega) ?_
    | with_reducible refine wr_u8 (by omega) ?_
    | ((first | (with_reducible refine Z.conZ_mz ?_ (ch1) ?_)); (focus ((repeat' (first | exact trivial | exact rfl | apply And.intro)); done)))
    | ((first | (with_reducible refine Z.conZ_mz ?_ (ch2) ?_)); (focus ((repeat' (first | exact trivial | exact rfl | apply And.intro)); done)))
    | with_reducible first | refine Z.drawZ_rule tabOk mixOk ?_ | refine Z.apZ_mk (by kernel_rfl) ?_
    | fail)
   all_goals (try (conv => whnf))
   all_goals try first | (show Nat.ble _ _ = true; rfl) | (exfalso; rename_i hz; cases hz; done) | (exfalso; (try simp only [LN] at *) <;> omega)
   all_goals first
    | ((refine Z.rndK ((k + 1)) (fun s => [0, 1, 2, 3, s.idAt 3]) rfl rfl rfl rfl ?_ ?_ ?_ ?_); (focus (repeat' (first | exact trivial | exact oslF hsl | exact rfl | apply And.intro))); (focus (repeat' (first | exact trivial | exact Z.blk_sub rfl (hrw _ _) (ren_map fun _ => rfl) | apply And.intro))); (focus ((try dsimp only); omega)); ((try dsimp only); omega))
    | fail
  have hkl : k = txs.length := by omega
  subst hkl
  rw [List.take_length]
  repeat' ((conv => whnf); first
   | (with_reducible refine spB_dec ?_ ?_ <;> intro _ <;> (try (exfalso; (first | (rename_i hz; simp at hz; done)))))
   | fail)
  all_goals (try (conv => whnf))
  all_goals try first | (show Nat.ble _ _ = true; rfl) | (exfalso; rename_i hz; cases hz; done) | (exfalso; (try simp only [LN] at *) <;> omega)
  have hfin : ([op, ix, w, (0 : Int)] ++ E ++ [o0, o1, o2, o3, o4, o5, o6, o7] ++ [(txs.length : Int)]) ++ txs.flatMap encN = B1 ++ txs.flatMap encN := by rw [hB1, hB0]
  try rw [hfin]
  all_goals first
   | ((first | (with_reducible apply Z.retF1)); (focus rfl); (repeat' (first | exact trivial | (with_reducible apply Z.frz_one) | ((with_reducible apply Z.fq_osl); (focus rfl); (focus (first | exact rfl)); (focus (exact fun _ => rfl))) | exact rfl | apply And.intro)); (all_goals (try exact (fun _ => none))); all_goals (first | (rw [hfin]; done)))
   | fail
 ·have he9 : e9 = 1 := he9
  subst he9
  repeat' ((conv => whnf); first
   | with_reducible first | refine spB_t ?_
   | ((with_reducible refine apdE_n ?_); (with_reducible refine apdN.mk ?_ ?_ ?_ ?_ ?_ ?_); (focus (first | (simp; done))); (focus (first | exact one_map2 (fun _ => rfl))); (focus (first | exact Nat.le_refl _)); (iterate 2 (focus ((try simp only [LN] at *) <;> omega))))
   | ((with_reducible apply rowN_mk); (focus rfl))
   | ((with_reducible apply ixN_lit); (focus rfl); (focus rfl))
   | with_reducible refine wr_u8 (by omega) ?_
   | ((first | (with_reducible refine Z.callZ_mk ?_ (ce) ?_)); (focus ((repeat' (first | exact trivial | exact rfl | apply And.intro)); done)))
   | fail)
  all_goals (try (conv => whnf))
  all_goals try first | (show Nat.ble _ _ = true; rfl) | (exfalso; rename_i hz; cases hz; done) | (exfalso; (try simp only [LN] at *) <;> omega)
  obtain ⟨B0, hB0⟩ : ∃ B0, B0 = [op, ix, w, (1 : Int)] ++ E := ⟨_, rfl⟩
  refine Z.loopK tabOk (fun zq : Nat => [(29, .val (.int .i64 (zq : Int))), (3, .c (.osl 2 0 (B0 ++ [o0, o1, o2, o3, o4, o5, o6, o7].take zq).length none))]) (fun zq : Nat => ([(2, some (Z.Ob.b ⟨(B0 ++ [o0, o1, o2, o3, o4, o5, o6, o7].take zq).map cB, 1, 5, false⟩))] : Z.Kr)) (fun zq => zq ≤ 8) (fun zq => 8 - zq) 0 3 [(1, _), (28, _)] ⟨rfl, rfl, trivial⟩ [(0, some _)] ⟨rfl, trivial⟩ ?_ ?_ rfl rfl (Nat.zero_le _) ?_
  ·repeat' (first | exact trivial | apply And.intro | exact ⟨_, rfl, Z.Imp.refl _⟩ | exact ⟨_, rfl, oslE (by rw [hB0, List.take_zero, List.append_nil, List.length_append, List.length_map] <;> rfl)⟩)
  ·repeat' (first | exact trivial | (intro b hb; cases hb; refine ⟨_, rfl, ⟨rfl, rfl, rfl⟩, Z.imp_eq ?_⟩; first | rfl | (rw [List.take_zero, List.append_nil, hB0]; exact tkS rfl ce_cB rfl); done) | apply And.intro)
  rintro k HINV
  (try dsimp only at HINV); (try dsimp only)
  by_cases hk8 : k < 8
  ·obtain ⟨j, hj⟩ : ∃ j, j = k := ⟨k, rfl⟩
   have hk9 : k = 0 ∨ k = 1 ∨ k = 2 ∨ k = 3 ∨ k = 4 ∨ k = 5 ∨ k = 6 ∨ k = 7 := by omega
   clear hk8
   have hBl : B0.length = 4 + E.length := by rw [hB0]; exact hb0
   rcases hk9 with rfl | rfl | rfl | rfl | rfl | rfl | rfl | rfl
   all_goals (
    repeat' ((conv => whnf); first
     | with_reducible first | refine spB_yes (by decide) ?_
     | ((with_reducible refine apdE_n ?_); (with_reducible refine apdN.mk ?_ ?_ ?_ ?_ ?_ ?_); (focus (first | rfl)); (focus (first | exact one_all (by rfl))); (focus (first | ((try dsimp only); simp only [List.length_append, List.length_take, List.length_map, List.length_cons, List.length_nil, List.length_range, List.length_drop, List.length_singleton]; omega))); (iterate 2 (focus ((try simp only [LN] at *) <;> omega))))
     | ((with_reducible apply ixN_lit); (focus rfl); (focus rfl))
     | with_reducible refine wr_i64 (by first | omega | (simp only [LN] at *; omega)) ?_
     | with_reducible refine wr_u8 (by omega) ?_
     | fail)
    all_goals (try (conv => whnf))
    all_goals try (show Nat.ble _ _ = true; rfl)
    all_goals try (exfalso; rename_i hz; cases hz; done)
    all_goals try (exfalso; (try simp only [LN] at *) <;> omega))
   all_goals first
    | ((refine Z.rndK ((j + 1)) (fun s => [0, 1, s.idAt 3]) rfl rfl rfl rfl ?_ ?_ ?_ ?_); (focus (repeat' (first | exact trivial | exact oslF (by simp only [List.length_append, List.length_take, List.length_cons, List.length_nil]; omega) | exact valF0 (by omega) | exact rfl | apply And.intro))); (focus (repeat' (first | exact trivial | exact Z.blk_sub rfl (by subst hj; exact tkT rfl rfl rfl) (ren_map fun _ => rfl) | (intro b hb; cases hb; rfl) | apply And.intro))); (focus ((try dsimp only); omega)); ((try dsimp only); omega))
    | fail
  have hk9 : k = 8 := by omega
  subst hk9
  have hBl : B0.length = 4 + E.length := by rw [hB0]; exact hb0
  have hwn : IntKind.u8.wrap ((List.map eN txs).length : Int) = (txs.length : Int) := by rw [List.length_map]; simp [IntKind.wrap, IntKind.bits, IntKind.signed]; omega
  repeat' ((conv => whnf); first
   | with_reducible first | refine spB_no (by decide) ?_
   | ((with_reducible refine wr_mk ((txs.length : Nat) : Int) hwn ?_))
   | ((with_reducible refine apdE_n ?_); (with_reducible refine apdN.mk ?_ ?_ ?_ ?_ ?_ ?_); (focus (first | rfl)); (focus (first | exact one_all (by rfl))); (focus (first | ((try dsimp only); simp only [List.length_append, List.length_take, List.length_map, List.length_cons, List.length_nil, List.length_range, List.length_drop, List.length_singleton]; omega))); (iterate 2 (focus ((try simp only [LN] at *) <;> omega))))
   | fail)
  all_goals (try (conv => whnf))
  all_goals try first | (show Nat.ble _ _ = true; rfl) | (exfalso; rename_i hz; cases hz; done) | (exfalso; (try simp only [LN] at *) <;> omega)
  obtain ⟨B1, hB1⟩ : ∃ B1, B1 = B0 ++ [o0, o1, o2, o3, o4, o5, o6, o7] ++ [(txs.length : Int)] := ⟨_, rfl⟩
  have hBl1 : B1.length = 13 + E.length := by rw [hB1, List.length_append, List.length_append, hBl]; simp; omega
  refine Z.loopK tabOk (fun zq : Nat => [(48, .val (.int .i64 (zq : Int))), (3, .c (.osl 4 0 (B1 ++ (txs.take zq).flatMap encN).length none))]) (fun zq : Nat => ([(4, some (Z.Ob.b ⟨(B1 ++ (txs.take zq).flatMap encN).map cB, 1, 5, false⟩))] : Z.Kr)) (fun zq => zq ≤ txs.length) (fun zq => txs.length - zq) 0 5 [(46, _), (47, _)] ⟨rfl, rfl, trivial⟩ [] trivial ?_ ?_ rfl rfl (Nat.zero_le _) ?_
  ·repeat' (first | exact trivial | apply And.intro | exact ⟨_, rfl, Z.Imp.refl _⟩ | exact ⟨_, rfl, oslE (by rw [List.take_zero, List.flatMap_nil, List.append_nil, hBl1, List.length_append, hBl]; simp; omega)⟩)
  ·repeat' (first | exact trivial | (intro b hb; cases hb; refine ⟨_, rfl, ⟨rfl, rfl, rfl⟩, Z.imp_eq ?_⟩; first | rfl | (rw [List.take_zero, List.flatMap_nil, List.append_nil, hB1]; exact tkS rfl rfl rfl); done) | apply And.intro)
  rintro k HINV
  (try dsimp only at HINV); (try dsimp only)
  have hNl : (B1 ++ (txs.take k).flatMap encN).length ≤ 13 + E.length + 9 * txs.length := by rw [List.length_append, encNs_len, List.length_take, hBl1]; omega
  by_cases hi : k < txs.length
  ·obtain ⟨n, hx⟩ := getElem?_some' (xs := txs) (i := k) hi
   have hmk := of_decide_eq_true (f7 _ (List.mem_of_getElem? hx))
   try dsimp only at hmk
   have hsn : (B1 ++ (txs.take (k + 1)).flatMap encN) = ((B1 ++ (txs.take k).flatMap encN) ++ [n.s] ++ be 4 n.a) ++ be 4 n.n := by rw [encNs_snoc hx, encN]; simp
   generalize hQ : (B1 ++ (txs.take k).flatMap encN) = Q at *
   have ch1 := high_con 3 n.a 4 (by omega) rfl (by decide)
   have ch2 := high_con 3 n.n 4 (by omega) rfl (by decide)
   have hb1 : (be 4 n.a).length = 4 := be_len
   have hb2 : (be 4 n.n).length = 4 := be_len
   have hn1 : be 4 n.a ≠ [] := fun e => by rw [e] at hb1; simp at hb1
   have hn2 : be 4 n.n ≠ [] := fun e => by rw [e] at hb2; simp at hb2
   have hsl : Q.length + 1 + (List.map cB (be 4 n.a)).length + (List.map cB (be 4 n.n)).length = (B1 ++ (txs.take (k + 1)).flatMap encN).length := by rw [hsn]; simp only [List.length_append, List.length_map, List.length_cons, List.length_nil]
   have hrw : ∀ r1 r2 : Nat → Nat, List.take (Q.length + 1 + (List.map cB (be 4 n.a)).length) (List.take (Q.length + 1) (List.take Q.length (List.map cB Q) ++ [cB n.s]) ++ List.take (List.map cB (be 4 n.a)).length (List.drop 0 (List.map (List.map (Ce.ren r1)) (List.map cB (be 4 n.a))))) ++ List.take (List.map cB (be 4 n.n)).length (List.drop 0 (List.map (List.map (Ce.ren r2)) (List.map cB (be 4 n.n)))) = List.map cB (B1 ++ (txs.take (k + 1)).flatMap encN) := fun r1 r2 => by
    rw [show (List.take Q.length (List.map cB Q) ++ [cB n.s]) = (Q ++ [n.s]).map cB from tk_app rfl rfl, ap_rn (by simp) (by simp), ap_rn (by simp <;> omega) (by simp), hsn]
   repeat' ((conv => whnf); first
    | (with_reducible refine spB_dec ?_ ?_ <;> intro _ <;> (try (exfalso; (first | (simp only [LN] at *; omega)))))
    | with_reducible first | refine Z.rowN_known hx ?_
    | ((with_reducible refine apdE_n ?_); (with_reducible refine apdN.mk ?_ ?_ ?_ ?_ ?_ ?_); (focus (first | rfl)); (focus (first | exact one_all (by rfl))); (focus (first | ((try dsimp only); simp only [List.length_append, List.length_take, List.length_map, List.length_cons, List.length_nil, List.length_range, List.length_drop, List.length_singleton]; omega))); (iterate 2 (focus ((try simp only [LN] at *) <;> omega))))
    | ((with_reducible refine apdE_n ?_); (with_reducible refine apdN.mk ?_ ?_ ?_ ?_ ?_ ?_); (focus ((show (List.take _ (List.drop 0 (List.map (List.map (Ce.ren _)) (List.map cB (be 4 n.a))))).length = _); (simp only [List.length_append, List.length_map, List.length_take, List.length_drop, List.length_cons, List.length_nil, be_len, maxLen] at *); omega)); (focus (exact one_rn)); (focus ((show _ ≤ (List.take Q.length (List.map cB Q) ++ [cB n.s]).length); (simp only [List.length_append, List.length_map, List.length_take, List.length_drop, List.length_cons, List.length_nil, be_len, maxLen] at *); omega)); (iterate 2 (focus ((simp only [List.length_append, List.length_map, List.length_take, List.length_drop, List.length_cons, List.length_nil, be_len, maxLen] at *); omega))))
    | ((with_reducible refine apdE_n ?_); (with_reducible refine apdN.mk ?_ ?_ ?_ ?_ ?_ ?_); (focus ((show (List.take _ (List.drop 0 (List.map (List.map (Ce.ren _)) (List.map cB (be 4 n.n))))).length = _); (simp only [List.length_append, List.length_map, List.length_take, List.length_drop, List.length_cons, List.length_nil, be_len, maxLen] at *); omega)); (focus (exact one_rn)); (focus ((show _ ≤ (List.take (Q.length + 1) (List.take Q.length (List.map cB Q) ++ [cB n.s]) ++ List.take (List.map cB (be 4 n.a)).length (List.drop 0 (List.map (List.map (Ce.ren _)) (List.map cB (be 4 n.a))))).length); (simp only [List.length_append, List.length_map, List.length_take, List.length_drop, List.length_cons, List.length_nil, be_len, maxLen] at *); omega)); (iterate 2 (focus ((simp only [List.length_append, List.length_map, List.length_take, List.length_drop, List.length_cons, List.length_nil, be_len, maxLen] at *); omega))))
    | ((with_reducible apply ixN_litp); (focus rfl); (focus ((try simp only [LN] at *) <;> omega)))
    | with_reducible refine wr_i64 (by first | omega | (simp only [LN] at *; omega)) ?_
    | with_reducible refine wr_u64 (by omega) ?_
    | with_reducible refine wr_u8 (by omega) ?_
    | ((first | (with_reducible refine Z.conZ_mz ?_ (ch1) ?_)); (focus ((repeat' (first | exact trivial | exact rfl | apply And.intro)); done)))
    | ((first | (with_reducible refine Z.conZ_mz ?_ (ch2) ?_)); (focus ((repeat' (first | exact trivial | exact rfl | apply And.intro)); done)))
    | with_reducible first | refine Z.drawZ_rule tabOk mixOk ?_ | refine Z.apZ_mk (by kernel_rfl) ?_
    | fail)
   all_goals (try (conv => whnf))
   all_goals try first | (show Nat.ble _ _ = true; rfl) | (exfalso; rename_i hz; cases hz; done) | (exfalso; (try simp only [LN] at *) <;> omega)
   all_goals first
    | ((refine Z.rndK ((k + 1)) (fun s => [0, 1, 2, 3, s.idAt 3]) rfl rfl rfl rfl ?_ ?_ ?_ ?_); (focus (repeat' (first | exact trivial | exact oslF hsl | exact rfl | apply And.intro))); (focus (repeat' (first | exact trivial | exact Z.blk_sub rfl (hrw _ _) (ren_map fun _ => rfl) | apply And.intro))); (focus ((try dsimp only); omega)); ((try dsimp only); omega))
    | fail
  have hkl : k = txs.length := by omega
  subst hkl
  rw [List.take_length]
  repeat' ((conv => whnf); first
   | (with_reducible refine spB_dec ?_ ?_ <;> intro _ <;> (try (exfalso; (first | (rename_i hz; simp at hz; done)))))
   | fail)
  all_goals (try (conv => whnf))
  all_goals try first | (show Nat.ble _ _ = true; rfl) | (exfalso; rename_i hz; cases hz; done) | (exfalso; (try simp only [LN] at *) <;> omega)
  have hfin : ([op, ix, w, (1 : Int)] ++ E ++ [o0, o1, o2, o3, o4, o5, o6, o7] ++ [(txs.length : Int)]) ++ txs.flatMap encN = B1 ++ txs.flatMap encN := by rw [hB1, hB0]
  try rw [hfin]
  all_goals first
   | ((first | (with_reducible apply Z.retF1)); (focus rfl); (repeat' (first | exact trivial | (with_reducible apply Z.frz_one) | ((with_reducible apply Z.fq_osl); (focus rfl); (focus (first | exact rfl)); (focus (exact fun _ => rfl))) | exact rfl | apply And.intro)); (all_goals (try exact (fun _ => none))); all_goals (first | (rw [hfin]; done)))
   | fail
end Go.Proofs.YtopieffkpdlpbaaGreat
namespace Go.Proofs.YtopieffkpdlpbaaGreat
open Go Go.RowKit Wx
set_option maxHeartbeats 4000000
namespace Tab
theorem rsame_con (a b : List Kc) (hla : a.length ≤ 9223372036854775807) : Con Tryz.prog 35 [.agg [.ro false 4 (a.map eK)], .agg [.ro false 4 (b.map eK)]] (fun rx rK rt => rx = .val (.bool (decide (a = b))) ∧ rK = [] ∧ rt = 0) := by
 refine Z.con_ofF tabOk 31 Tryz.f35 _ Tryz.func35 (by kernel_rfl) rfl rfl rfl rfl ?_
 repeat' ((conv => whnf); first
  | (with_reducible refine spB_bne ?_ ?_ <;> intro _ <;> (try (exfalso; first | contradiction | omega | (rename_i hz; refine hz ?_; simp; done) | (rename_i hz; simp at hz; done) | (simp only [LN] at *; omega))))
  | fail)
 all_goals (try (conv => whnf))
 all_goals try first | (show Nat.ble _ _ = true; rfl) | (exfalso; rename_i hz; cases hz; done) | (exfalso; (try simp only [LN] at *) <;> omega)
 all_goals try ((first | (with_reducible apply Z.retF1)); (focus rfl); (repeat' (first | exact trivial | (with_reducible apply Z.frz_one) | (with_reducible apply Z.fq_bool) | apply And.intro)); (all_goals (try exact (fun _ => none))); all_goals (exact bool_f (ne_len (by simp only [LN] at *; omega))))
 refine Z.loopK tabOk (fun zq : Nat => [(16, .val (.int .i64 (zq : Int)))]) (fun zq : Nat => ([(0, some (Z.Ob.b ⟨[[.ro false 4 (a.map eK)]], 1, 30, true⟩)), (1, some (Z.Ob.b ⟨[[.ro false 4 (b.map eK)]], 1, 30, true⟩))] : Z.Kr)) (fun zq => zq ≤ a.length ∧ a.length = b.length ∧ a.take zq = b.take zq) (fun zq => a.length - zq) 0 2 [(2, _), (3, _), (15, _)] ⟨rfl, rfl, rfl, trivial⟩ [] trivial ?_ ?_ rfl rfl ⟨Nat.zero_le _, by simp only [LN] at *; omega, rfl⟩ ?_
 ·repeat' (first | exact trivial | apply And.intro | exact ⟨_, rfl, Z.Imp.refl _⟩)
 ·repeat' (first | exact trivial | exact (fun b hb => ⟨b, hb, Z.ImpO.refl b⟩) | apply And.intro)
 rintro i HINV
 (try dsimp only at HINV); (try dsimp only)
 obtain ⟨HI, HL, HT⟩ := HINV
 by_cases hi : i < a.length
 ·obtain ⟨x, hx⟩ := getElem?_some' (xs := a) (i := i) hi
  obtain ⟨y, hy⟩ := getElem?_some' (xs := b) (i := i) (by omega)
  repeat' ((conv => whnf); first
   | with_reducible first | refine spB_not ?_
   | (with_reducible refine spB_dec ?_ ?_ <;> intro _ <;> (try (exfalso; first | contradiction | omega | (rename_i hz; refine hz ?_; simp; done) | (rename_i hz; simp at hz; done) | (simp only [LN] at *; omega))))
   | (with_reducible refine spB_mk ?_ ?_ <;> intro _ <;> (try (exfalso; first | contradiction | omega | (rename_i hz; refine hz ?_; simp; done) | (rename_i hz; simp at hz; done) | (simp only [LN] at *; omega))))
   | with_reducible first | refine Z.rowN_known hx ?_ | refine Z.rowN_known hy ?_
   | ((with_reducible refine ixN_mk (i) ?_ ?_ ?_); (focus (first | rfl)); (focus ((try simp only [LN] at *) <;> omega)))
   | with_reducible refine wr_i64 (by first | omega | (simp only [LN] at *; omega)) ?_
   | with_reducible first | refine Z.drawZ_rule tabOk mixOk ?_ | refine Z.apZ_mk (by kernel_rfl) ?_
   | fail)
  all_goals (try (conv => whnf))
  all_goals try first | (show Nat.ble _ _ = true; rfl) | (exfalso; rename_i hz; cases hz; done) | (exfalso; (try simp only [LN] at *) <;> omega)
  all_goals first
   | ((refine Z.rndK ((i + 1)) (fun s => [0, 1]) rfl rfl rfl rfl ?_ ?_ ?_ ?_); (focus (repeat' (first | exact trivial | exact rfl | apply And.intro))); (focus (repeat' (first | exact trivial | (intro b hb; cases hb; rfl) | apply And.intro))); (focus (exact ⟨by (try dsimp only); omega, HL, eq_step HT hx hy (kc_eq (by assumption))⟩)); ((try dsimp only); omega))
   | ((first | (with_reducible apply Z.retF1)); (focus rfl); (repeat' (first | exact trivial | (with_reducible apply Z.frz_one) | (with_reducible apply Z.fq_bool) | apply And.intro)); (all_goals (try exact (fun _ => none))); all_goals ((refine bool_f (ne_at hx hy ?_); intro e; subst e; first | contradiction | (simp_all; done))))
   | fail
 have hil : i = a.length := by omega
 repeat' ((conv => whnf); first
  | (with_reducible refine spB_dec ?_ ?_ <;> intro _ <;> (try (exfalso; first | contradiction | omega | (rename_i hz; refine hz ?_; simp; done) | (rename_i hz; simp at hz; done) | (simp only [LN] at *; omega))))
  | fail)
 all_goals (try (conv => whnf))
 all_goals try first | (show Nat.ble _ _ = true; rfl) | (exfalso; rename_i hz; cases hz; done) | (exfalso; (try simp only [LN] at *) <;> omega)
 all_goals first
  | ((first | (with_reducible apply Z.retF1)); (focus rfl); (repeat' (first | exact trivial | (with_reducible apply Z.frz_one) | (with_reducible apply Z.fq_bool) | apply And.intro)); (all_goals (try exact (fun _ => none))); all_goals (first | exact bool_t (eq_end HL HT (by omega))))
  | fail
end Tab
end Go.Proofs.YtopieffkpdlpbaaGreat
namespace Go.Proofs.YtopieffkpdlpbaaGreat
open Go Go.RowKit Wx
set_option maxHeartbeats 4000000
namespace Tab
theorem copyk_con (l : List Kc) (hl : l.length ≤ 1000) : Con Tryz.prog 55 [.agg [.ro false 4 (l.map eK)]] (fun rx rK rt => rx = .pl (.agg [.ro true 4 (l.map eK)]) ∧ rK = [] ∧ rt = 0) := by
 refine Z.con_ofF tabOk 8 Tryz.f55 _ Tryz.func55 (by kernel_rfl) rfl rfl rfl rfl ?_
 repeat' ((conv => whnf); first
  | ((with_reducible refine apdE_n ?_); (with_reducible refine apdN.mk ?_ ?_ ?_ ?_ ?_ ?_); (focus (first | (simp; done))); (focus (first | exact one_map2 (fun _ => rfl))); (focus (first | exact Nat.zero_le _)); (iterate 2 (focus ((try simp only [LN] at *) <;> omega))))
  | fail)
 all_goals (try (conv => whnf))
 all_goals try first | (show Nat.ble _ _ = true; rfl) | (exfalso; rename_i hz; cases hz; done) | (exfalso; (try simp only [LN] at *) <;> omega)
 all_goals first
  | ((first | (with_reducible apply Z.retF1)); (focus rfl); (repeat' (first | exact trivial | (with_reducible apply Z.frz_agg) | ((with_reducible apply Z.fq_src); (focus rfl); (focus (first | (simp only [List.length_map, Nat.zero_add]; done))); (focus (exact fun _ => rfl))) | exact rfl | apply And.intro)); (all_goals (try exact (fun _ => none))); all_goals (first | (simp; done)))
  | fail
end Tab
end Go.Proofs.YtopieffkpdlpbaaGreat
namespace Go.Proofs.YtopieffkpdlpbaaGreat
open Go Go.RowKit Wx
set_option maxHeartbeats 4000000
def shortS (x : Sn) : Sn := ⟨x.op, x.ix, x.w, x.en, x.rows.take 257, x.o0, x.o1, x.o2, x.o3, x.o4, x.o5, x.o6, x.o7, x.txs.take 25⟩
abbrev eSn (x : Sn) : List RT := [RT.v (.int .i64 x.op), RT.v (.int .i64 x.ix), RT.v (.int .i64 x.w), RT.v (.bool x.en), RT.ro 4 (x.rows.map Tab.eK), RT.v (.int .i64 x.o0), RT.v (.int .i64 x.o1), RT.v (.int .i64 x.o2), RT.v (.int .i64 x.o3), RT.v (.int .i64 x.o4), RT.v (.int .i64 x.o5), RT.v (.int .i64 x.o6), RT.v (.int .i64 x.o7), RT.ro 3 (x.txs.map eN)]
theorem shortS_len (x : Sn) : (shortS x).rows.length ≤ 257 ∧ (shortS x).txs.length ≤ 25 := by unfold shortS; simp only [List.length_take]; omega
theorem cut_ro {α : Type} {f : α → List RT} (l : List α) (k : Nat) : (l.take k).map f = List.take ((l.take k).length - 0) (List.drop 0 (l.map f)) := by
 have e : List.take ((l.take k).length) l = l.take k := List.take_eq_take_iff.2 (by rw [List.length_take]; omega)
 rw [Nat.sub_zero, List.drop_zero, ← List.map_take, e]
theorem cut_n (l : List Nm) (k : Nat) (fl : Bool) : List.map (List.map (RT.ce fl)) (List.take ((l.take k).length - 0) (List.drop 0 (l.map eN))) = (l.take k).map cN := by
 rw [← cut_ro, List.map_map]
 rfl
theorem one_cutN {l : List Nm} {n m : Nat} {fl : Bool} : ∀ r ∈ List.map (List.map (RT.ce fl)) (List.take n (List.drop m (l.map eN))), ∀ c ∈ r, c.single = true := fun r hr c hc => by
 obtain ⟨t, ht, rfl⟩ := List.mem_map.1 hr
 obtain ⟨z, _, rfl⟩ := List.mem_map.1 (List.mem_of_mem_drop (List.mem_of_mem_take ht))
 simp only [List.map_cons, List.map_nil, List.mem_cons, List.not_mem_nil, or_false] at hc
 rcases hc with rfl | rfl | rfl <;> rfl
theorem shortS_con (x : Sn) (hr : x.rows.length ≤ 9223372036854775807) (ht : x.txs.length ≤ 9223372036854775807) : Con Tryz.prog 7 [.agg [.v (.int .i64 x.op), .v (.int .i64 x.ix), .v (.int .i64 x.w), .v (.bool x.en), .ro false 4 (x.rows.map Tab.eK), .v (.int .i64 x.o0), .v (.int .i64 x.o1), .v (.int .i64 x.o2), .v (.int .i64 x.o3), .v (.int .i64 x.o4), .v (.int .i64 x.o5), .v (.int .i64 x.o6), .v (.int .i64 x.o7), .ro false 3 (x.txs.map eN)]] (fun rx rK rt => rx = .pl (.agg [.v (.int .i64 (shortS x).op), .v (.int .i64 (shortS x).ix), .v (.int .i64 (shortS x).w), .v (.bool (shortS x).en), .ro true 4 ((shortS x).rows.map Tab.eK), .v (.int .i64 (shortS x).o0), .v (.int .i64 (shortS x).o1), .v (.int .i64 (shortS x).o2), .v (.int .i64 (shortS x).o3), .v (.int .i64 (shortS x).o4), .v (.int .i64 (shortS x).o5), .v (.int .i64 (shortS x).o6), .v (.int .i64 (shortS x).o7), .ro true 3 ((shortS x).txs.map eN)]) ∧ rK = [] ∧ rt = 0) := by
 refine Z.con_ofF tabOk 24 Tryz.f7 _ Tryz.func7 (by kernel_rfl) rfl rfl rfl rfl ?_
 have ccp := Tab.copyk_con (x.rows.take 257) (by rw [List.length_take]; omega)
 have htl : (x.txs.take 25).length ≤ 25 := by rw [List.length_take]; exact Nat.min_le_left _ _
 have HC := cut_n x.txs 25
 repeat' ((conv => whnf); first
  | ((with_reducible refine slN_hi ((x.rows.take 257).length) ?_ ?_ ?_); (focus (rw [List.length_take, List.length_map]; omega)); (focus (rw [List.length_take, List.length_map]; omega)))
  | ((with_reducible refine slN_hi ((x.txs.take 25).length) ?_ ?_ ?_); (focus (rw [List.length_take, List.length_map]; omega)); (focus (rw [List.length_take, List.length_map]; omega)))
  | ((with_reducible refine apdE_n ?_); (with_reducible refine apdN.mk ?_ ?_ ?_ ?_ ?_ ?_); (focus (first | (simp; done))); (focus (first | exact one_cutN)); (focus (first | exact Nat.zero_le _)); (iterate 2 (focus ((try simp only [LN] at *) <;> omega))))
  | with_reducible first | refine Z.callZ_in tabOk 13 Tryz.f21 _ Tryz.func21 (by kernel_rfl) rfl rfl rfl ?_
  | ((first | (with_reducible refine Z.conZ_mz ?_ (ccp) ?_)); (focus ((repeat' (first | exact trivial | exact congrArg (Ce.ro false 4) (cut_ro _ _) | apply And.intro)); done)))
  | ((with_reducible apply ex_and); exact rfl)
  | with_reducible first | refine Z.drawZ_rule tabOk mixOk ?_ | refine Z.apZ_mk (by kernel_rfl) ?_
  | fail)
 all_goals (try (conv => whnf))
 all_goals try first | (show Nat.ble _ _ = true; rfl) | (exfalso; rename_i hz; cases hz; done) | (exfalso; (try simp only [LN] at *) <;> omega)
 all_goals first
  | ((first | (with_reducible apply Z.retF1)); (focus rfl); (repeat' (first | exact trivial | (refine Z.frz_oslw (l := x.txs.take 25) (f := cN) (ty := 74) (bx := false) rfl ?_ ?_ (fun _ => rfl); (focus (first | (simp; done))); (focus (first | exact (congrArg (List.take _) (HC _)).trans (List.take_of_length_le (by simp))))) | (with_reducible apply Z.frz_agg) | (with_reducible apply Z.fq_int) | (with_reducible apply Z.fq_bool) | exact rfl | apply And.intro)); (all_goals (try exact (fun _ => none))); all_goals (first | (simp; done)))
  | fail
end Go.Proofs.YtopieffkpdlpbaaGreat
namespace Go.Proofs.YtopieffkpdlpbaaGreat
open Go Go.RowKit Wx
set_option maxHeartbeats 4000000
theorem sn_iff2 (x y : Sn) : decide (x = y) = (x.op == y.op && (x.ix == y.ix && (x.w == y.w && (x.en == y.en && (decide (x.rows = y.rows) && (x.o0 == y.o0 && (x.o1 == y.o1 && (x.o2 == y.o2 && (x.o3 == y.o3 && (x.o4 == y.o4 && (x.o5 == y.o5 && (x.o6 == y.o6 && (x.o7 == y.o7 && decide (x.txs = y.txs)))))))))))))) := by
 cases x; cases y
 simp only [Sn.mk.injEq]
 rw [Bool.eq_iff_iff]
 simp only [Bool.and_eq_true, decide_eq_true_eq, beq_iff_eq]
theorem rsame_con (x y : Sn) (hr : x.rows.length ≤ 9223372036854775807) (ht : x.txs.length ≤ 9223372036854775807) : Con Tryz.prog 13 [.agg [.v (.int .i64 x.op), .v (.int .i64 x.ix), .v (.int .i64 x.w), .v (.bool x.en), .ro false 4 (x.rows.map Tab.eK), .v (.int .i64 x.o0), .v (.int .i64 x.o1), .v (.int .i64 x.o2), .v (.int .i64 x.o3), .v (.int .i64 x.o4), .v (.int .i64 x.o5), .v (.int .i64 x.o6), .v (.int .i64 x.o7), .ro false 3 (x.txs.map eN)], .agg [.v (.int .i64 y.op), .v (.int .i64 y.ix), .v (.int .i64 y.w), .v (.bool y.en), .ro false 4 (y.rows.map Tab.eK), .v (.int .i64 y.o0), .v (.int .i64 y.o1), .v (.int .i64 y.o2), .v (.int .i64 y.o3), .v (.int .i64 y.o4), .v (.int .i64 y.o5), .v (.int .i64 y.o6), .v (.int .i64 y.o7), .ro false 3 (y.txs.map eN)]] (fun rx rK rt => rx = .val (.bool (decide (x = y))) ∧ rK = [] ∧ rt = 0) := by
 refine Z.con_ofF tabOk 52 Tryz.f13 _ Tryz.func13 (by kernel_rfl) rfl rfl rfl rfl ?_
 have ct := Tab.rsame_con x.rows y.rows hr
 have cn := rnames_con x.txs y.txs ht
 have hz := sn_iff2 x y
 repeat' ((conv => whnf); first
  | with_reducible first | refine spB_t ?_
  | with_reducible first | refine spB_no (by decide) ?_
  | (with_reducible refine spB_dec ?_ ?_ <;> intro _ <;> (try (exfalso; first | contradiction | omega | (rename_i hz; refine hz ?_; simp; done) | (rename_i hz; simp at hz; done) | (simp only [LN] at *; omega))))
  | (with_reducible refine spB_beq ?_ ?_ <;> intro _ <;> (try (exfalso; first | contradiction | omega | (rename_i hz; refine hz ?_; simp; done) | (rename_i hz; simp at hz; done) | (simp only [LN] at *; omega))))
  | (with_reducible refine spB_mk ?_ ?_ <;> intro _ <;> (try (exfalso; first | contradiction | omega | (rename_i hz; refine hz ?_; simp; done) | (rename_i hz; simp at hz; done) | (simp only [LN] at *; omega))))
  | ((first | (with_reducible refine Z.callZ_mk ?_ (ct) ?_) | (with_reducible refine Z.callZ_mk ?_ (cn) ?_)); (focus ((repeat' (first | exact trivial | exact rfl | apply And.intro)); done)))
  | fail)
 all_goals (try (conv => whnf))
 all_goals try first | (show Nat.ble _ _ = true; rfl) | (exfalso; rename_i hz; cases hz; done) | (exfalso; (try simp only [LN] at *) <;> omega)
 all_goals first
  | ((first | (with_reducible apply Z.retF1)); (focus rfl); (repeat' (first | exact trivial | (with_reducible apply Z.frz_one) | (with_reducible apply Z.fq_bool) | (apply Z.fq_bool) | apply And.intro)); (all_goals (try exact (fun _ => none))); all_goals (first | (rw [hz]; simp_all; done)))
  | fail
end Go.Proofs.YtopieffkpdlpbaaGreat
