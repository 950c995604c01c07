import Derived.Test.YtopieffkpdlpbaaOwn7
set_option linter.unusedVariables false
set_option linter.unusedSimpArgs false
namespace Go.Proofs.Ytopieffkpdlpbaa
open Go Go.RowKit Wx
set_option maxHeartbeats 40000000
open Tab
theorem drop_getD {L : List Int} {j : Nat} (h : j < L.length) : L.drop j = L.getD j 0 :: L.drop (j + 1) := by
 rw [List.drop_eq_getElem_cons h, List.getD_eq_getElem?_getD, List.getElem?_eq_getElem h]; rfl
theorem getD_mem {L : List Int} {j : Nat} (h : j < L.length) : L.getD j 0 ∈ L := by
 rw [List.getD_eq_getElem?_getD, List.getElem?_eq_getElem h]; exact List.getElem_mem h
theorem getD_no {L : List Int} {j : Nat} (h : L.length ≤ j) : L.getD j 0 = 0 := by
 rw [List.getD_eq_getElem?_getD, List.getElem?_eq_none h]; rfl
theorem rn2 {f : Nat → Nat} {x : Int} {L : List Int} {sz ty : Nat} {bx : Bool} (h : be 2 x = L) : (Blk.ren f ⟨List.map cB ([] ++ be 2 x), sz, ty, bx⟩).rows = L.map cB := by
 show List.map (List.map (Ce.ren f)) (List.map cB ([] ++ be 2 x)) = _
 rw [ren_cB, List.nil_append, h]
theorem tkS {R S : List (List Ce)} {L T : List Int} {n : Nat} (hR : R = L.map cB) (hS : S = T.map cB) (hn : n = L.length) : List.take n R ++ S = (L ++ T).map cB := by
 subst hR hS hn
 rw [List.take_of_length_le (by simp), List.map_append]
theorem oslE {i n m : Nat} (h : n = m) : Z.Imp (.osl i 0 n none) (.osl i 0 m none) := Z.Imp.of_eq (by rw [h])
theorem tkT {B A A' : List Int} {S : List (List Ce)} {o : Int} {n : Nat} (hS : S = [cB o]) (hn : n = (B ++ A).length) (h : A' = A ++ [o]) : List.take n ((B ++ A).map cB) ++ S = (B ++ A').map cB := by
 rw [tkS rfl (T := [o]) hS hn, List.append_assoc, h]
theorem oslF {i n m : Nat} (h : n = m) : some (AV.c (Ce.osl i 0 n none)) = some (AV.c (Ce.osl i 0 m none)) := by rw [h]
end Go.Proofs.Ytopieffkpdlpbaa
namespace Go.Proofs.Ytopieffkpdlpbaa
open Go Go.RowKit Wx
set_option maxHeartbeats 40000000
open Tab
theorem wr_orx {y b : Int} {A : Int → Prop} (hy : 0 ≤ y ∧ y < 4294967296) (hb : 0 ≤ b ∧ b ≤ 255) (k : A ((y * 256 + b) * 256)) : wr .u64 (IntKind.u64.wrap ((BitVec.ofInt IntKind.u64.bits (y * 256) ||| BitVec.ofInt IntKind.u64.bits b).toNat : Int) * 2 ^ (min (Int.toNat 8) IntKind.u64.bits)) A := by
 rw [or_add (x := y) (by omega) hb]
 exact wr_shl8 (by omega) k
theorem wr_or32 {y b : Int} {A : Int → Prop} (hy : 0 ≤ y ∧ y < 16777216) (hb : 0 ≤ b ∧ b ≤ 255) (k : A (y * 256 + b)) : wr .u32 (IntKind.u64.wrap ((BitVec.ofInt IntKind.u64.bits (y * 256) ||| BitVec.ofInt IntKind.u64.bits b).toNat : Int)) A := ⟨y * 256 + b, by
 rw [or_add (x := y) (by omega) hb]
 simp [IntKind.wrap, IntKind.bits, IntKind.signed]; omega, k⟩
theorem split4 {b : List Int} (h : 4 ≤ b.length) : ∃ x y z w r, b = x :: y :: z :: w :: r := by
 match b, h with
 | x :: y :: z :: w :: r, _ => exact ⟨x, y, z, w, r, rfl⟩
theorem decT_len {b : List Int} (hB : isB b) : (decT b).1.length ≤ 256 := by
 rcases decT_any hB with ⟨_, _, h, _⟩ | ⟨h, _⟩
 ·exact h
 ·rw [h]; simp
def preN (acc : List Nm) (x : List Nm × Int × List Int) : List Nm × Int × List Int := if x.2.1 = 0 then (acc ++ x.1, 0, x.2.2) else ([], 7, [])
theorem preN_nil (n : Nat) (b : List Int) : decN n b = preN [] (decN n b) := by
 unfold preN
 cases n with
 | zero => simp [decN]
 | succ n =>
  rw [decN]
  split
  ·simp
  ·split
   ·simp
   ·simp
theorem preN_step {acc : List Nm} {n : Nat} {b : List Int} {x : Nm} (hl : ¬ b.length < 9) (h : nmD b = x) : preN acc (decN (n + 1) b) = preN (acc ++ [x]) (decN n (b.drop 9)) := by
 unfold preN
 simp only [decN, if_neg hl, h]
 by_cases h2 : (decN n (b.drop 9)).2.1 = 0
 ·simp [h2]
 ·simp [h2]
theorem preN_bad {acc : List Nm} {n : Nat} {b : List Int} (hl : b.length < 9) : preN acc (decN (n + 1) b) = ([], 7, []) := by
 unfold preN
 simp only [decN, if_pos hl]
 rfl
end Go.Proofs.Ytopieffkpdlpbaa
namespace Go.Proofs.Ytopieffkpdlpbaa
open Go Go.RowKit Wx
set_option maxHeartbeats 4000000
open Tab
end Go.Proofs.Ytopieffkpdlpbaa
namespace Go.Proofs.Ytopieffkpdlpbaa
open Go Go.RowKit Wx
set_option maxHeartbeats 4000000
open Tab
end Go.Proofs.Ytopieffkpdlpbaa
namespace Go.Proofs.Ytopieffkpdlpbaa
open Go Go.RowKit Wx
set_option maxHeartbeats 4000000
open Tab
end Go.Proofs.Ytopieffkpdlpbaa
namespace Go.Proofs.Ytopieffkpdlpbaa
open Go Go.RowKit Wx
set_option maxHeartbeats 4000000
open Tab
end Go.Proofs.Ytopieffkpdlpbaa
namespace Go.Proofs.Ytopieffkpdlpbaa
open Go Go.RowKit Wx
set_option maxHeartbeats 4000000
open Tab
end Go.Proofs.Ytopieffkpdlpbaa
namespace Go.Proofs.Ytopieffkpdlpbaa
open Go Go.RowKit Wx
set_option maxHeartbeats 4000000
open Tab
end Go.Proofs.Ytopieffkpdlpbaa
namespace Go.Proofs.Ytopieffkpdlpbaa
open Go Go.RowKit Wx
set_option maxHeartbeats 4000000
open Tab
end Go.Proofs.Ytopieffkpdlpbaa
namespace Go.Proofs.Ytopieffkpdlpbaa
open Go Go.RowKit Wx
set_option maxHeartbeats 4000000
open Tab
end Go.Proofs.Ytopieffkpdlpbaa
namespace Go.Proofs.Ytopieffkpdlpbaa
open Go Go.RowKit Wx
set_option maxHeartbeats 4000000
open Tab
theorem putO4_con (b : List Int) (x : Int) (hb : b.length ≤ 1099511627776) (hx : 0 ≤ x ∧ x < 18446744073709551616) : Con Try.prog 92 [.one (.ro false 1 (b.map eB)), .one (.v (.int .u64 x)), .one (.v (.int .i64 4))] (fun rx rK rt => rx = .c (.osl 0 0 (b.length + 4) (some (b.length + 4))) ∧ rK = [(0, some ⟨(b ++ be 4 x).map cB, 1, 5, false⟩)] ∧ rt = 1) := putO_con b x 4 hb (by decide) hx
theorem putO32_con (b : List Int) (x : Int) (hb : b.length ≤ 1099511627776) (hx : 0 ≤ x ∧ x < 4294967296) : Con Try.prog 54 [.one (.ro false 1 (b.map eB)), .one (.v (.int .u32 x))] (fun rx rK rt => rx = .c (.osl 0 0 (b.length + 4) (some (b.length + 4))) ∧ rK = [(0, some ⟨(b ++ be 4 x).map cB, 1, 5, false⟩)] ∧ rt = 1) := by
 refine Z.con_ofZ tabOk 9 Try.f54 _ Try.func54 (by kernel_rfl) rfl rfl rfl rfl ?_
 repeat' ((conv => whnf); first
  | with_reducible first | refine spB_t ?_
  | ((with_reducible apply spB_cong); (focus (simp only [splQ, Int.reduceBEq, Int.reduceBNe]; rfl)))
  | with_reducible first | refine spB_yes (by decide) ?_ | refine spB_no (by decide) ?_ | refine spB_f ?_ | refine spB_not ?_ | refine spB_yes (by assumption) ?_ | refine spB_no (by assumption) ?_
  | (with_reducible refine spB_dec ?_ ?_ <;> intro _ <;> (try (exfalso; first | contradiction | omega | (rename_i hz; refine hz ?_; simp; done) | (rename_i hz; simp at hz; done) | (simp only [LN] at *; omega))))
  | (with_reducible refine spB_beq ?_ ?_ <;> intro _ <;> (try (exfalso; first | contradiction | omega | (rename_i hz; refine hz ?_; simp; done) | (rename_i hz; simp at hz; done) | (simp only [LN] at *; omega))))
  | (with_reducible refine spB_bne ?_ ?_ <;> intro _ <;> (try (exfalso; first | contradiction | omega | (rename_i hz; refine hz ?_; simp; done) | (rename_i hz; simp at hz; done) | (simp only [LN] at *; omega))))
  | (with_reducible refine spB_mk ?_ ?_ <;> intro _ <;> (try (exfalso; first | contradiction | omega | (rename_i hz; refine hz ?_; simp; done) | (rename_i hz; simp at hz; done) | (simp only [LN] at *; omega))))
  | ((with_reducible apply rowN_mk); (focus rfl))
  | ((with_reducible apply ixN_lit); (focus rfl); (focus rfl))
  | ((with_reducible apply ixN_litp); (focus rfl); (focus ((try simp only [LN] at *) <;> omega)))
  | ((with_reducible refine eqN_mk2 ?_ ?_); (focus rfl))
  | with_reducible refine wr_i64 (by first | omega | (simp only [LN] at *; omega)) ?_
  | with_reducible refine wr_u64 (by omega) ?_
  | with_reducible refine wr_u8 (by omega) ?_
  | with_reducible refine wr_u32 (by omega) ?_
  | with_reducible first | refine wr_mk _ rfl ?_
  | ((with_reducible refine ixN_nat ?_ ?_); (focus ((try simp only [LN] at *) <;> omega)))
  | ((with_reducible refine rowN_map ?_ ?_); (focus ((try simp only [LN] at *) <;> omega)); intro x hx)
  | with_reducible refine eqN_dec (by omega) ?_
  | with_reducible first | refine apN_mk (by kernel_rfl) ?_
  | ((first | (with_reducible apply Z.conZ_mz ?_ (putO4_con _ _ ?_ ?_) ?_) | (with_reducible apply Z.callZ_mk ?_ (putO4_con _ _ ?_ ?_) ?_)); (rotate_left 2); (focus ((repeat' (first | exact trivial | exact rfl | exact Z.low_nil | exact Z.low_nil2 | exact low_osl (fun _ => rfl) | (refine Z.low_osln ?_ (fun _ => rfl); (simp only [List.length_map]; done)) | exact low_oslr (fun _ => rfl) | exact Z.low_gslm (by first | rfl | exact Z.kb_some rfl) (fun _ => rfl) | exact .inl rfl | exact .inr ⟨_, rfl⟩ | apply And.intro)); done)); (iterate 2 (focus (first | assumption | omega | ((try simp only [LN] at *); omega)))))
  | ((with_reducible refine eqN_mk2 ?_ ?_); (focus (exact Z.kb_some rfl)))
  | ((with_reducible apply ex_and); exact rfl))
 all_goals (try (conv => whnf))
 all_goals try first | (show Nat.ble _ _ = true; rfl) | (exfalso; rename_i hz; cases hz; done) | (exfalso; (try simp only [LN] at *) <;> omega)
 all_goals first
  | (refine ret1b 0 (.c (.osl 0 0 (b.length + 4) (some (b.length + 4)))) ((b ++ be 4 x).map cB) 1 5 false _ rfl rfl rfl ren_cB ren_cB rfl (own_map fun _ => rfl) ⟨rfl, rfl, rfl⟩)
  | (exfalso; rename_i hz; cases hz; done)
  | (exfalso; (try simp only [LN] at *) <;> omega)
  | (fail)
end Go.Proofs.Ytopieffkpdlpbaa
namespace Go.Proofs.Ytopieffkpdlpbaa
open Go Go.RowKit Wx
set_option maxHeartbeats 4000000
namespace Tab
theorem put_con (b : List Int) (x : Int) (n : Nat) (hb : b.length ≤ 1099511627776) (hn : n ≤ 8) (hx : 0 ≤ x ∧ x < 18446744073709551616) : Con Try.prog 92 [.one (.ro false 1 (b.map eB)), .one (.v (.int .u64 x)), .one (.v (.int .i64 (n : Int)))] (fun rx rK rt => rx = .c (.ro true 1 ((b ++ be n x).map eB)) ∧ rK = [] ∧ rt = 0) := by
 refine Z.con_ofF tabOk 34 Try.f92 _ Try.func92 (by kernel_rfl) rfl rfl rfl rfl ?_
 repeat' ((conv => whnf); first
  | ((with_reducible refine mkN_any (b.length + n) ?_ ?_ ?_ ?_ ?_); (iterate 4 (focus ((try simp only [LN] at *) <;> omega))))
  | ((with_reducible refine cpyN.mk ?_ ?_ ?_ ?_); (focus (first | (simp; done))); (focus (first | exact one_map2 (fun _ => rfl))); (focus ((try simp only [LN] at *) <;> omega)))
  | with_reducible refine wr_i64 (by first | omega | (simp only [LN] at *; omega)) ?_
  | fail)
 all_goals (try (conv => whnf))
 all_goals try first | (show Nat.ble _ _ = true; rfl) | (exfalso; rename_i hz; cases hz; done) | (exfalso; (try simp only [LN] at *) <;> omega)
 refine Z.loopK tabOk (fun zq : Nat × Int × List Int => [(18, .val (.int .i64 (zq.1 : Int))), (1, .val (.int .u64 zq.2.1))]) (fun zq : Nat × Int × List Int => ([(0, some (Z.Ob.b ⟨(b ++ List.replicate (n - zq.1) 0 ++ zq.2.2).map cB, 1, 5, false⟩))] : Z.Kr)) (fun zq => zq.1 ≤ n ∧ zq.2.2.length = zq.1 ∧ be (n - zq.1) zq.2.1 ++ zq.2.2 = be n x ∧ 0 ≤ zq.2.1 ∧ zq.2.1 < 18446744073709551616) (fun zq => n - zq.1) (0, x, []) 1 [(7, _), (17, _)] ⟨rfl, rfl, trivial⟩ [] trivial ?_ ?_ rfl rfl ⟨Nat.zero_le _, rfl, by simp, hx⟩ ?_
 ·repeat' (first | exact trivial | apply And.intro | exact ⟨_, rfl, Z.Imp.refl _⟩)
 ·repeat' (first | exact trivial | (intro b hb; cases hb; refine ⟨_, rfl, ⟨rfl, rfl, rfl⟩, Z.imp_eq ?_⟩; first | rfl | exact put_lay (by simp) | exact (put_lay (by simp)).trans (by simp); done) | apply And.intro)
 rintro ⟨i, y, T⟩ HINV
 dsimp only at HINV ⊢
 obtain ⟨HI, HT, HB, hy⟩ := HINV
 have hlr : (b ++ List.replicate (n - i) 0 ++ T).length = b.length + n := by simp; omega
 by_cases hi : i < n
 ·obtain ⟨m, hm⟩ : ∃ m, n - i = m + 1 := ⟨n - i - 1, by omega⟩
  rw [hm] at hlr HB ⊢
  rw [be, List.append_assoc] at HB
  repeat' ((conv => whnf); first
   | (with_reducible refine spB_dec ?_ ?_ <;> intro _ <;> (try (exfalso; first | contradiction | omega | (rename_i hz; refine hz ?_; simp; done) | (rename_i hz; simp at hz; done) | (simp only [LN] at *; omega))))
   | (with_reducible refine vN_shr8 (by omega) ?_)
   | ((with_reducible refine ixN_mk (b.length + m) ?_ ?_ ?_); (focus (first | ((try simp only [LN] at *) <;> omega))); (focus ((try simp only [LN] at *) <;> omega)))
   | ((with_reducible refine rowN_mk (cB 0) ?_ ?_); (focus (exact put_row)))
   | with_reducible first | refine wr_mod8 ?_
   | ((with_reducible refine eqN_mk2 ?_ ?_); (focus rfl))
   | with_reducible refine wr_i64 (by first | omega | (simp only [LN] at *; omega)) ?_
   | fail)
  all_goals (try (conv => whnf))
  all_goals try first | (show Nat.ble _ _ = true; rfl) | (exfalso; rename_i hz; cases hz; done) | (exfalso; (try simp only [LN] at *) <;> omega)
  all_goals first
   | ((refine Z.rnd_rw 0 ((b ++ List.replicate (n - (i + 1)) 0 ++ (y % 256) :: T).map cB) rfl rfl ?_ ?_); (focus (rw [show n - (i + 1) = m by omega]; exact put_set)); ((refine Z.rndK ((i + 1, y / 256, (y % 256) :: T)) (fun s => [0]) rfl rfl rfl rfl ?_ ?_ ?_ ?_); (focus (repeat' (first | exact trivial | exact rfl | apply And.intro))); (focus (repeat' (first | exact trivial | exact Z.blk_sub rfl rfl (ren_map fun _ => rfl) | apply And.intro))); (focus (exact ⟨by (try dsimp only); omega, by (try dsimp only); rw [List.length_cons, HT], by (try dsimp only); rw [show n - (i + 1) = m by omega]; exact HB, by (try dsimp only); omega⟩)); ((try dsimp only); omega)))
   | fail
 have hil : i = n := by omega
 subst hil
 rw [Nat.sub_self, be, List.nil_append] at HB
 subst HB
 repeat' ((conv => whnf); first
  | (with_reducible refine spB_dec ?_ ?_ <;> intro _ <;> (try (exfalso; first | contradiction | omega | (rename_i hz; refine hz ?_; simp; done) | (rename_i hz; simp at hz; done) | (simp only [LN] at *; omega))))
  | fail)
 all_goals (try (conv => whnf))
 all_goals try first | (show Nat.ble _ _ = true; rfl) | (exfalso; rename_i hz; cases hz; done) | (exfalso; (try simp only [LN] at *) <;> omega)
 all_goals first
  | ((first | (with_reducible apply Z.retF1)); (focus rfl); (repeat' (first | exact trivial | (with_reducible apply Z.frz_one) | ((with_reducible apply Z.fq_osl); (focus rfl); (focus (first | ((try simp only [LN] at *) <;> omega))); (focus (exact fun _ => rfl))) | apply And.intro)); (all_goals (try exact (fun _ => none))); all_goals (first | (simp; done)))
  | fail
theorem put8_con (b : List Int) (x : Int) (hb : b.length ≤ 1099511627776) (hx : 0 ≤ x ∧ x < 18446744073709551616) : Con Try.prog 92 [.one (.ro false 1 (b.map eB)), .one (.v (.int .u64 x)), .one (.v (.int .i64 8))] (fun rx rK rt => rx = .c (.ro true 1 ((b ++ be 8 x).map eB)) ∧ rK = [] ∧ rt = 0) := put_con b x 8 hb (by decide) hx
theorem put64_con (b : List Int) (x : Int) (hb : b.length ≤ 1099511627776) (hx : 0 ≤ x ∧ x < 18446744073709551616) : Con Try.prog 91 [.one (.ro false 1 (b.map eB)), .one (.v (.int .u64 x))] (fun rx rK rt => rx = .c (.ro true 1 ((b ++ be 8 x).map eB)) ∧ rK = [] ∧ rt = 0) := by
 refine Z.con_ofF tabOk 8 Try.f91 _ Try.func91 (by kernel_rfl) rfl rfl rfl rfl ?_
 repeat' ((conv => whnf); first
  | ((first | (with_reducible apply Z.callZ_mk ?_ (put8_con _ _ ?_ ?_) ?_)); (rotate_left 2); (focus ((repeat' (first | exact trivial | exact rfl | apply And.intro)); done)); (iterate 2 (focus (first | assumption))))
  | fail)
 all_goals (try (conv => whnf))
 all_goals first
  | ((first | (with_reducible apply Z.retF1)); (focus rfl); (repeat' (first | exact trivial | exact rfl | apply And.intro)); (all_goals (try exact (fun _ => none))); all_goals (rfl))
  | fail
end Tab
end Go.Proofs.Ytopieffkpdlpbaa
