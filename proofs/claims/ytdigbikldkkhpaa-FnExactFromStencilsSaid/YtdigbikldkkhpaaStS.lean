import Derived.Test.YtdigbikldkkhpaaStP
import Derived.Test.YtdigbikldkkhpaaPicS
import Derived.Test.YtdigbikldkkhpaaG1
namespace Go.Proofs.Ytdigbikldkkhpaa
open Go.RowKit
set_option maxRecDepth 100000
set_option linter.unusedVariables false
set_option linter.unusedSimpArgs false
def s24 (st : Nat → Int) (i : Nat) : Value := .int .u8 (st i)
theorem s24_at (st : Nat → Int) (i : Nat) : s24 st i = .int .u8 (st i) := rfl
theorem rw_u8S : (Try.prog.underlying 5).map (·.isRow) = some false := by kernel_rfl
theorem u8kS : ∀ k : Nat, k < 3 → IntKind.u8.wrap ((k : Int) + 1) = (k : Int) + 1 := by decide
theorem size_u8S : (Try.prog.info? 5).map (·.size) = some 1 := by kernel_rfl
theorem setK_at (p : Pic) (k : Nat) (hk : k < 64) (v : Int) : vrow 66 (over p.at (2 + k) 1 fun _ => .int .u8 v) = vrow 66 (p.setK k v).at := vrow_ext _ _ _ fun i hi => by
  unfold over Pic.at Pic.setK
  by_cases h0 : i = 0
  · subst h0; rw [if_neg (by omega), if_pos rfl, if_pos rfl]
  · by_cases h1 : i = 1
    · subst h1; rw [if_neg (by omega), if_neg h0, if_pos rfl, if_neg h0, if_pos rfl]
    · by_cases h : i = 2 + k
      · rw [if_pos (by omega), if_neg h0, if_neg h1]; simp only; rw [if_pos (by omega)]
      · rw [if_neg (by omega), if_neg h0, if_neg h1, if_neg h0, if_neg h1]; simp only; rw [if_neg (by omega)]
theorem and1S : ∀ n : Nat, n < 256 → (bits BinOp.and IntKind.u8 (n : Int) 1 == 0) = !(bits BinOp.and IntKind.u8 (n : Int) 1 == 1) := by decide +kernel
theorem and1U (v : Int) : (bits BinOp.and IntKind.u8 v 1 == 0) = !(bits BinOp.and IntKind.u8 v 1 == 1) := by
  have h := and1S (BitVec.ofInt 8 v).toNat (BitVec.ofInt 8 v).isLt
  have e : bits BinOp.and IntKind.u8 ((BitVec.ofInt 8 v).toNat : Int) 1 = bits BinOp.and IntKind.u8 v 1 := by
    show IntKind.u8.wrap ((BitVec.ofInt 8 (((BitVec.ofInt 8 v).toNat : Nat) : Int) &&& BitVec.ofInt 8 1 : BitVec 8).toNat : Int) = IntKind.u8.wrap ((BitVec.ofInt 8 v &&& BitVec.ofInt 8 1 : BitVec 8).toNat : Int)
    rw [show BitVec.ofInt 8 (((BitVec.ofInt 8 v).toNat : Nat) : Int) = BitVec.ofInt 8 v by rw [BitVec.ofInt_natCast, BitVec.ofNat_toNat, BitVec.setWidth_eq]]
  rw [e] at h
  exact h
/-- the cells of the first y rows and x cells of the next -/
def preL (y x : Nat) : List (Nat × Nat) := pairsL 8 y ++ (List.range x).map fun i => (i, y)
theorem preL_8 (y : Nat) : preL y 8 = preL (y + 1) 0 := by simp [preL, pairsL_succ]
theorem preL_s (y x : Nat) : preL y (x + 1) = preL y x ++ [(x, y)] := by simp [preL, List.range_succ]
theorem dabK_fit {st : Nat → Int} {k : Nat} (hk : k < 3) : ∀ (l : List (Nat × Nat)) (p : Pic), p.fit → (dabK st k p l).fit
  | [], p, h => h
  | q :: l, p, h => dabK_fit hk l _ (by
      show (if cutB st k q = true then p.setK (8 * q.2 + q.1) ((k : Int) + 1) else p).fit
      split
      · exact ⟨h.wide, h.high, fun i hi => by unfold Pic.setK; simp only; split; omega; exact h.ink i hi⟩
      · exact h)
theorem dabA_fit {st : Nat → Int} {p : Pic} (h : p.fit) (L : List (Nat × Nat)) : ∀ n, n ≤ 3 → (dabA st p L n).fit
  | 0, _ => h
  | n + 1, hn => dabK_fit (by omega) L _ (dabA_fit h L n (by omega))
theorem dabA_wh (st : Nat → Int) (p : Pic) (L : List (Nat × Nat)) : ∀ n, (dabA st p L n).wide = p.wide ∧ (dabA st p L n).high = p.high
  | 0 => ⟨rfl, rfl⟩
  | n + 1 => ⟨(dabK_wh st n L _).1.trans (dabA_wh st p L n).1, (dabK_wh st n L _).2.trans (dabA_wh st p L n).2⟩
set_option maxHeartbeats 16000000 in
theorem specSt_walk (st : Nat → Int) (a c : Nat) (w : World) (ha : 1 ≤ a ∧ a ≤ 8) (hc : 1 ≤ c ∧ c ≤ 8) (R : Ending → World → Prop)
    (hOk : (∀ k, k < 3 → inCut st a c k) → ∀ w', Below w.heap.size w w' → R (.returned (.tuple #[.agg (dabA st (blankPic a c) (pairsL 8 8) 3).row, .int .i64 0])) w')
    (hBad : ∀ k (q : Nat × Nat), k < 3 → q.1 < 8 → q.2 < 8 → cutB st k q = true → ¬ (q.1 < a ∧ q.2 < c) → ∀ w', Below w.heap.size w w' → R (.returned (.tuple #[.agg Pic.zero.row, .int .i64 2])) w') :
    Calls Try.prog 4 #[.int .i64 a, .int .i64 c, .agg (vrow 24 (s24 st))] w R := by
  have HBl := Go.Lib.hid fun w => specBlank_yes (a : Int) (c : Int) w (by omega) (by omega) (by omega) (by omega)
  have hOk := Go.Lib.hid hOk; have hBad := Go.Lib.hid hBad
  have zz := zero_pic
  have hfb : (blankPic a c).fit := ⟨by show -128 ≤ (a : Int) ∧ (a : Int) ≤ 127; omega, by show -128 ≤ (c : Int) ∧ (c : Int) ≤ 127; omega, fun i _ => by show 0 ≤ (0 : Int) ∧ (0 : Int) ≤ 255; omega⟩
  have X : Hid (((w.alloc (.cells (vrow 24 (s24 st)) 23)).alloc (.cells (vrow 66 Pic.zero.at) 27)).heap[w.heap.size]? = some (.cells (vrow 24 (s24 st)) 23)) := (heap_past _ _ _ _ (by simp <;> omega) (heap_at _ _ _ (by simp)))
  have Z : Hid (((w.alloc (.cells (vrow 24 (s24 st)) 23)).alloc (.cells (vrow 66 Pic.zero.at) 27)).heap[w.heap.size + 1]? = some (.cells (vrow 66 Pic.zero.at) 27)) := (heap_at _ _ _ (by simp))
  have hB : Hid (Below w.heap.size w ((w.alloc (.cells (vrow 24 (s24 st)) 23)).alloc (.cells (vrow 66 Pic.zero.at) 27))) := Go.Lib.hid (((Below.refl w.heap.size w).alloc (by simp <;> omega) _).alloc (by simp <;> omega) _)
  go_enter Try.func4, Try.ntmps4
  go_wp2_with (first
    | go_skip
    | (go_at_call 8; (refine (HBl.out _).mono ?_); rintro o w1 ⟨rfl, hb⟩; replace X := Go.Lib.hid (row_next hb X.out); replace Z := Go.Lib.hid (row_next hb Z.out); replace hB := Go.Lib.hid (below_next hB.out hb); clear hb)
    | ((with_reducible refine wlOp (.store 27 (.tmp 8) (.tmp 17)) rfl ?_); refine wpList_storeall rfl 27 (.tmp 8) (.tmp 17) rfl _ rfl 66 Pic.zero.at (blankPic a c).at rfl 27 size_pic (heap_at _ _ _ rfl) (fun i _ => Pic.one _ i) ?_; rw [setRow_at _ _ _ _ _ rfl]; have V := Go.Lib.hid (heap_at w1 (.cells (vrow 66 (blankPic a c).at) 27) _ rfl); have qz := row_lt Z.out; replace X := Go.Lib.hid (heap_past w1 (.cells (vrow 66 (blankPic a c).at) 27) _ _ (row_lt X.out) X.out); replace Z := Go.Lib.hid (heap_past w1 (.cells (vrow 66 (blankPic a c).at) 27) _ _ qz Z.out); replace hB := Go.Lib.hid (hB.out.alloc hB.out.size (.cells (vrow 66 (blankPic a c).at) 27)); obtain ⟨pb, hpb⟩ : ∃ z, w1.heap.size = z := ⟨_, rfl⟩; rw [hpb] at V qz ⊢; generalize World.alloc w1 _ = W3 at X Z V hB ⊢; clear hpb))
  have a1 := X.out; have a2 := Z.out; have a3 := V.out; have a4 := hB.out
  clear X Z V hB
  go_loopw [10] (fun iv wr => ∃ k : Nat, k ≤ 3 ∧ iv = .int .i64 k ∧ (∀ k', k' < k → inCut st a c k') ∧ wr.heap[w.heap.size]? = some (.cells (vrow 24 (s24 st)) 23) ∧ wr.heap[w.heap.size + 1]? = some (.cells (vrow 66 Pic.zero.at) 27) ∧ wr.heap[pb]? = some (.cells (vrow 66 (dabA st (blankPic a c) (pairsL 8 8) k).at) 27) ∧ Below w.heap.size w wr) (fun iv _ => 3 - (intOf iv).toNat)
  case atStart => exact ⟨0, by omega, rfl, fun k' h => by omega, a1, a2, a3, a4⟩
  case round =>
    clear a1 a2 a3 a4
    obtain ⟨k, hk, rfl, hgA, X, Z, V, hB⟩ := hrel
    by_cases hlt : k < 3
    · have hkI : (k : Int) < 3 := by omega
      have hk0 : (0 : Int) ≤ (k : Int) := by omega
      have hkd : decide ((k : Int) < 3) = true := by simpa using hkI
      have hkw := u8kS k hlt
      have hstA := Go.Lib.hid (show dabA st (blankPic a c) (pairsL 8 8) (k + 1) = dabK st k (dabA st (blankPic a c) (pairsL 8 8) k) (pairsL 8 8) from rfl)
      have hfA := dabA_fit hfb (pairsL 8 8) (st := st) k (by omega)
      have hwA := dabA_wh st (blankPic a c) (pairsL 8 8) k
      generalize dabA st (blankPic a c) (pairsL 8 8) k = pA at *
      replace X := Go.Lib.hid X; replace Z := Go.Lib.hid Z; replace V := Go.Lib.hid V; replace hB := Go.Lib.hid hB
      go_wp2
      have a1 := X.out; have a2 := Z.out; have a3 := V.out; have a4 := hB.out
      clear X Z V hB
      go_loopw [11] (fun iv wr => ∃ y : Nat, y ≤ 8 ∧ iv = .int .i8 y ∧ (∀ q ∈ preL y 0, cutB st k q = true → q.1 < a ∧ q.2 < c) ∧ wr.heap[w.heap.size]? = some (.cells (vrow 24 (s24 st)) 23) ∧ wr.heap[w.heap.size + 1]? = some (.cells (vrow 66 Pic.zero.at) 27) ∧ wr.heap[pb]? = some (.cells (vrow 66 (dabK st k pA (preL y 0)).at) 27) ∧ Below w.heap.size w wr) (fun iv _ => 8 - (intOf iv).toNat)
      case atStart => exact ⟨0, by omega, rfl, fun q hq => by simp [preL, pairsL] at hq, a1, a2, by simpa [preL, pairsL, dabK] using a3, a4⟩
      case round =>
        clear a1 a2 a3 a4
        obtain ⟨y, hy, rfl, hgB, X, Z, V, hB⟩ := hrel
        by_cases hlty : y < 8
        · have hyI : (y : Int) < 8 := by omega
          have hy0 : (0 : Int) ≤ (y : Int) := by omega
          have hyd : decide ((y : Int) < 8) = true := by simpa using hyI
          replace X := Go.Lib.hid X; replace Z := Go.Lib.hid Z; replace V := Go.Lib.hid V; replace hB := Go.Lib.hid hB
          go_wp2
          have a1 := X.out; have a2 := Z.out; have a3 := V.out; have a4 := hB.out
          clear X Z V hB
          go_loopw [12] (fun iv wr => ∃ x : Nat, x ≤ 8 ∧ iv = .int .i8 x ∧ (∀ q ∈ preL y x, cutB st k q = true → q.1 < a ∧ q.2 < c) ∧ wr.heap[w.heap.size]? = some (.cells (vrow 24 (s24 st)) 23) ∧ wr.heap[w.heap.size + 1]? = some (.cells (vrow 66 Pic.zero.at) 27) ∧ wr.heap[pb]? = some (.cells (vrow 66 (dabK st k pA (preL y x)).at) 27) ∧ Below w.heap.size w wr) (fun iv _ => 8 - (intOf iv).toNat)
          case atStart => exact ⟨0, by omega, rfl, hgB, a1, a2, a3, a4⟩
          case round =>
            clear a1 a2 a3 a4
            obtain ⟨x, hx, rfl, hgC, X, Z, V, hB⟩ := hrel
            by_cases hltx : x < 8
            · have hxI : (x : Int) < 8 := by omega
              have hx0 : (0 : Int) ≤ (x : Int) := by omega
              have hxd : decide ((x : Int) < 8) = true := by simpa using hxI
              have hfK := dabK_fit (st := st) hlt (preL y x) pA hfA
              have hwK := dabK_wh st k (preL y x) pA
              have hs1 : dabK st k pA (preL y (x + 1)) = if cutB st k (x, y) then (dabK st k pA (preL y x)).setK (8 * y + x) ((k : Int) + 1) else dabK st k pA (preL y x) := by rw [preL_s, dabK_app]
              have hpw : (dabK st k pA (preL y x)).wide = a ∧ (dabK st k pA (preL y x)).high = c := ⟨hwK.1.trans hwA.1, hwK.2.trans hwA.2⟩
              have hcd : cutB st k (x, y) = (bits BinOp.and IntKind.u8 (st (8 * k + y) / 2 ^ x) 1 == 1) := rfl
              generalize dabK st k pA (preL y x) = pC at *
              have hA1 := and1U (st (8 * k + y) / 2 ^ x)
              rw [← hcd] at hA1
              have HP0 := Go.Lib.hid fun W h => pis_any pC pb x y W h hfK (by omega) (by omega)
              have hpe : hasP pC x y = (decide (x < a) && decide (y < c)) := by
                rw [Bool.eq_iff_iff]; simp [hasP, insB, hpw.1, hpw.2] <;> omega
              rw [hpe] at HP0
              have FK := Go.Lib.hid (s24_at st (8 * k + y))
              obtain ⟨sv, hsv⟩ : ∃ z, st (8 * k + y) = z := ⟨_, rfl⟩
              rw [hsv] at FK hA1
              clear hsv
              replace X := Go.Lib.hid X; replace Z := Go.Lib.hid Z; replace V := Go.Lib.hid V; replace hB := Go.Lib.hid hB
              cases hcu : cutB st k (x, y)
              · rw [hcu] at hA1 hs1
                have hgN : ∀ q ∈ preL y (x + 1), cutB st k q = true → q.1 < a ∧ q.2 < c := fun q hq hc2 => by
                  rw [preL_s] at hq
                  rcases List.mem_append.1 hq with h | h
                  · exact hgC q h hc2
                  · rw [List.mem_singleton.1 h, hcu] at hc2
                    cases hc2
                have Hs1 := Go.Lib.hid hs1
                have HA1 : (bits BinOp.and IntKind.u8 (sv / 2 ^ x) 1 == 0) = true := hA1
                clear hs1 hA1 hcd hpe
                go_wp2_with (first
                  | go_skip
                  | ((with_reducible refine wlAt 39 rfl ?_); refine wpList_ld1 5 _ rfl (by first | exact want_n rfl | exact want_g _ _ _ rfl rfl rfl) w.heap.size _ rfl 24 (s24 st) _ rw_u8S X.out (by omega) ?_; rw [show k * 8 + y = 8 * k + y by omega, FK.out]))
                go_roundw
                case rel => exact ⟨x + 1, by omega, by go_num, hgN, X.out, Z.out, by rw [Hs1.out]; exact V.out, hB.out⟩
                case measure => simp [intOf]; omega
              · rw [hcu] at hA1 hs1
                have Hs1 := Go.Lib.hid hs1
                have HA1 : (bits BinOp.and IntKind.u8 (sv / 2 ^ x) 1 == 0) = false := hA1
                clear hs1 hA1 hcd hpe
                by_cases hin : x < a ∧ y < c
                · have hdd : (decide (x < a) && decide (y < c)) = true := by simp [hin.1, hin.2]
                  have hgN : ∀ q ∈ preL y (x + 1), cutB st k q = true → q.1 < a ∧ q.2 < c := fun q hq hc2 => by
                    rw [preL_s] at hq
                    rcases List.mem_append.1 hq with h | h
                    · exact hgC q h hc2
                    · rw [List.mem_singleton.1 h]
                      exact hin
                  rw [hdd] at HP0
                  go_wp2_with (first
                    | go_skip
                    | ((with_reducible refine wlAt 39 rfl ?_); refine wpList_ld1 5 _ rfl (by first | exact want_n rfl | exact want_g _ _ _ rfl rfl rfl) w.heap.size _ rfl 24 (s24 st) _ rw_u8S X.out (by omega) ?_; rw [show k * 8 + y = 8 * k + y by omega, FK.out])
                    | (go_at_call 9; (refine (HP0.out _ V.out).mono ?_); rintro o w1 ⟨rfl, hb⟩; replace X := Go.Lib.hid (row_next hb X.out); replace Z := Go.Lib.hid (row_next hb Z.out); replace V := Go.Lib.hid (row_next hb V.out); replace hB := Go.Lib.hid (below_next hB.out hb); clear hb)
                    | ((with_reducible refine wlOp (.store 5 (.tmp 58) (.tmp 55)) rfl ?_); refine wpList_store1 rfl 5 (.tmp 58) (.tmp 55) rfl pb (2 + y * 8 + x) rfl 66 pC.at (.int .u8 ((k : Int) + 1)) rfl 27 size_u8S V.out (by omega) rfl ?_; rw [show 2 + y * 8 + x = 2 + (8 * y + x) by omega, setK_at _ _ (by omega)]; replace V := Go.Lib.hid (row_set V.out (vrow 66 (pC.setK (8 * y + x) ((k : Int) + 1)).at)); replace X := Go.Lib.hid (row_set' (g := pb) (by omega) X.out (vrow 66 (pC.setK (8 * y + x) ((k : Int) + 1)).at)); replace Z := Go.Lib.hid (row_set' (g := pb) (by omega) Z.out (vrow 66 (pC.setK (8 * y + x) ((k : Int) + 1)).at)); replace hB := Go.Lib.hid (Below_setRow hB.out (show w.heap.size ≤ pb by omega) (vrow 66 (pC.setK (8 * y + x) ((k : Int) + 1)).at))))
                  go_roundw
                  case rel => exact ⟨x + 1, by omega, by go_num, hgN, X.out, Z.out, by rw [Hs1.out]; exact V.out, hB.out⟩
                  case measure => simp [intOf]; omega
                · have hdd : (decide (x < a) && decide (y < c)) = false := by
                    rw [Bool.and_eq_false_iff]; simp; omega
                  rw [hdd] at HP0
                  go_wp2_with (first
                    | go_skip
                    | ((with_reducible refine wlAt 39 rfl ?_); refine wpList_ld1 5 _ rfl (by first | exact want_n rfl | exact want_g _ _ _ rfl rfl rfl) w.heap.size _ rfl 24 (s24 st) _ rw_u8S X.out (by omega) ?_; rw [show k * 8 + y = 8 * k + y by omega, FK.out])
                    | (go_at_call 9; (refine (HP0.out _ V.out).mono ?_); rintro o w1 ⟨rfl, hb⟩; replace X := Go.Lib.hid (row_next hb X.out); replace Z := Go.Lib.hid (row_next hb Z.out); replace V := Go.Lib.hid (row_next hb V.out); replace hB := Go.Lib.hid (below_next hB.out hb); clear hb)
                    | ((with_reducible refine wlAt 50 rfl ?_); refine wpList_built rfl 27 [] rfl [] (by rfl) _ built_zpic ?_)
                    | ((with_reducible refine wlOp (.store 27 (.tmp 6) (.tmp 50)) rfl ?_); refine wpList_storeall rfl 27 (.tmp 6) (.tmp 50) rfl (w.heap.size + 1) rfl 66 Pic.zero.at Pic.zero.at rfl 27 size_pic Z.out (fun i _ => Pic.one _ i) ?_; replace Z := Go.Lib.hid (row_set Z.out (vrow 66 Pic.zero.at)); replace hB := Go.Lib.hid (Below_setRow hB.out (show w.heap.size ≤ w.heap.size + 1 by omega) (vrow 66 Pic.zero.at))))
                  exact ret_row2 Try.results4 (w.heap.size + 1) 66 Pic.zero.at 27 _ Try.underlying27 rfl size_pic (.int .i64 2) rfl rfl rfl Z.out (hBad.out k (x, y) hlt hltx hlty hcu hin _ hB.out)

            · obtain rfl : x = 8 := by omega
              have hxd : decide (((8 : Nat) : Int) < 8) = false := by simp
              rw [preL_8] at V
              go_wp2
              go_roundw
              case rel => exact ⟨y + 1, by omega, by go_num, by rw [← preL_8]; exact hgC, X, Z, V, hB⟩
              case measure => simp [intOf]; omega
        · obtain rfl : y = 8 := by omega
          have hyd : decide (((8 : Nat) : Int) < 8) = false := by simp
          have e88 : preL 8 0 = pairsL 8 8 := by simp [preL]
          rw [e88] at V hgB
          go_wp2
          go_roundw
          case rel => exact ⟨k + 1, by omega, by go_num, fun k' hk' => by
            by_cases h : k' = k
            · subst h; exact fun q h1 h2 h3 => hgB q (mem_pairs h1 h2) h3
            · exact hgA k' (by omega), X, Z, by rw [hstA.out]; exact V, hB⟩
          case measure => simp [intOf]; omega
    · obtain rfl : k = 3 := by omega
      have hkd : decide (((3 : Nat) : Int) < 3) = false := by simp
      replace X := Go.Lib.hid X; replace Z := Go.Lib.hid Z; replace V := Go.Lib.hid V; replace hB := Go.Lib.hid hB
      go_wp2_with (first
        | go_skip
        | ((with_reducible refine wlAt 59 rfl ?_); refine wpList_loadall rfl 27 (.tmp 8) rfl pb rfl 66 (dabA st (blankPic a c) (pairsL 8 8) 3).at 27 _ Try.underlying27 rfl size_pic V.out ?_)
        | ((with_reducible refine wlOp (.store 27 (.tmp 6) (.tmp 59)) rfl ?_); refine wpList_storeall rfl 27 (.tmp 6) (.tmp 59) rfl (w.heap.size + 1) rfl 66 Pic.zero.at (dabA st (blankPic a c) (pairsL 8 8) 3).at rfl 27 size_pic Z.out (fun i _ => Pic.one _ i) ?_; replace Z := Go.Lib.hid (row_set Z.out (vrow 66 (dabA st (blankPic a c) (pairsL 8 8) 3).at)); replace hB := Go.Lib.hid (Below_setRow hB.out (show w.heap.size ≤ w.heap.size + 1 by omega) (vrow 66 (dabA st (blankPic a c) (pairsL 8 8) 3).at))))
      exact ret_row2 Try.results4 (w.heap.size + 1) 66 (dabA st (blankPic a c) (pairsL 8 8) 3).at 27 _ Try.underlying27 rfl size_pic (.int .i64 0) rfl rfl rfl Z.out (hOk.out hgA _ hB.out)

end Go.Proofs.Ytdigbikldkkhpaa
