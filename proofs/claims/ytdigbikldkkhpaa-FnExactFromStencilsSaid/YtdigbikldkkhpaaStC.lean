import Derived.Test.YtdigbikldkkhpaaStI
namespace Go.Proofs.Ytdigbikldkkhpaa
open Go.RowKit
set_option maxRecDepth 100000
set_option linter.unusedVariables false
set_option linter.unusedSimpArgs false
set_option maxHeartbeats 2000000 in
theorem cb1_any (g : Nat → Int) (x y b1 : Nat) (w : World) (hx : x < 8) (hy : y < 8) (h1 : w.heap[b1]? = some (.cells (vrow 2 (spAt x y)) 38)) : Calls Try.prog 18 #[.agg (vrow 8 (s24 g)), .pointer (some ⟨b1, 0, none⟩)] w fun e w' => e = .returned (.bool (bits BinOp.and IntKind.u8 (g y / 2 ^ x) 1 == 1)) ∧ Below w.heap.size w w' := by
  have HC := Go.Lib.hid fun w => cutOut_any g x y w hx hy
  generalize (bits BinOp.and IntKind.u8 (g y / 2 ^ x) 1 == 1) = bb at *
  have G : Hid ((w.alloc (.cells (vrow 8 (s24 g)) 22)).heap[w.heap.size]? = some (.cells (vrow 8 (s24 g)) 22)) := (heap_at _ _ _ (by simp))
  have hB : Hid (Below w.heap.size w (w.alloc (.cells (vrow 8 (s24 g)) 22))) := Go.Lib.hid ((Below.refl w.heap.size w).alloc (by simp <;> omega) _)
  have X : Hid ((w.alloc (.cells (vrow 8 (s24 g)) 22)).heap[b1]? = some (.cells (vrow 2 (spAt x y)) 38)) := heap_past _ _ _ _ (row_lt h1) h1
  clear h1
  go_enter Try.func18, Try.ntmps18
  go_wp2_with (first
    | go_skip
    | ((with_reducible refine wlAt 4 rfl ?_); refine wpList_loadall rfl 22 (.tmp 2) rfl w.heap.size rfl 8 (s24 g) 22 _ Try.underlying22 rfl size_x8 G.out ?_)
    | ((with_reducible refine wlAt 5 rfl ?_); refine wpList_loadall rfl 38 (.tmp 1) rfl b1 rfl 2 (spAt x y) 38 _ Try.underlying38 rfl size_spot X.out ?_)
    | (go_at_call 19; (refine (HC.out _).mono ?_); rintro o w1 ⟨rfl, hb⟩; replace hB := Go.Lib.hid (below_next hB.out hb); clear hb))
  go_ret
  exact ⟨rfl, hB.out⟩
def anyC (st : Nat → Int) (q : Nat × Nat) : Nat → Bool
  | 0 => false
  | k + 1 => anyC st q k || cutB st k q
theorem anyC_some {st : Nat → Int} {q : Nat × Nat} {k : Nat} (hk : k < 3) (h : cutB st k q = true) : anyC st q 3 = true := by
  have : k = 0 ∨ k = 1 ∨ k = 2 := by omega
  rcases this with rfl | rfl | rfl <;> simp [anyC, h]
set_option maxHeartbeats 4000000 in
theorem ixC_any (st : Nat → Int) (x y b b1 : Nat) (w : World) (hx : x < 8) (hy : y < 8) (h0 : w.heap[b]? = some (.cells (vrow 24 (s24 st)) 23)) (h1 : w.heap[b1]? = some (.cells (vrow 2 (spAt x y)) 38)) : Calls Try.prog 25 #[.slice (some ⟨b, 0, none⟩) 3 3, .func (.func 18) #[] #[.pointer (some ⟨b1, 0, none⟩)]] w fun e w' => (∃ r : Int, e = .returned (.int .i64 r) ∧ decide (0 ≤ r) = anyC st (x, y) 3) ∧ Below w.heap.size w w' := by
  have G := Go.Lib.hid h0; have X := Go.Lib.hid h1; have hB := Go.Lib.hid (Below.refl w.heap.size w)
  clear h0 h1
  go_enter Try.func25, Try.ntmps25
  go_wp2
  have a1 := G.out; have a2 := X.out; have a3 := hB.out
  clear G X hB
  go_loopw [8] (fun iv wr => ∃ k : Nat, k ≤ 3 ∧ iv = .int .i64 k ∧ anyC st (x, y) k = false ∧ wr.heap[b]? = some (.cells (vrow 24 (s24 st)) 23) ∧ wr.heap[b1]? = some (.cells (vrow 2 (spAt x y)) 38) ∧ Below w.heap.size w wr) (fun iv _ => 3 - (intOf iv).toNat)
  case atStart => exact ⟨0, by omega, rfl, rfl, a1, a2, a3⟩
  case round =>
    clear a1 a2 a3
    obtain ⟨k, hk, rfl, hno, G, X, hB⟩ := hrel
    by_cases hlt : k < 3
    · have hkI : (k : Int) < 3 := by omega
      have hk0 : (0 : Int) ≤ (k : Int) := by omega
      have hkd : decide ((k : Int) < 3) = true := by simpa using hkI
      have HR := Go.Lib.hid (show vrow 8 (fun q => s24 st (k * 8 + q)) = vrow 8 (s24 fun y => st (8 * k + y)) from vrow_ext _ _ _ fun q hq => by rw [s24_at, s24_at, Nat.mul_comm])
      have HC := Go.Lib.hid fun W h => cb1_any (fun y => st (8 * k + y)) x y b1 W hx hy h
      have hcd : cutB st k (x, y) = (bits BinOp.and IntKind.u8 (st (8 * k + y) / 2 ^ x) 1 == 1) := rfl
      have hn1 : anyC st (x, y) (k + 1) = (anyC st (x, y) k || cutB st k (x, y)) := rfl
      have hso := anyC_some (st := st) (q := (x, y)) hlt
      rw [← hcd] at HC
      rw [hno] at hn1
      clear hcd hno
      generalize cutB st k (x, y) = bb at *
      replace G := Go.Lib.hid G; replace X := Go.Lib.hid X; replace hB := Go.Lib.hid hB
      cases bb
      · go_wp2_with (first
          | go_skip
          | ((with_reducible refine wlAt 15 rfl ?_); refine wpList_loadmid rfl 22 (.tmp 14) rfl b (k * 8) rfl 24 8 (s24 st) 23 _ Try.underlying22 rfl size_x8 G.out (by omega) ?_; rw [HR.out])
          | (go_at_call 18; (refine (HC.out _ X.out).mono ?_); rintro o w1 ⟨rfl, hb⟩; replace G := Go.Lib.hid (row_next hb G.out); replace X := Go.Lib.hid (row_next hb X.out); replace hB := Go.Lib.hid (below_next hB.out hb); clear hb))
        go_roundw
        case rel => exact ⟨k + 1, by omega, by go_num, by rw [hn1]; rfl, G.out, X.out, hB.out⟩
        case measure => simp [intOf]; omega
      · go_wp2_with (first
          | go_skip
          | ((with_reducible refine wlAt 15 rfl ?_); refine wpList_loadmid rfl 22 (.tmp 14) rfl b (k * 8) rfl 24 8 (s24 st) 23 _ Try.underlying22 rfl size_x8 G.out (by omega) ?_; rw [HR.out])
          | (go_at_call 18; (refine (HC.out _ X.out).mono ?_); rintro o w1 ⟨rfl, hb⟩; replace G := Go.Lib.hid (row_next hb G.out); replace X := Go.Lib.hid (row_next hb X.out); replace hB := Go.Lib.hid (below_next hB.out hb); clear hb))
        go_ret
        exact ⟨⟨k, rfl, by rw [show anyC st (x, y) 3 = true by simpa using hso]; simp⟩, hB.out⟩
    · obtain rfl : k = 3 := by omega
      have hkd : decide (((3 : Nat) : Int) < 3) = false := by simp
      go_wp2
      go_ret
      exact ⟨⟨-1, rfl, by rw [hno]; rfl⟩, hB⟩
set_option maxHeartbeats 2000000 in
theorem coC_any (st : Nat → Int) (x y b b1 : Nat) (w : World) (hx : x < 8) (hy : y < 8) (h0 : w.heap[b]? = some (.cells (vrow 24 (s24 st)) 23)) (h1 : w.heap[b1]? = some (.cells (vrow 2 (spAt x y)) 38)) : Calls Try.prog 21 #[.slice (some ⟨b, 0, none⟩) 3 3, .func (.func 18) #[] #[.pointer (some ⟨b1, 0, none⟩)]] w fun e w' => e = .returned (.bool (anyC st (x, y) 3)) ∧ Below w.heap.size w w' := by
  have HI := Go.Lib.hid fun W h g => ixC_any st x y b b1 W hx hy h g
  generalize anyC st (x, y) 3 = an at *
  go_enter Try.func21, Try.ntmps21
  go_wp2_with (first
    | go_skip
    | (go_at_call 25; (refine (HI.out _ h0 h1).mono ?_); rintro o w1 ⟨⟨r, rfl, hr⟩, hb⟩))
  go_ret
  exact ⟨by rw [← hr]; congr 3, hb⟩
end Go.Proofs.Ytdigbikldkkhpaa
