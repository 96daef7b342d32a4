import Derived.Laws.AppendOwn
import Derived.Laws.Append
import Derived.OwnWalk
import Derived.Deep.AppendLies
import Derived.Test.YtfhfiaphdgfmnaaDoorG1
import Derived.Test.YtfhfiaphdgfmnaaDoorReaders2
namespace Go.Proofs.YtfhfiaphdgfmnaaDoor
open Go.RowKit
set_option maxRecDepth 100000
set_option linter.unusedVariables false
theorem info_spot : (Tryd.prog.info? 105).map (fun i => (i.zero, i.size, i.bytes)) = some (some (.agg #[.int .i8 0, .int .i8 0]), 2, 2) := by kernel_rfl
def vals (l : List Sp8) : List Value := l.flatMap fun p => [.int .i8 p.1.1, .int .i8 p.1.2]
theorem vals_app (l m : List Sp8) : vals (l ++ m) = vals l ++ vals m := by simp [vals]
theorem vals_one (p : Sp8) : vals [p] = [.int .i8 p.1.1, .int .i8 p.1.2] := by simp [vals]
theorem vals_len (l : List Sp8) : (vals l).length = l.length * 2 := by
  induction l with
  | nil => rfl
  | cons p l ih => simp only [vals, List.flatMap_cons, List.length_append, List.length_cons, List.length_nil] at ih ⊢; omega
theorem vals_get (l : List Sp8) (i : Nat) (hi : i < l.length) : (vals l)[2 * i]? = some (.int .i8 (l[i]'hi).1.1) ∧ (vals l)[2 * i + 1]? = some (.int .i8 (l[i]'hi).1.2) := by
  induction l generalizing i with
  | nil => simp at hi
  | cons p l ih =>
    cases i with
    | zero => simp [vals]
    | succ i =>
      have := ih i (by simpa using hi)
      simp only [vals, List.flatMap_cons, List.cons_append, List.nil_append] at this ⊢
      rw [show 2 * (i + 1) = 2 * i + 1 + 1 by omega]
      simpa using this
/-- a slice value that owns the spots l: a row of cells that begins with them -/
structure Owns (w : World) (base : Nat) (v : Value) (l : List Sp8) : Prop where
  own : w.ownsRow base 105 2 v l.length (vals l)
theorem Owns.row {w : World} {base : Nat} {v : Value} {l : List Sp8} (h : Owns w base v l) (hl : 0 < l.length) : ∃ g cap f, v = .slice (some ⟨g, 0, none⟩) l.length cap ∧ base ≤ g ∧ l.length ≤ cap ∧ w.heap[g]? = some (.cells (vrow (cap * 2) f) 105) ∧
    ∀ (i : Nat) (hi : i < l.length), f (i * 2) = .int .i8 (l[i]'hi).1.1 ∧ f (i * 2 + 1) = .int .i8 (l[i]'hi).1.2 := by
  rcases h.own.2 with ⟨_, h0⟩ | ⟨g, cap, cur, hv, hb, hg, hcap, _, hsz, ht⟩
  · omega
  · refine ⟨g, cap, fun i => cur.getD i undef, hv, hb, hcap, ?_, ?_⟩
    · rw [hg]
      congr 2
      apply Array.ext_getElem?
      intro i
      by_cases hi : i < cap * 2
      · rw [vrow_get _ _ _ hi, Array.getD_eq_getD_getElem?, Array.getElem?_eq_getElem (by omega)]; rfl
      · rw [vrow_none _ _ _ hi, Array.getElem?_eq_none (by omega)]
    · intro i hi
      have key : ∀ j, j < l.length * 2 → ∀ u, (vals l)[j]? = some u → cur.getD j undef = u := by
        intro j hj u hu
        rw [← ht, List.getElem?_take, if_pos hj] at hu
        rw [Array.getD_eq_getD_getElem?]
        simp only [Array.getElem?_toList] at hu
        rw [hu]; rfl
      obtain ⟨h1, h2⟩ := vals_get l i hi
      exact ⟨key _ (by omega) _ (by rw [Nat.mul_comm]; exact h1), key _ (by omega) _ (by rw [Nat.mul_comm]; exact h2)⟩
set_option maxHeartbeats 2000000 in
theorem spots_any (s : Sh) (b a c : Nat) (w : World) (hs : w.heap[b]? = some (.cells s.row 39)) (ea : s.wide = a) (ec : s.high = c) (ha : a ≤ 8) (hc : c ≤ 8) : Calls Tryd.prog 87 #[.pointer (some ⟨b, 0, none⟩)] w fun e w' => ∃ v, e = .returned v ∧ Owns w' w.heap.size v (cellsL a c) ∧ Below w.heap.size w w' := by
  obtain ⟨i0, hi, hz0, hz1, hz2⟩ := info_parts info_spot
  have hbs := row_lt hs
  go_enter Tryd.func87, Tryd.ntmps87
  go_wp2
  have P0 : (w.alloc (.cells #[] 105)).heap[b]? = some (.cells s.row 39) := heap_past _ _ _ _ hbs hs
  have O0 : (w.alloc (.cells #[] 105)).ownsRow w.heap.size 105 2 (.slice (some ⟨w.heap.size, 0, none⟩) 0 0) 0 [] := World.ownsRow_made w #[] 0 (Nat.le_refl _) (by decide) rfl
  have B0 : Below w.heap.size w (w.alloc (.cells #[] 105)) := (Below.refl _ _).alloc (Nat.le_refl _) _
  generalize hW : w.alloc _ = W0 at P0 O0 B0 ⊢
  clear hW hs
  go_loopw [3, 4] (fun v y wr => ∃ k : Nat, k ≤ c ∧ y = .int .i8 k ∧ wr.ownsRow w.heap.size 105 2 v (cellsL a k).length (vals (cellsL a k)) ∧ Below w.heap.size w wr ∧ wr.heap[b]? = some (.cells s.row 39)) (fun _ y _ => c - (intOf y).toNat)
  case atStart => exact ⟨0, by omega, rfl, O0, B0, P0⟩
  case round =>
    clear P0 O0 B0
    obtain ⟨k, hk, rfl, hO, hB0, hP⟩ := hrel
    have O := Go.Lib.hid hO; have hB := Go.Lib.hid hB0; have P : Hid (wr.heap[b]? = some (.cells (vrow 266 s.at) 39)) := hP
    clear hO hP hB0
    by_cases hlt : k < c
    · have hdk : decide ((k : Int) < s.high) = true := by rw [ec]; simp; omega
      go_wp2_with (first
        | (refine wpList_load1 rfl 23 _ rfl b _ rfl 266 s.at _ _ Tryd.underlying23 rfl P.out (by omega) ?_; rw [Sh.at_1]))
      obtain ⟨wo, hwo⟩ : ∃ wo : World, wo = wr := ⟨_, rfl⟩
      rw [← hwo] at O hB P ⊢
      clear hwo wr
      go_loopw [3, 5] (fun v x wr => ∃ j : Nat, j ≤ a ∧ x = .int .i8 j ∧ wr.ownsRow w.heap.size 105 2 v (cellsL a k ++ rowOf j k).length (vals (cellsL a k ++ rowOf j k)) ∧ Below w.heap.size w wr ∧ wr.heap[b]? = some (.cells s.row 39)) (fun _ x _ => a - (intOf x).toNat)
      case atStart => exact ⟨0, by omega, rfl, by simpa [rowOf] using O.out, hB.out, P.out⟩
      case round =>
        clear O hB P
        obtain ⟨j, hj, rfl, hO, hB0, hP⟩ := hrel
        have O := Go.Lib.hid hO; have hB := Go.Lib.hid hB0; have P : Hid (wr.heap[b]? = some (.cells (vrow 266 s.at) 39)) := hP
        clear hO hP hB0
        by_cases hlj : j < a
        · have hdj : decide ((j : Int) < s.wide) = true := by rw [ea]; simp; omega
          have hlen : (cellsL a k ++ rowOf j k).length ≤ 64 := by
            have : a * k ≤ 8 * 7 := Nat.mul_le_mul ha (by omega)
            rw [List.length_append, cellsL_length, rowOf_length]; omega
          have hsz := hB.out.size
          go_wp2_with (first
            | (refine wpList_load1 rfl 23 _ rfl b _ rfl 266 s.at _ _ Tryd.underlying23 rfl P.out (by omega) ?_; rw [Sh.at_0])
            | (at_builtin; refine wpList_append_own _ rfl (.tmp 23) (.tmp 27) 115 rfl w.heap.size 105 i0 (.agg #[.int .i8 0, .int .i8 0]) 2 2 Tryd.underlying115 hi hz0 hz1 hz2 rfl (by decide) _ _ _ rfl (O.out.alloc _) ⟨wr.heap.size, 0, none⟩ 1 1 [.int .i8 j, .int .i8 k] rfl rfl (World.news_of_block (heap_at _ _ _ rfl)) (by simp [Value.oneCell']) (by simp only [maxLen]; omega) (by omega) (by simp; omega) ?_; intro v' w1 hown' hgrow _))
          have B1 : Below w.heap.size w w1 := (hB.out.alloc hsz _).grown hgrow (by simp; omega) (fun q hq => (O.out.lt q hq).1)
          have P1 : w1.heap[b]? = some (.cells s.row 39) := (hgrow.block b (by have := row_lt P.out; simp; omega) (fun e => by have := (O.out.lt b e.symm).1; omega)).trans (heap_past _ _ _ _ (row_lt P.out) P.out)
          have hs := rowOf_succ j k
          have e1 : vals (cellsL a k ++ rowOf (j + 1) k) = vals (cellsL a k ++ rowOf j k) ++ [.int .i8 j, .int .i8 k] := by
            rw [hs, ← List.append_assoc, vals_app _ [_], vals_one, mk8_x (by omega) (by omega)]
          have e2 : (cellsL a k ++ rowOf (j + 1) k).length = (cellsL a k ++ rowOf j k).length + 1 := by
            rw [hs, ← List.append_assoc, List.length_append]; rfl
          go_roundw
          case rel => exact ⟨j + 1, by omega, by go_num, by rw [e1, e2]; exact hown', B1, P1⟩
          case measure => simp [intOf]; omega
        · obtain rfl : j = a := by omega
          have hdj : decide ((j : Int) < s.wide) = false := by rw [ea]; simp
          go_wp2_with (first
            | (refine wpList_load1 rfl 23 _ rfl b _ rfl 266 s.at _ _ Tryd.underlying23 rfl P.out (by omega) ?_; rw [Sh.at_0]))
          go_roundw
          case rel => exact ⟨k + 1, by omega, by go_num, by rw [cellsL_succ]; exact O.out, hB.out, P.out⟩
          case measure => simp [intOf]; omega
    · obtain rfl : k = c := by omega
      have hdk : decide ((k : Int) < s.high) = false := by rw [ec]; simp
      go_wp2_with (first
        | (refine wpList_load1 rfl 23 _ rfl b _ rfl 266 s.at _ _ Tryd.underlying23 rfl P.out (by omega) ?_; rw [Sh.at_1]))
      go_ret
      exact ⟨_, rfl, ⟨O.out⟩, hB.out⟩
end Go.Proofs.YtfhfiaphdgfmnaaDoor
