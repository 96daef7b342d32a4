import Derived.Test.YtfdjlflnhhiecaaDoorNames
import Derived.Test.YtfdjlflnhhiecaaDoorG1
namespace Go.Proofs.YtfdjlflnhhiecaaDoor
open Go.RowKit
set_option maxRecDepth 100000
set_option linter.unusedVariables false
theorem rw_str : (Tryd.prog.underlying 9).map (·.isRow) = some false := by kernel_rfl
set_option maxHeartbeats 1000000 in
theorem specName_yes (k : Nat) (hk : k < 9) (w : World) : Calls Tryd.prog 36 #[.int .i64 k] w fun e w' => e = .returned (nameAt k) ∧ Below w.heap.size w w' := by
  have hB : Hid (Below w.heap.size w (w.alloc (.cells (vrow 9 nameAt) 9))) := (Below.refl w.heap.size w).alloc (Nat.le_refl _) _
  have S : Hid ((w.alloc (.cells (vrow 9 nameAt) 9)).heap[w.heap.size]? = some (.cells (vrow 9 nameAt) 9)) := heap_at _ _ _ rfl
  have hkI : (k : Int) < 9 := by omega
  go_enter Tryd.func36, Tryd.ntmps36
  go_wp2_with (first
    | (go_at_call 52; refine (in_yes _ _ _ (by omega) (by omega) _).mono ?_; rintro o w1 ⟨rfl, hb⟩; replace hB := Go.Lib.hid (below_next hB.out hb); replace S := Go.Lib.hid (row_next hb S.out); clear hb)
    | (refine wpList_load1 rfl 9 _ rfl w.heap.size _ rfl 9 nameAt 9 _ Tryd.underlying9 rfl S.out (by omega) ?_; simp only [Act.put, List.setIfInBounds_toArray, List.set_cons_succ, List.set_cons_zero]))
  go_ret
  exact ⟨rfl, hB.out⟩
set_option maxHeartbeats 1000000 in
theorem specName_no (k : Int) (hk : k < 0 ∨ 8 < k) (w : World) : Calls Tryd.prog 36 #[.int .i64 k] w fun e w' => e = .returned (.string { data := #[] }) ∧ Below w.heap.size w w' := by
  have hB : Hid (Below w.heap.size w (w.alloc (.cells (vrow 9 nameAt) 9))) := (Below.refl w.heap.size w).alloc (Nat.le_refl _) _
  have S : Hid ((w.alloc (.cells (vrow 9 nameAt) 9)).heap[w.heap.size]? = some (.cells (vrow 9 nameAt) 9)) := heap_at _ _ _ rfl
  have HK := Go.Lib.hid hk
  clear hk
  go_enter Tryd.func36, Tryd.ntmps36
  go_wp2_with (first
    | (go_at_call 52; refine (in_no _ _ _ HK.out _).mono ?_; rintro o w1 ⟨rfl, hb⟩; replace hB := Go.Lib.hid (below_next hB.out hb); replace S := Go.Lib.hid (row_next hb S.out); clear hb))
  go_ret
  exact ⟨rfl, hB.out⟩
set_option maxHeartbeats 1000000 in
theorem implName_yes (k : Nat) (hk : k < 9) (t : TypeId) (w : World) (hN : w.heap[0]? = some (.cells (vrow 9 nameAt) t)) : Calls Tryd.prog 37 #[.int .i64 k] w fun e w' => e = .returned (nameAt k) ∧ Below w.heap.size w w' := by
  have S := Go.Lib.hid hN
  have hkI : (k : Int) < 9 := by omega
  have q1 : decide ((k : Int) < 0) = false := by simp
  have q2 : decide (9 ≤ (k : Int)) = false := by simp; omega
  clear hN
  go_enter Tryd.func37, Tryd.ntmps37
  go_wp2_with (first
    | (refine wpList_load1 rfl 9 _ rfl 0 _ rfl 9 nameAt _ _ Tryd.underlying9 rfl S.out (by omega) ?_; simp only [Act.put, List.setIfInBounds_toArray, List.set_cons_succ, List.set_cons_zero]))
  go_ret
  exact ⟨rfl, Below.refl _ _⟩
set_option maxHeartbeats 1000000 in
theorem implName_no (k : Int) (hk : k < 0 ∨ 8 < k) (w : World) : Calls Tryd.prog 37 #[.int .i64 k] w fun e w' => e = .returned (.string { data := #[] }) ∧ Below w.heap.size w w' := by
  by_cases h : k < 0
  · clear hk
    go_enter Tryd.func37, Tryd.ntmps37
    go_wp2
    go_ret
    exact ⟨rfl, Below.refl _ _⟩
  · have h9 : 9 ≤ k := by omega
    clear hk
    go_enter Tryd.func37, Tryd.ntmps37
    go_wp2
    go_ret
    exact ⟨rfl, Below.refl _ _⟩
set_option maxHeartbeats 1000000 in
theorem name_walk (k : Int) (v : ByteArray) (t : TypeId) (w : World) (hN : w.heap[0]? = some (.cells (vrow 9 nameAt) t))
    (hS : ∀ w, Calls Tryd.prog 36 #[.int .i64 k] w fun e w' => e = .returned (.string v) ∧ Below w.heap.size w w')
    (hI : ∀ w, w.heap[0]? = some (.cells (vrow 9 nameAt) t) → Calls Tryd.prog 37 #[.int .i64 k] w fun e w' => e = .returned (.string v) ∧ Below w.heap.size w w') : Calls Tryd.prog 12 #[.int .i64 k] w fun e w' => e = .returned (.bool true) ∧ Below w.heap.size w w' := by
  have S := Go.Lib.hid hN
  have hB := Go.Lib.hid (Below.refl w.heap.size w)
  have HS := Go.Lib.hid hS; have HI := Go.Lib.hid hI
  clear hN hS hI
  go_enter Tryd.func12, Tryd.ntmps12
  go_wp2_with (first
    | (go_at_call 36; refine (HS.out _).mono ?_; rintro o w1 ⟨rfl, hb⟩; replace S := Go.Lib.hid (row_next hb S.out); replace hB := Go.Lib.hid (below_next hB.out hb); clear hb)
    | (go_at_call 37; refine (HI.out _ S.out).mono ?_; rintro o w2 ⟨rfl, hb⟩; replace S := Go.Lib.hid (row_next hb S.out); replace hB := Go.Lib.hid (below_next hB.out hb); clear hb))
  go_ret
  exact ⟨rfl, hB.out⟩
theorem name_law (k : Int) (t : TypeId) (w : World) (hN : w.heap[0]? = some (.cells (vrow 9 nameAt) t)) : Calls Tryd.prog 12 #[.int .i64 k] w fun e w' => e = .returned (.bool true) ∧ Below w.heap.size w w' := by
  by_cases h : 0 ≤ k ∧ k ≤ 8
  · obtain ⟨j, rfl, hj⟩ : ∃ j : Nat, k = j ∧ j < 9 := ⟨k.toNat, by omega, by omega⟩
    exact name_walk j (nameS j) t w hN (fun w => specName_yes j hj w) (fun w h => implName_yes j hj t w h)
  · exact name_walk k { data := #[] } t w hN (fun w => specName_no k (by omega) w) (fun w _ => implName_no k (by omega) w)
end Go.Proofs.YtfdjlflnhhiecaaDoor
