import Derived.Deep.RegionHeld3
import Derived.Test.YtgbhchmpeioaiaaDoorIndex
import Derived.Test.YtgbhchmpeioaiaaDoorBeside
import Derived.Test.YtgbhchmpeioaiaaDoorGive
namespace Go.Proofs.YtgbhchmpeioaiaaDoor
open Go.RowKit
set_option maxRecDepth 100000
set_option linter.unusedVariables false
set_option linter.unusedSimpArgs false
def nearB (s : Sh) (x y u v : Int) : Bool := freeB s x y && hasL (nbs s x y 4) u v
set_option maxHeartbeats 1000000 in
theorem near_wax (s : Sh) (b x y : Nat) (u v : Int) (w : World) (hs : w.heap[b]? = some (.cells s.row 35)) (hfr : freeB s x y = false) (HF0 : ∀ w, w.heap[b]? = some (.cells s.row 35) → Calls Tryd.prog 110 #[.pointer (some ⟨b, 0, none⟩), .agg (vrow 2 (spAt x y))] w fun e w' => e = .returned (.bool (freeB s x y)) ∧ Below w.heap.size w w') :
    Calls Tryd.prog 84 #[.pointer (some ⟨b, 0, none⟩), .agg (vrow 2 (spAt x y)), .agg (vrow 2 (spAt u v))] w fun e w' => e = .returned (.bool false) ∧ Below w.heap.size w w' := by
  rw [hfr] at HF0
  have HF := Go.Lib.hid HF0
  clear HF0 hfr
  have hB : Hid (Below w.heap.size w ((w.alloc (.cells (vrow 2 (spAt x y)) 40)).alloc (.cells (vrow 2 (spAt u v)) 40))) := (((Below.refl w.heap.size w).alloc (by simp <;> omega) _).alloc (by simp <;> omega) _)
  have R : Hid (((w.alloc (.cells (vrow 2 (spAt x y)) 40)).alloc (.cells (vrow 2 (spAt u v)) 40)).heap[(w.heap.size)]? = some (.cells (vrow 2 (spAt x y)) 40)) := heap_past _ _ _ _ (by first | omega | (simp <;> omega)) (heap_at _ _ _ (by simp))
  have P : Hid (((w.alloc (.cells (vrow 2 (spAt x y)) 40)).alloc (.cells (vrow 2 (spAt u v)) 40)).heap[b]? = some (.cells (vrow 266 s.at) 35)) := heap_past _ _ _ _ (by have := row_lt hs; simp <;> omega) (heap_past _ _ _ _ (row_lt hs) hs)
  go_enter Tryd.func84, Tryd.ntmps84
  go_wp2_with (first
    | (refine wpList_loadall rfl 40 (.tmp 4) rfl (w.heap.size) rfl 2 (spAt x y) 40 _ Tryd.underlying40 rfl size_spot R.out ?_)
    | (go_at_call 110; (refine (HF.out _ P.out).mono ?_; rintro e w1 ⟨rfl, hb⟩; replace hB := Go.Lib.hid (below_next hB.out hb); clear hb)))
  go_ret
  exact ⟨rfl, hB.out⟩
set_option maxHeartbeats 4000000 in
theorem near_free (s : Sh) (b x y : Nat) (u v : Int) (w : World) (hs : w.heap[b]? = some (.cells s.row 35)) (hfr : freeB s x y = true) (hf : s.fit) (hx : x < 8) (hy : y < 8) (hok : okI s = true) (HF0 : ∀ w, w.heap[b]? = some (.cells s.row 35) → Calls Tryd.prog 110 #[.pointer (some ⟨b, 0, none⟩), .agg (vrow 2 (spAt x y))] w fun e w' => e = .returned (.bool (freeB s x y)) ∧ Below w.heap.size w w') :
    Calls Tryd.prog 84 #[.pointer (some ⟨b, 0, none⟩), .agg (vrow 2 (spAt x y)), .agg (vrow 2 (spAt u v))] w fun e w' => e = .returned (.bool (hasL (nbs s x y 4) u v)) ∧ Below w.heap.size w w' := by
  rw [hfr] at HF0
  have HF := Go.Lib.hid HF0
  have HBs := Go.Lib.hid fun w hs => beside_any s b x y w hs hf hx hy hok
  clear HF0 hfr hf hok
  have heq := eq_sp
  have hln : (nbs s x y 4).length ≤ 4 := nbs_len s x y 4
  generalize nbs s x y 4 = L at *
  have hB : Hid (Below w.heap.size w ((w.alloc (.cells (vrow 2 (spAt x y)) 40)).alloc (.cells (vrow 2 (spAt u v)) 40))) := (((Below.refl w.heap.size w).alloc (by simp <;> omega) _).alloc (by simp <;> omega) _)
  have R : Hid (((w.alloc (.cells (vrow 2 (spAt x y)) 40)).alloc (.cells (vrow 2 (spAt u v)) 40)).heap[(w.heap.size)]? = some (.cells (vrow 2 (spAt x y)) 40)) := heap_past _ _ _ _ (by first | omega | (simp <;> omega)) (heap_at _ _ _ (by simp))
  have Q : Hid (((w.alloc (.cells (vrow 2 (spAt x y)) 40)).alloc (.cells (vrow 2 (spAt u v)) 40)).heap[(w.heap.size + 1)]? = some (.cells (vrow 2 (spAt u v)) 40)) := heap_at _ _ _ (by simp)
  have P : Hid (((w.alloc (.cells (vrow 2 (spAt x y)) 40)).alloc (.cells (vrow 2 (spAt u v)) 40)).heap[b]? = some (.cells (vrow 266 s.at) 35)) := heap_past _ _ _ _ (by have := row_lt hs; simp <;> omega) (heap_past _ _ _ _ (row_lt hs) hs)
  go_enter Tryd.func84, Tryd.ntmps84
  go_wp2_with (first
    | (refine wpList_loadall rfl 40 (.tmp 4) rfl (w.heap.size) rfl 2 (spAt x y) 40 _ Tryd.underlying40 rfl size_spot R.out ?_)
    | (go_at_call 106; (refine (HBs.out _ P.out).mono ?_; rintro e w2 ⟨sv, rfl, hO, hb⟩; replace Q := Go.Lib.hid (row_next hb Q.out); replace hB := Go.Lib.hid (below_next hB.out hb)))
    | (go_at_call 110; (refine (HF.out _ P.out).mono ?_; rintro e w1 ⟨rfl, hb⟩; replace P := Go.Lib.hid (row_next hb P.out); replace R := Go.Lib.hid (row_next hb R.out); replace Q := Go.Lib.hid (row_next hb Q.out); replace hB := Go.Lib.hid (below_next hB.out hb); clear hb)))
  clear hb P R HF HBs
  by_cases hl : L.length = 0
  · obtain ⟨b, cap, hsv⟩ := hO.nil_cases hl
    obtain rfl := List.eq_nil_of_length_eq_zero hl
    clear hO hl hln
    rcases hsv with rfl | rfl
    · go_loopw [8] (fun iv wr => iv = .int .i64 0 ∧ Below w.heap.size w wr) (fun iv _ => 0)
      case atStart => exact ⟨rfl, hB.out⟩
      case round =>
        obtain ⟨rfl, hB1⟩ := hrel
        go_wp2
        go_ret
        exact ⟨rfl, hB1⟩
    · go_loopw [8] (fun iv wr => iv = .int .i64 0 ∧ Below w.heap.size w wr) (fun iv _ => 0)
      case atStart => exact ⟨rfl, hB.out⟩
      case round =>
        obtain ⟨rfl, hB1⟩ := hrel
        go_wp2
        go_ret
        exact ⟨rfl, hB1⟩
  · obtain ⟨g, cap, f, rfl, hg, hcap, hO2, hf2⟩ := hO.row (by omega)
    have O := Go.Lib.hid hO2
    have HF := Go.Lib.hid hf2
    have ngw := row_lt hO2
    clear hO hO2 hf2
    obtain ⟨wo, hwo⟩ : ∃ wo : World, wo = w2 := ⟨_, rfl⟩
    rw [← hwo] at Q hB O ngw ⊢
    clear hwo w2
    go_loopw [8] (fun iv wr => ∃ k : Nat, k ≤ L.length ∧ iv = .int .i64 k ∧ hasL (L.take k) u v = false ∧ wr.heap[w.heap.size + 1]? = some (.cells (vrow 2 (spAt u v)) 40) ∧ wr.heap[g]? = some (.cells (vrow (cap * 2) f) 40) ∧ Below w.heap.size w wr) (fun iv _ => L.length - (intOf iv).toNat)
    case atStart => exact ⟨0, by omega, rfl, rfl, Q.out, O.out, hB.out⟩
    case round =>
      clear Q O hB ngw
      obtain ⟨k, hk, rfl, hno, Q, O, hB⟩ := hrel
      replace Q := Go.Lib.hid Q; replace O := Go.Lib.hid O; replace hB := Go.Lib.hid hB
      by_cases hlt : k < L.length
      · have hkI : (k : Int) < (L.length : Int) := by omega
        have hk0 : (0 : Int) ≤ (k : Int) := by omega
        have hkd : decide ((k : Int) < (L.length : Int)) = true := by simpa using hkI
        have hst := hasL_take (u := u) (v := v) hlt
        have HR := Go.Lib.hid (row_spot f (k * 2) (L[k]'hlt) (HF.out k hlt))
        rw [hno, Bool.false_or, hasL_one] at hst
        have hgr := hasL_grow (l := L) (u := u) (v := v) (k := k + 1)
        generalize L[k]'hlt = p at *
        go_wp2
        refine wp_region_still_lit (by kernel_rfl) (by kernel_rfl) ?_
        simp only [World.drew_eq]
        repeat (first
          | (refine wpStill_loadmid rfl 40 (.tmp 5) rfl (w.heap.size + 1) 0 rfl 2 2 (spAt u v) 40 _ Tryd.underlying40 rfl size_spot Q.out (by omega) ?_; rw [sp_row]; simp only [Act.put, List.setIfInBounds_toArray, List.set_cons_succ, List.set_cons_zero])
          | (refine wpStill_loadmid rfl 40 (.tmp 24) rfl g (k * 2) rfl (cap * 2) 2 f 40 _ Tryd.underlying40 rfl size_spot O.out (by omega) ?_; rw [HR.out]; simp only [Act.put, List.setIfInBounds_toArray, List.set_cons_succ, List.set_cons_zero])
          | still_step
          | (refine wpStill_step (fun K hK => ?_); go_simp; simp only [hkI, hk0, if_true]; go_simp; refine hK _ ?_; clear hK K))
        refine wpStill_nil ?_
        cases hcb : (((p.1.1 : Int) == u) && ((p.1.2 : Int) == v))
        · rw [hcb] at hst
          go_wp2
          go_roundw
          case rel => exact ⟨k + 1, by omega, by go_num, hst, Q.out, O.out, hB.out.drew⟩
          case measure => simp [intOf]; omega
        · rw [hcb] at hst
          go_wp2
          go_ret
          exact ⟨by rw [hgr hst]; rfl, hB.out.drew⟩
      · obtain rfl : k = L.length := by omega
        have hkd : decide ((L.length : Int) < (L.length : Int)) = false := by simp
        rw [List.take_length] at hno
        go_wp2
        go_ret
        exact ⟨by rw [hno]; rfl, hB.out⟩
theorem near_any (s : Sh) (b x y : Nat) (u v : Int) (w : World) (hs : w.heap[b]? = some (.cells s.row 35)) (hf : s.fit) (hx : x < 8) (hy : y < 8) (hok : okI s = true) :
    Calls Tryd.prog 84 #[.pointer (some ⟨b, 0, none⟩), .agg #[.int .i8 x, .int .i8 y], .agg #[.int .i8 u, .int .i8 v]] w fun e w' => e = .returned (.bool (nearB s x y u v)) ∧ Below w.heap.size w w' := by
  rw [sp_vrow, sp_vrow]
  have HF := fun w hs => free_any s b x y w hs hf ⟨by omega, by omega⟩ ⟨by omega, by omega⟩ hok
  unfold nearB
  cases hfr : freeB s x y
  · exact near_wax s b x y u v w hs hfr HF
  · rw [Bool.true_and]; exact near_free s b x y u v w hs hfr hf hx hy hok HF
end Go.Proofs.YtgbhchmpeioaiaaDoor
