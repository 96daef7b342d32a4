import Derived.Deep.RegionHeld3
import Derived.Test.YtgbhchmpeioaiaaDoorSpots
import Derived.Test.YtgbhchmpeioaiaaDoorClos
import Derived.Test.YtgbhchmpeioaiaaDoorGdB
namespace Go.Proofs.YtgbhchmpeioaiaaDoor
open Go.RowKit
set_option maxRecDepth 100000
set_option linter.unusedVariables false
set_option linter.unusedSimpArgs false
def hasL (l : List Sp8) (u v : Int) : Bool := l.any fun p => ((p.1.1 : Int) == u) && ((p.1.2 : Int) == v)
theorem hasL_app (l m : List Sp8) (u v : Int) : hasL (l ++ m) u v = (hasL l u v || hasL m u v) := by simp [hasL]
theorem hasL_one (p : Sp8) (u v : Int) : hasL [p] u v = (((p.1.1 : Int) == u) && ((p.1.2 : Int) == v)) := by simp [hasL]
theorem hasL_take {l : List Sp8} {u v : Int} {k : Nat} (h : k < l.length) : hasL (l.take (k + 1)) u v = (hasL (l.take k) u v || hasL [l[k]] u v) := by
  rw [List.take_succ_eq_append_getElem h, hasL_app]
theorem hasL_grow {l : List Sp8} {u v : Int} {k : Nat} (h : hasL (l.take k) u v = true) : hasL l u v = true := by
  rw [← List.take_append_drop k l, hasL_app, h]; rfl
theorem spot_lit (x y : Int) : vrow 2 (spAt x y) = #[.int .i8 x, .int .i8 y] := rfl
theorem und_spot : Tryd.prog.underlying 40 = some (.struct (Tryd.prog.fieldsOf 40)) := by kernel_rfl
theorem stood_spot : Tryd.prog.stoodInHeld 40 = false := by kernel_rfl
theorem fields_spot : (Tryd.prog.fieldsOf 40).toList.map (fun f => (f.name, f.type, f.offset)) = [("X", 22, 0), ("Y", 22, 1)] := by kernel_rfl
theorem eq_sp (a b a' b' : Int) (w : World) : (Op.equalIn 10000 40 (.agg #[.int .i8 a, .int .i8 b]) (.agg #[.int .i8 a', .int .i8 b'])).run Tryd.prog w = .ok ((a == a') && (b == b')) w := by
  rw [run_equalIn_struct w 9999 _ _ _ und_spot stood_spot]
  have hl := fields_spot
  have ha : ∀ w, (isAgg 22).run Tryd.prog w = .ok false w := fun w => run_isAgg_row w _ _ Tryd.underlying22
  generalize (Tryd.prog.fieldsOf 40).toList = fs at hl ⊢
  rcases fs with _ | ⟨f1, _ | ⟨f2, _ | ⟨f3, fs⟩⟩⟩ <;> simp only [List.map_cons, List.map_nil, List.cons.injEq, Prod.mk.injEq, List.nil_eq, reduceCtorEq, and_false, and_true, false_and] at hl
  obtain ⟨⟨e1, e2, e3⟩, e4, e5, e6⟩ := hl
  simp only [Op.eqFields, e1, e2, e3, e4, e5, e6, part, Sem.run_bind, ha, Result.andThen_ok, Bool.false_eq_true, if_false]
  simp [run_equalIn_int w 9998 22 .i8 .i8 _ _ Tryd.underlying22]
  cases h1 : (a == a') <;> cases h2 : (b == b') <;> simp_all [run_equalIn_int w 9998 22 .i8 .i8 _ _ Tryd.underlying22]
set_option maxHeartbeats 2000000 in
theorem index_any (l : List Sp8) (g cap : Nat) (f : Nat → Value) (u v : Int) (w : World) (hn : l.length ≤ 1000) (hcap : l.length ≤ cap) (hg : w.heap[g]? = some (.cells (vrow (cap * 2) f) 40)) (hf : ∀ (i : Nat) (hi : i < l.length), f (i * 2) = .int .i8 (l[i]'hi).1.1 ∧ f (i * 2 + 1) = .int .i8 (l[i]'hi).1.2) :
    Calls Tryd.prog 125 #[.slice (some ⟨g, 0, none⟩) l.length cap, .agg (vrow 2 (spAt u v))] w fun e w' => (∃ r : Int, e = .returned (.int .i64 r) ∧ decide (0 ≤ r) = hasL l u v) ∧ Below w.heap.size w w' := by
  have HF := Go.Lib.hid hf
  clear hf
  have heq := eq_sp
  have hB : Hid (Below w.heap.size w (w.alloc (.cells (vrow 2 (spAt u v)) 40))) := ((Below.refl w.heap.size w).alloc (by simp <;> omega) _)
  have R : Hid ((w.alloc (.cells (vrow 2 (spAt u v)) 40)).heap[(w.heap.size)]? = some (.cells (vrow 2 (spAt u v)) 40)) := heap_at _ _ _ (by simp)
  have O : Hid ((w.alloc (.cells (vrow 2 (spAt u v)) 40)).heap[g]? = some (.cells (vrow (cap * 2) f) 40)) := heap_past _ _ _ _ (row_lt hg) hg
  have ngw := row_lt hg
  clear hg
  go_enter Tryd.func125, Tryd.ntmps125
  go_wp2
  generalize w.alloc _ = W0 at R O hB ⊢
  go_loopw [8] (fun iv wr => ∃ k : Nat, k ≤ l.length ∧ iv = .int .i64 k ∧ hasL (l.take k) u v = false ∧ wr.heap[w.heap.size]? = some (.cells (vrow 2 (spAt u v)) 40) ∧ wr.heap[g]? = some (.cells (vrow (cap * 2) f) 40) ∧ Below w.heap.size w wr) (fun iv _ => l.length - (intOf iv).toNat)
  case atStart => exact ⟨0, by omega, rfl, rfl, R.out, O.out, hB.out⟩
  case round =>
    clear R O hB
    obtain ⟨k, hk, rfl, hno, R, O, hB⟩ := hrel
    replace R := Go.Lib.hid R; replace O := Go.Lib.hid O; replace hB := Go.Lib.hid hB
    by_cases hlt : k < l.length
    · have hkI : (k : Int) < (l.length : Int) := by omega
      have hk0 : (0 : Int) ≤ (k : Int) := by omega
      have hkd : decide ((k : Int) < (l.length : Int)) = true := by simpa using hkI
      have hst := hasL_take (u := u) (v := v) hlt
      have HR := Go.Lib.hid (row_spot f (k * 2) (l[k]'hlt) (HF.out k hlt))
      rw [hno, Bool.false_or, hasL_one] at hst
      have hgr := hasL_grow (l := l) (u := u) (v := v) (k := k + 1)
      generalize l[k]'hlt = p at *
      go_wp2
      refine wp_region_still_lit (by kernel_rfl) (by kernel_rfl) ?_
      simp only [World.drew_eq]
      repeat (first
        | (refine wpStill_loadmid rfl 40 (.tmp 3) rfl (w.heap.size) 0 rfl 2 2 (spAt u v) 40 _ Tryd.underlying40 rfl size_spot R.out (by omega) ?_; rw [sp_row]; simp only [Act.put, List.setIfInBounds_toArray, List.set_cons_succ, List.set_cons_zero])
        | (refine wpStill_loadmid rfl 40 (.tmp 14) rfl g (k * 2) rfl (cap * 2) 2 f 40 _ Tryd.underlying40 rfl size_spot O.out (by omega) ?_; rw [HR.out]; simp only [Act.put, List.setIfInBounds_toArray, List.set_cons_succ, List.set_cons_zero])
        | still_step
        | (refine wpStill_step (fun K hK => ?_); go_simp; simp only [hkI, hk0, if_true]; go_simp; refine hK _ ?_; clear hK K))
      refine wpStill_nil ?_
      rw [show (((p.1.1 : Int) == u) && ((p.1.2 : Int) == v)) = ((u == (p.1.1 : Int)) && (v == (p.1.2 : Int))) by rw [BEq.comm (a := u), BEq.comm (a := v)]] at hst
      cases hcb : ((u == (p.1.1 : Int)) && (v == (p.1.2 : Int)))
      · rw [hcb] at hst
        go_wp2
        go_roundw
        case rel => exact ⟨k + 1, by omega, by go_num, hst, R.out, O.out, hB.out.drew⟩
        case measure => simp [intOf]; omega
      · rw [hcb] at hst
        go_wp2
        go_ret
        exact ⟨⟨k, rfl, by rw [hgr hst]; simp⟩, hB.out.drew⟩
    · obtain rfl : k = l.length := by omega
      have hkd : decide ((l.length : Int) < (l.length : Int)) = false := by simp
      rw [List.take_length] at hno
      go_wp2
      go_ret
      exact ⟨⟨_, rfl, by rw [hno]; rfl⟩, hB.out⟩
theorem index_none (sv : Value) (b cap : Nat) (hsv : sv = .slice none 0 0 ∨ sv = .slice (some ⟨b, 0, none⟩) 0 cap) (u v : Int) (w : World) :
    Calls Tryd.prog 125 #[sv, .agg (vrow 2 (spAt u v))] w fun e w' => e = .returned (.int .i64 (-1)) ∧ Below w.heap.size w w' := by
  have hB : Hid (Below w.heap.size w (w.alloc (.cells (vrow 2 (spAt u v)) 40))) := ((Below.refl w.heap.size w).alloc (by simp <;> omega) _)
  rcases hsv with rfl | rfl
  · go_enter Tryd.func125, Tryd.ntmps125
    go_wp2
    go_loopw [8] (fun iv wr => iv = .int .i64 0 ∧ Below w.heap.size w wr) (fun iv _ => 0)
    case atStart => exact ⟨rfl, hB.out⟩
    case round =>
      obtain ⟨rfl, hB1⟩ := hrel
      go_wp2
      go_ret
      exact ⟨rfl, hB1⟩
  · go_enter Tryd.func125, Tryd.ntmps125
    go_wp2
    go_loopw [8] (fun iv wr => iv = .int .i64 0 ∧ Below w.heap.size w wr) (fun iv _ => 0)
    case atStart => exact ⟨rfl, hB.out⟩
    case round =>
      obtain ⟨rfl, hB1⟩ := hrel
      go_wp2
      go_ret
      exact ⟨rfl, hB1⟩
theorem Owns.nil_cases {w : World} {base : Nat} {v : Value} {l : List Sp8} (h : Owns w base v l) (hl : l.length = 0) : ∃ b cap, v = .slice none 0 0 ∨ v = .slice (some ⟨b, 0, none⟩) 0 cap := by
  rcases h.own.2 with ⟨hv, _⟩ | ⟨g, cap, cur, hv, _⟩
  · exact ⟨0, 0, .inl hv⟩
  · exact ⟨g, cap, .inr (by rw [hv, hl])⟩
set_option maxHeartbeats 1000000 in
theorem contains_any (l : List Sp8) (base : Nat) (sv : Value) (u v : Int) (w : World) (hn : l.length ≤ 1000) (hO : Owns w base sv l) :
    Calls Tryd.prog 113 #[sv, .agg (vrow 2 (spAt u v))] w fun e w' => e = .returned (.bool (hasL l u v)) ∧ Below w.heap.size w w' := by
  have hB : Hid (Below w.heap.size w (w.alloc (.cells (vrow 2 (spAt u v)) 40))) := ((Below.refl w.heap.size w).alloc (by simp <;> omega) _)
  have R : Hid ((w.alloc (.cells (vrow 2 (spAt u v)) 40)).heap[(w.heap.size)]? = some (.cells (vrow 2 (spAt u v)) 40)) := heap_at _ _ _ (by simp)
  by_cases hl : l.length = 0
  · obtain ⟨b, cap, hsv⟩ := hO.nil_cases hl
    obtain rfl := List.eq_nil_of_length_eq_zero hl
    have HI := Go.Lib.hid fun w => index_none sv b cap hsv u v w
    clear hO hsv hl
    go_enter Tryd.func113, Tryd.ntmps113
    go_wp2_with (first
      | (refine wpList_loadall rfl 40 (.tmp 3) rfl (w.heap.size) rfl 2 (spAt u v) 40 _ Tryd.underlying40 rfl size_spot R.out ?_)
      | (go_at_call 125; (refine (HI.out _).mono ?_; rintro e w1 ⟨rfl, hb⟩; replace hB := Go.Lib.hid (below_next hB.out hb); clear hb)))
    go_ret
    exact ⟨rfl, hB.out⟩
  · obtain ⟨g, cap, f, rfl, hg, hcap, hO2, hf2⟩ := hO.row (by omega)
    have O := Go.Lib.hid (heap_past _ (.cells (vrow 2 (spAt u v)) 40) _ _ (row_lt hO2) hO2)
    have HI := Go.Lib.hid fun w hO => index_any l g cap f u v w hn hcap hO hf2
    clear hO hf2 hO2
    go_enter Tryd.func113, Tryd.ntmps113
    go_wp2_with (first
      | (refine wpList_loadall rfl 40 (.tmp 3) rfl (w.heap.size) rfl 2 (spAt u v) 40 _ Tryd.underlying40 rfl size_spot R.out ?_)
      | (go_at_call 125; (refine (HI.out _ O.out).mono ?_; rintro e w1 ⟨⟨r, rfl, hr⟩, hb⟩; replace hB := Go.Lib.hid (below_next hB.out hb); clear hb)))
    go_ret
    exact ⟨by rw [← hr]; first | rfl | simp, hB.out⟩
end Go.Proofs.YtgbhchmpeioaiaaDoor
