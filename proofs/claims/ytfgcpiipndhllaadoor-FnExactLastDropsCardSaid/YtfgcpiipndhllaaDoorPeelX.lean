import Derived.Deep.RegionHeld3
import Derived.Test.YtfgcpiipndhllaaDoorPG
import Derived.Test.YtfgcpiipndhllaaDoorSame
namespace Go.Proofs.YtfgcpiipndhllaaDoor
open Go.RowKit
set_option maxRecDepth 100000
set_option linter.unusedVariables false
set_option linter.unusedSimpArgs false
/-- a drop is in a list -/
def hasD (L : List (Sp8 × Int)) (x y n : Int) : Bool := L.any fun t => ((x == (t.1.1.1 : Int)) && (y == (t.1.1.2 : Int))) && (n == t.2)
theorem hasD_app (l m : List (Sp8 × Int)) (x y n : Int) : hasD (l ++ m) x y n = (hasD l x y n || hasD m x y n) := by simp [hasD]
theorem hasD_one (t : Sp8 × Int) (x y n : Int) : hasD [t] x y n = (((x == (t.1.1.1 : Int)) && (y == (t.1.1.2 : Int))) && (n == t.2)) := by simp [hasD]
theorem hasD_take {l : List (Sp8 × Int)} {x y n : Int} {k : Nat} (h : k < l.length) : hasD (l.take (k + 1)) x y n = (hasD (l.take k) x y n || hasD [l[k]] x y n) := by
  rw [List.take_succ_eq_append_getElem h, hasD_app]
theorem hasD_grow {l : List (Sp8 × Int)} {x y n : Int} {k : Nat} (h : hasD (l.take k) x y n = true) : hasD l x y n = true := by
  rw [← List.take_append_drop k l, hasD_app, h]; rfl
theorem und_spE : Tryd.prog.underlying 33 = some (.struct (Tryd.prog.fieldsOf 33)) := by kernel_rfl
theorem stood_spE : Tryd.prog.stoodInHeld 33 = false := by kernel_rfl
theorem fields_spE : (Tryd.prog.fieldsOf 33).toList.map (fun f => (f.name, f.type, f.offset)) = [("X", 22, 0), ("Y", 22, 1)] := by kernel_rfl
theorem cell_spE : Tryd.prog.cellsOf 33 = 2 := by kernel_rfl
theorem und_drE : Tryd.prog.underlying 66 = some (.struct (Tryd.prog.fieldsOf 66)) := by kernel_rfl
theorem stood_drE : Tryd.prog.stoodInHeld 66 = false := by kernel_rfl
theorem fields_drE : (Tryd.prog.fieldsOf 66).toList.map (fun f => (f.name, f.type, f.offset)) = [("At", 33, 0), ("Ink", 5, 2)] := by kernel_rfl
theorem eq_sp9 (a b a' b' : Int) (w : World) : (Op.equalIn 9999 33 (.agg #[.int .i8 a, .int .i8 b]) (.agg #[.int .i8 a', .int .i8 b'])).run Tryd.prog w = .ok ((a == a') && (b == b')) w := by
  rw [run_equalIn_struct w 9998 _ _ _ und_spE stood_spE]
  have hl := fields_spE
  have ha : ∀ w, (isAgg 22).run Tryd.prog w = .ok false w := fun w => run_isAgg_row w _ _ Tryd.underlying22
  generalize (Tryd.prog.fieldsOf 33).toList = fs at hl ⊢
  rcases fs with _ | ⟨f1, _ | ⟨f2, _ | ⟨f3, fs⟩⟩⟩ <;> simp only [List.map_cons, List.map_nil, List.cons.injEq, Prod.mk.injEq, List.nil_eq, reduceCtorEq, and_false, and_true, false_and] at hl
  obtain ⟨⟨e1, e2, e3⟩, e4, e5, e6⟩ := hl
  simp only [Op.eqFields, e1, e2, e3, e4, e5, e6, part, Sem.run_bind, ha, Result.andThen_ok, Bool.false_eq_true, if_false]
  simp [run_equalIn_int w 9997 22 .i8 .i8 _ _ Tryd.underlying22]
  cases h1 : (a == a') <;> cases h2 : (b == b') <;> simp_all [run_equalIn_int w 9997 22 .i8 .i8 _ _ Tryd.underlying22]
theorem eq_dr (a b c a' b' c' : Int) (w : World) : (Op.equalIn 10000 66 (.agg (vrow 3 (drAt a b c))) (.agg (vrow 3 (drAt a' b' c')))).run Tryd.prog w = .ok (((a == a') && (b == b')) && (c == c')) w := by
  rw [run_equalIn_struct w 9999 _ _ _ und_drE stood_drE]
  have hl := fields_drE
  have p0 := fun a b c w => part_many rw_spot size_spot cell_spE (n := 3) (f := drAt a b c) (off := 0) (by omega) w
  have p1 := fun a b c w => part_one rw_u8 (n := 3) (f := drAt a b c) (off := 2) (by omega) w
  have e0 : ∀ a b c : Int, (vrow 2 fun i => drAt a b c (0 + i)) = #[.int .i8 a, .int .i8 b] := fun _ _ _ => rfl
  have e1 : ∀ a b c : Int, drAt a b c 2 = .int .u8 c := fun _ _ _ => rfl
  simp only [e0, e1] at p0 p1
  clear e0 e1
  generalize (Tryd.prog.fieldsOf 66).toList = fs at hl ⊢
  rcases fs with _ | ⟨f1, _ | ⟨f2, _ | ⟨f3, fs⟩⟩⟩ <;> simp only [List.map_cons, List.map_nil, List.cons.injEq, Prod.mk.injEq, List.nil_eq, reduceCtorEq, and_false, and_true, false_and] at hl
  obtain ⟨⟨e1, e2, e3⟩, e4, e5, e6⟩ := hl
  have h9 : (Op.equalIn 9999 f1.type (.agg #[.int .i8 a, .int .i8 b]) (.agg #[.int .i8 a', .int .i8 b'])).run Tryd.prog w = .ok ((a == a') && (b == b')) w := by rw [e2]; exact eq_sp9 a b a' b' w
  have q0 : ∀ a b c w, (part f1.type (vrow 3 (drAt a b c)) 0).run Tryd.prog w = .ok (.agg #[.int .i8 a, .int .i8 b]) w := by rw [e2]; exact p0
  clear e2 p0
  simp only [Op.eqFields, e1, e3, e4, e5, e6, Sem.run_bind, q0, p1, Result.andThen_ok, h9]
  cases h1 : ((a == a') && (b == b')) <;> cases h2 : (c == c') <;> simp_all [run_equalIn_int w 9998 5 .u8 .u8 _ _ Tryd.underlying5]
theorem dvals_get (l : List (Sp8 × Int)) (i : Nat) (hi : i < l.length) : (dvals l)[i * 3]? = some (.int .i8 (l[i]'hi).1.1.1) ∧ (dvals l)[i * 3 + 1]? = some (.int .i8 (l[i]'hi).1.1.2) ∧ (dvals l)[i * 3 + 2]? = some (.int .u8 (l[i]'hi).2) := by
  induction l generalizing i with
  | nil => simp at hi
  | cons p l ih =>
    have e : dvals (p :: l) = [.int .i8 p.1.1.1, .int .i8 p.1.1.2, .int .u8 p.2] ++ dvals l := by simp [dvals]
    rw [e]
    rcases i with _ | i
    · simp
    · have := ih i (by simpa using hi)
      rw [List.getElem?_append_right (by simp; omega), List.getElem?_append_right (by simp; omega), List.getElem?_append_right (by simp; omega)]
      simp only [List.length_cons, List.length_nil, List.getElem_cons_succ]
      rw [show (i + 1) * 3 - (0 + 1 + 1 + 1) = i * 3 by omega, show (i + 1) * 3 + 1 - (0 + 1 + 1 + 1) = i * 3 + 1 by omega, show (i + 1) * 3 + 2 - (0 + 1 + 1 + 1) = i * 3 + 2 by omega]
      exact this
theorem row_dr3 (f : Nat → Value) (o : Nat) (u v m : Int) (h0 : f o = .int .i8 u) (h1 : f (o + 1) = .int .i8 v) (h2 : f (o + 2) = .int .u8 m) : vrow 3 (fun i => f (o + i)) = vrow 3 (drAt u v m) := vrow_ext 3 (fun i => f (o + i)) (drAt u v m) fun i hi => by
  have : i = 0 ∨ i = 1 ∨ i = 2 := by omega
  rcases this with rfl | rfl | rfl
  · exact h0
  · exact h1
  · exact h2
set_option maxHeartbeats 2000000 in
theorem idxD_any (L : List (Sp8 × Int)) (v : Value) (B : Nat) (x y n : Int) (w : World) (hn : L.length ≤ 64) (hO : w.ownsRow B 66 3 v L.length (dvals L)) :
    Calls Tryd.prog 142 #[v, .agg (vrow 3 (drAt x y n))] w fun e w' => (∃ r : Int, e = .returned (.int .i64 r) ∧ decide (0 ≤ r) = hasD L x y n) ∧ Below w.heap.size w w' := by
  have heq := eq_dr
  have hB : Hid (Below w.heap.size w (w.alloc (.cells (vrow 3 (drAt x y n)) 66))) := ((Below.refl w.heap.size w).alloc (by simp <;> omega) _)
  obtain ⟨ao, cc, hvv, hao⟩ := own_len hO
  subst hvv
  have R : Hid ((w.alloc (.cells (vrow 3 (drAt x y n)) 66)).heap[(w.heap.size)]? = some (.cells (vrow 3 (drAt x y n)) 66)) := heap_at _ _ _ (by simp)
  have hO1 : ∀ (g : Nat) X, w.heap[g]? = some X → (w.alloc (.cells (vrow 3 (drAt x y n)) 66)).heap[g]? = some X := fun g X h => heap_past _ _ _ _ (row_lt h) h
  go_enter Tryd.func142, Tryd.ntmps142
  go_wp2
  generalize w.alloc _ = W0 at R hO1 hB ⊢
  go_loopw [8] (fun iv wr => ∃ k : Nat, k ≤ L.length ∧ iv = .int .i64 k ∧ hasD (L.take k) x y n = false ∧ wr.heap[w.heap.size]? = some (.cells (vrow 3 (drAt x y n)) 66) ∧ (∀ (g : Nat) X, w.heap[g]? = some X → wr.heap[g]? = some X) ∧ Below w.heap.size w wr) (fun iv _ => L.length - (intOf iv).toNat)
  case atStart => exact ⟨0, by omega, rfl, rfl, R.out, hO1, hB.out⟩
  case round =>
    clear R hO1 hB
    obtain ⟨k, hk, rfl, hno, R, hKp, hB⟩ := hrel
    by_cases hlt : k < L.length
    · rcases hao with h0 | ⟨g, rfl⟩
      · omega
      obtain ⟨f, hrow, hcap, hf⟩ := own_row_ofB hO
      have O := Go.Lib.hid (hKp g _ hrow)
      replace R := Go.Lib.hid R; replace hB := Go.Lib.hid hB
      have hKP := Go.Lib.hid hKp
      obtain ⟨d0, d1, d2⟩ := dvals_get L k hlt
      have HR := Go.Lib.hid (row_dr3 f (k * 3) _ _ _ (hf _ _ (by omega) d0) (hf _ _ (by omega) d1) (hf _ _ (by omega) d2))
      have hkI : (k : Int) < (L.length : Int) := by omega
      have hk0 : (0 : Int) ≤ (k : Int) := by omega
      have hkd : decide ((k : Int) < (L.length : Int)) = true := by simpa using hkI
      have hst := hasD_take (x := x) (y := y) (n := n) hlt
      rw [hno, Bool.false_or, hasD_one] at hst
      have hgr := hasD_grow (l := L) (x := x) (y := y) (n := n) (k := k + 1)
      clear hf d0 d1 d2 hrow hKp
      generalize L[k]'hlt = q at *
      go_wp2
      refine wp_region_still_lit (by kernel_rfl) (by kernel_rfl) ?_
      simp only [World.drew_eq]
      repeat (first
        | (refine wpStill_loadmid rfl 66 (.tmp 3) rfl (w.heap.size) 0 rfl 3 3 (drAt x y n) 66 _ Tryd.underlying66 rfl size_dr R.out (by omega) ?_; rw [dr_row0]; simp only [Act.put, List.setIfInBounds_toArray, List.set_cons_succ, List.set_cons_zero])
        | (refine wpStill_loadmid rfl 66 (.tmp 14) rfl g (k * 3) rfl (cc * 3) 3 f 66 _ Tryd.underlying66 rfl size_dr O.out (by omega) ?_; rw [HR.out]; simp only [Act.put, List.setIfInBounds_toArray, List.set_cons_succ, List.set_cons_zero])
        | still_step
        | (refine wpStill_step (fun K hK => ?_); go_simp; simp only [hkI, hk0, if_true]; go_simp; refine hK _ ?_; clear hK K))
      refine wpStill_nil ?_
      cases hcb : (((x == (q.1.1.1 : Int)) && (y == (q.1.1.2 : Int))) && (n == q.2))
      · rw [hcb] at hst
        go_wp2
        go_roundw
        case rel => exact ⟨k + 1, by omega, by go_num, hst, R.out, hKP.out, hB.out.drew⟩
        case measure => simp [intOf]; omega
      · rw [hcb] at hst
        go_wp2
        go_ret
        exact ⟨⟨k, rfl, by rw [hgr hst]; simp⟩, hB.out.drew⟩
    · obtain rfl : k = L.length := by omega
      have hkd : decide ((L.length : Int) < (L.length : Int)) = false := by simp
      rw [List.take_length] at hno
      replace hB := Go.Lib.hid hB
      go_wp2
      go_ret
      exact ⟨⟨_, rfl, by rw [hno]; rfl⟩, hB.out⟩
set_option maxHeartbeats 1000000 in
theorem cntD_any (L : List (Sp8 × Int)) (v : Value) (B : Nat) (x y n : Int) (w : World) (hn : L.length ≤ 64) (hO : w.ownsRow B 66 3 v L.length (dvals L)) :
    Calls Tryd.prog 95 #[v, .agg (vrow 3 (drAt x y n))] w fun e w' => e = .returned (.bool (hasD L x y n)) ∧ Below w.heap.size w w' := by
  have hB : Hid (Below w.heap.size w (w.alloc (.cells (vrow 3 (drAt x y n)) 66))) := ((Below.refl w.heap.size w).alloc (by simp <;> omega) _)
  have R : Hid ((w.alloc (.cells (vrow 3 (drAt x y n)) 66)).heap[(w.heap.size)]? = some (.cells (vrow 3 (drAt x y n)) 66)) := heap_at _ _ _ (by simp)
  have HI := Go.Lib.hid (idxD_any L v B x y n (w.alloc (.cells (vrow 3 (drAt x y n)) 66)) hn (hO.alloc _))
  clear hO
  go_enter Tryd.func95, Tryd.ntmps95
  go_wp2_with (first
    | go_skip
    | ((with_reducible refine wlAt 6 rfl ?_); refine wpList_ldm 66 (.tmp 3) rfl (by first | exact want_n rfl | exact want_g _ _ _ rfl rfl rfl) (w.heap.size) _ rfl 3 3 (drAt x y n) _ rw_dr size_dr R.out (by omega) ?_; rw [dr_row0])
    | (go_at_call 142; (refine (HI.out).mono ?_; rintro e w1 ⟨⟨r, rfl, hr⟩, hb⟩; replace hB := Go.Lib.hid (below_next hB.out hb); clear hb)))
  go_ret
  exact ⟨by rw [← hr]; first | rfl | simp, hB.out⟩
end Go.Proofs.YtfgcpiipndhllaaDoor
