import Derived.Test.YtlbafaedmagmfaaDoorDyC
import Derived.Test.YtlbafaedmagmfaaDoorSpots
import Derived.Test.YtlbafaedmagmfaaDoorDark
namespace Go.Proofs.YtlbafaedmagmfaaDoor
open Go.RowKit
set_option maxRecDepth 100000
set_option linter.unusedVariables false
set_option linter.unusedSimpArgs false
set_option maxRecDepth 100000 in
set_option maxHeartbeats 8000000 in
theorem ldyed_any (s : Sh) (b a c : Nat) (least : Int) (w : World) (hs : w.heap[b]? = some (.cells s.row 35)) (hf : s.fit) (ea : s.wide = a) (ec : s.high = c) (ha : 1 ≤ a ∧ a ≤ 8) (hc : 1 ≤ c ∧ c ≤ 8) : Calls Tryd.prog 56 #[.pointer (some ⟨b, 0, none⟩), .int .i64 least] w fun e w' => ∃ v, e = .returned v ∧ w'.ownsRow w.heap.size 48 2 v (dyl s least a c).length (vals (dyl s least a c)) ∧ Below w.heap.size w w' := by
  obtain ⟨i0, hi, hz0, hz1, hz2⟩ := info_parts info_spot
  have hLn : (cellsL a c).length = a * c := cellsL_length a c
  have hac : 1 ≤ (cellsL a c).length ∧ (cellsL a c).length ≤ 64 := by rw [hLn]; exact ⟨Nat.mul_le_mul ha.1 hc.1, Nat.mul_le_mul ha.2 hc.2⟩
  have HSp := Go.Lib.hid fun w hs => spots_any s b a c w hs ea ec ha.2 hc.2
  have HD := Go.Lib.hid fun x y w h hx hy => ldark_any s b x y w h hx hy hf
  unfold dyl
  generalize (cellsL a c) = L at *
  have hbl := row_lt hs
  have P := Go.Lib.hid hs
  have hB := Go.Lib.hid (Below.refl w.heap.size w)
  clear hLn hs ea ec
  go_enter Tryd.func56, Tryd.ntmps56
  go_wp2_with (first
    | go_skip
    | (go_at_call 68; (refine (HSp.out _ P.out).mono ?_; rintro e w2 ⟨v, rfl, hO, hb⟩; replace P := Go.Lib.hid (row_next hb P.out); replace hB := Go.Lib.hid (below_next hB.out hb); obtain ⟨g, cap, f, rfl, hg, hcap, hO2, hf2⟩ := hO.row (by omega); have O := Go.Lib.hid hO2; have HF := Go.Lib.hid hf2; clear hO hO2 hf2 hb)))
  have hgl := row_lt O.out
  have hbl2 := row_lt P.out
  have hws := hB.out.size
  have O0 : (w2.alloc (.cells #[] 48)).ownsRow w2.heap.size 48 2 (.slice (some ⟨w2.heap.size, 0, none⟩) 0 0) 0 [] := World.ownsRow_made w2 #[] 0 (Nat.le_refl _) (by decide) rfl
  have P0 : (w2.alloc (.cells #[] 48)).heap[b]? = some (.cells s.row 35) := heap_past _ _ _ _ hbl2 P.out
  have G0 : (w2.alloc (.cells #[] 48)).heap[g]? = some (.cells (vrow (cap * 2) f) 48) := heap_past _ _ _ _ hgl O.out
  have B0 : Below w.heap.size w (w2.alloc (.cells #[] 48)) := hB.out.alloc hB.out.size _
  have hN0 : w2.heap.size ≤ (w2.alloc (.cells #[] 48)).heap.size := by simp
  generalize w2.alloc _ = W0 at P0 O0 G0 B0 hN0 ⊢
  generalize w2.heap.size = N at O0 hgl hbl2 hws hN0 ⊢
  clear P O hB
  go_loopw [6, 7] (fun v iv wr => ∃ k : Nat, k ≤ L.length ∧ iv = .int .i64 k ∧ wr.ownsRow N 48 2 v (fl (fun x y => decide (least ≤ darkB s x y)) (L.take k)).length (vals (fl (fun x y => decide (least ≤ darkB s x y)) (L.take k))) ∧ wr.heap[b]? = some (.cells s.row 35) ∧ wr.heap[g]? = some (.cells (vrow (cap * 2) f) 48) ∧ N ≤ wr.heap.size ∧ Below w.heap.size w wr) (fun _ iv _ => L.length - (intOf iv).toNat)
  case atStart => exact ⟨0, by omega, rfl, by simpa [fl, vals] using O0, P0, G0, hN0, B0⟩
  case round =>
    clear O0 P0 G0 B0 hN0
    obtain ⟨k, hk, rfl, O, P, G, hN, hB⟩ := hrel
    have hsz := hB.size
    by_cases hlt : k < L.length
    · have hf2 := HF.out k hlt
      obtain ⟨⟨⟨i, j⟩, hi8, hj8⟩, hp⟩ : ∃ p, L[k]'hlt = p := ⟨_, rfl⟩
      have hap : fl (fun x y => decide (least ≤ darkB s x y)) (L.take (k + 1)) = fl (fun x y => decide (least ≤ darkB s x y)) (L.take k) ++ (if decide (least ≤ darkB s i j) then [⟨(i, j), hi8, hj8⟩] else []) := by
        rw [List.take_succ_eq_append_getElem hlt, hp, fl_app]
      have hle : (fl (fun x y => decide (least ≤ darkB s x y)) (L.take k)).length ≤ 64 := Nat.le_trans (fl_len _ _) (by rw [List.length_take]; omega)
      rw [hp] at hf2
      clear hp
      replace hi8 : i < 8 := hi8
      replace hj8 : j < 8 := hj8
      obtain ⟨fx0, fx1⟩ : f (k * 2) = .int .i8 i ∧ f (k * 2 + 1) = .int .i8 j := hf2
      have hR : vrow 2 (fun q => f (k * 2 + q)) = vrow 2 (spAt i j) := vrow_ext _ _ _ fun q hq => by
        have hq2 : q = 0 ∨ q = 1 := by omega
        rcases hq2 with rfl | rfl
        · rw [Nat.add_zero, fx0]; rfl
        · rw [fx1]; rfl
      have HR := Go.Lib.hid hR; have HAP := Go.Lib.hid hap
      have HDK := Go.Lib.hid fun w h => HD.out i j w h hi8 hj8
      clear hR fx0 fx1 hap
      generalize fl (fun x y => decide (least ≤ darkB s x y)) (L.take k) = M at *
      replace P := Go.Lib.hid P; replace G := Go.Lib.hid G; replace O := Go.Lib.hid O; replace hB := Go.Lib.hid hB
      have hkI : (k : Int) < (L.length : Int) := by omega
      have hk0 : (0 : Int) ≤ (k : Int) := by omega
      have hkd : decide ((k : Int) < (L.length : Int)) = true := by simpa using hkI
      cases hq : decide (least ≤ darkB s i j)
      · have HAP2 := HAP.out
        rw [hq, if_neg (by simp), List.append_nil] at HAP2
        replace HAP2 := Go.Lib.hid HAP2
        go_wp2_with (first
          | go_skip
          | ((with_reducible refine wlAt 21 rfl ?_); refine wpList_loadmid rfl 48 (.tmp 20) rfl g (k * 2) rfl (cap * 2) 2 f 48 _ Tryd.underlying48 rfl size_spot G.out (by omega) ?_; rw [HR.out])
          | (go_at_call 116; (refine (HDK.out _ P.out).mono ?_); rintro o w3 ⟨rfl, hb⟩; replace P := Go.Lib.hid (row_next hb P.out); replace G := Go.Lib.hid (row_next hb G.out); replace O := Go.Lib.hid (O.out.kept (grown_next (grown_refl _ none) hb) (by cases hv : Value.ownBlock _ <;> simp)); replace hB := Go.Lib.hid (below_next hB.out hb); have hN := Nat.le_trans hN hb.size; clear hb))
        go_roundw
        case rel => exact ⟨k + 1, by omega, by go_num, by rw [HAP2.out]; exact O.out, P.out, G.out, hN, hB.out⟩
        case measure => simp [intOf]; omega
      · have HAP2 := HAP.out
        rw [hq, if_pos rfl] at HAP2
        replace HAP2 := Go.Lib.hid HAP2
        go_wp2_with (first
          | go_skip
          | ((with_reducible refine wlAt 21 rfl ?_); refine wpList_loadmid rfl 48 (.tmp 20) rfl g (k * 2) rfl (cap * 2) 2 f 48 _ Tryd.underlying48 rfl size_spot G.out (by omega) ?_; rw [HR.out])
          | ((with_reducible refine wlAt 29 rfl ?_); refine wpList_loadmid rfl 48 (.tmp 28) rfl g (k * 2) rfl (cap * 2) 2 f 48 _ Tryd.underlying48 rfl size_spot G.out (by omega) ?_; rw [HR.out]; rw [show vrow 2 (spAt (i : Int) (j : Int)) = #[.int .i8 i, .int .i8 j] from rfl])
          | (go_at_call 116; (refine (HDK.out _ P.out).mono ?_); rintro o w3 ⟨rfl, hb⟩; replace P := Go.Lib.hid (row_next hb P.out); replace G := Go.Lib.hid (row_next hb G.out); replace O := Go.Lib.hid (O.out.kept (grown_next (grown_refl _ none) hb) (by cases hv : Value.ownBlock _ <;> simp)); replace hB := Go.Lib.hid (below_next hB.out hb); have hN := Nat.le_trans hN hb.size; clear hb)
          | (at_builtin; refine wpList_append_own _ rfl (.tmp 25) (.tmp 30) 32 rfl N 48 i0 (.agg #[.int .i8 0, .int .i8 0]) 2 2 Tryd.underlying32 hi hz0 hz1 hz2 rfl (by decide) _ _ _ rfl (O.out.alloc _) ⟨w3.heap.size, 0, none⟩ 1 1 [.int .i8 i, .int .i8 j] rfl rfl (World.news_of_block (heap_at _ _ _ rfl)) (by simp [Value.oneCell']) (by simp only [maxLen]; omega) (by omega) (by simp; omega) ?_; intro v' w1 hown' hgrow _))
        have hov := O.out.lt
        have P1 : w1.heap[b]? = some (.cells s.row 35) := (hgrow.block b (by have := row_lt P.out; simp; omega) (fun e => by have := (hov b e.symm).1; omega)).trans (heap_past _ _ _ _ (row_lt P.out) P.out)
        have G1 : w1.heap[g]? = some (.cells (vrow (cap * 2) f) 48) := (hgrow.block g (by have := row_lt G.out; simp; omega) (fun e => by have := (hov g e.symm).1; omega)).trans (heap_past _ _ _ _ (row_lt G.out) G.out)
        have hN1 : N ≤ w1.heap.size := Nat.le_trans (by simp; omega) hgrow.size
        have B1 : Below w.heap.size w w1 := (hB.out.alloc hB.out.size _).grown hgrow (by have := hB.out.size; simp; omega) (fun q hq => by have := (hov q hq).1; omega)
        go_roundw
        case rel => exact ⟨k + 1, by omega, by go_num, by rw [HAP2.out, List.length_append, vals_app, vals_one]; exact hown', P1, G1, hN1, B1⟩
        case measure => simp [intOf]; omega
    · obtain rfl : k = L.length := by omega
      rw [List.take_length] at O
      have hkd : decide ((L.length : Int) < (L.length : Int)) = false := by simp
      replace O := Go.Lib.hid O; replace hB := Go.Lib.hid hB
      go_wp2
      go_ret
      exact ⟨_, rfl, own_mono hws O.out, hB.out⟩
theorem lleast_any (n : Int) (w : World) : Calls Tryd.prog 55 #[.int .i64 n] w fun e w' => e = .returned (.bool (decide (1 ≤ n) && decide (n ≤ 3000))) ∧ Below w.heap.size w w' := by
  have HI : Hid (∀ w, Calls Tryd.prog 82 #[.int .i64 n, .int .i64 1, .int .i64 3000] w fun e w' => e = .returned (.bool (decide (1 ≤ n) && decide (n ≤ 3000))) ∧ Below w.heap.size w w') := Go.Lib.hid fun w => by
    by_cases h : 1 ≤ n ∧ n ≤ 3000
    · rw [show (decide (1 ≤ n) && decide (n ≤ 3000)) = true by simp; omega]; exact in_yes _ _ _ h.1 h.2 w
    · rw [show (decide (1 ≤ n) && decide (n ≤ 3000)) = false by simp; omega]; exact in_no _ _ _ (by omega) w
  have hB := Go.Lib.hid (Below.refl w.heap.size w)
  go_enter Tryd.func55, Tryd.ntmps55
  go_wp2_with (first
    | go_skip
    | (go_at_call 82; (refine (HI.out _).mono ?_); rintro o w1 ⟨rfl, hb⟩; replace hB := Go.Lib.hid (below_next hB.out hb); clear hb))
  go_ret
  exact ⟨rfl, hB.out⟩
set_option maxHeartbeats 2000000 in
theorem specDC_bad (s : Sh) (least : Int) (px py : Nat → Int) (w : World) (hf : s.fit) (hv : okB s = false) : Calls Tryd.prog 15 #[.agg s.row, .int .i64 least] w fun e w' => ∃ v, e = .returned (.tuple #[v, .int .i64 1]) ∧ SlP w' v 0 px py w'.heap.size ∧ Below w.heap.size w w' := by
  have HA := Go.Lib.hid fun W h => ok_any s w.heap.size W h hf
  rw [hv] at HA
  have HL := Go.Lib.hid fun W => lleast_any least W
  have hB : Hid (Below w.heap.size w (w.alloc (.cells (vrow 266 s.at) 35))) := Go.Lib.hid ((Below.refl w.heap.size w).alloc (by simp <;> omega) _)
  have P : Hid ((w.alloc (.cells (vrow 266 s.at) 35)).heap[w.heap.size]? = some (.cells (vrow 266 s.at) 35)) := heap_at _ _ _ (by simp)
  go_enter Tryd.func15, Tryd.ntmps15
  go_wp2_with (first
    | go_skip
    | (go_at_call 54; (refine (HA.out _ P.out).mono ?_); rintro o w1 ⟨rfl, hb⟩; replace hB := Go.Lib.hid (below_next hB.out hb); clear hb)
    | (go_at_call 55; (refine (HL.out _).mono ?_); rintro o w2 ⟨rfl, hb⟩; replace hB := Go.Lib.hid (below_next hB.out hb); clear hb))
  go_ret2
  exact ⟨_, rfl, ⟨_, _, rfl, fun h => absurd h (by omega)⟩, hB.out.alloc hB.out.size _⟩
set_option maxHeartbeats 2000000 in
theorem specDC_rng (s : Sh) (least : Int) (px py : Nat → Int) (w : World) (hf : s.fit) (hv : okB s = true) (hl : (decide (1 ≤ least) && decide (least ≤ 3000)) = false) : Calls Tryd.prog 15 #[.agg s.row, .int .i64 least] w fun e w' => ∃ v, e = .returned (.tuple #[v, .int .i64 2]) ∧ SlP w' v 0 px py w'.heap.size ∧ Below w.heap.size w w' := by
  have HA := Go.Lib.hid fun W h => ok_any s w.heap.size W h hf
  rw [hv] at HA
  have HL := Go.Lib.hid fun W => lleast_any least W
  rw [hl] at HL
  have hB : Hid (Below w.heap.size w (w.alloc (.cells (vrow 266 s.at) 35))) := Go.Lib.hid ((Below.refl w.heap.size w).alloc (by simp <;> omega) _)
  have P : Hid ((w.alloc (.cells (vrow 266 s.at) 35)).heap[w.heap.size]? = some (.cells (vrow 266 s.at) 35)) := heap_at _ _ _ (by simp)
  go_enter Tryd.func15, Tryd.ntmps15
  go_wp2_with (first
    | go_skip
    | (go_at_call 54; (refine (HA.out _ P.out).mono ?_); rintro o w1 ⟨rfl, hb⟩; replace hB := Go.Lib.hid (below_next hB.out hb); clear hb)
    | (go_at_call 55; (refine (HL.out _).mono ?_); rintro o w2 ⟨rfl, hb⟩; replace hB := Go.Lib.hid (below_next hB.out hb); clear hb))
  go_ret2
  exact ⟨_, rfl, ⟨_, _, rfl, fun h => absurd h (by omega)⟩, hB.out.alloc hB.out.size _⟩
set_option maxHeartbeats 2000000 in
theorem specDC_ok (s : Sh) (least : Int) (a c : Nat) (w : World) (hf : s.fit) (hv : okB s = true) (hl : (decide (1 ≤ least) && decide (least ≤ 3000)) = true) (ea : s.wide = a) (ec : s.high = c) (ha : 1 ≤ a ∧ a ≤ 8) (hc : 1 ≤ c ∧ c ≤ 8) : Calls Tryd.prog 15 #[.agg s.row, .int .i64 least] w fun e w' => ∃ v, e = .returned (.tuple #[v, .int .i64 0]) ∧ w'.ownsRow w.heap.size 48 2 v (dyl s least a c).length (vals (dyl s least a c)) ∧ Below w.heap.size w w' := by
  have HA := Go.Lib.hid fun W h => ok_any s w.heap.size W h hf
  rw [hv] at HA
  have HL := Go.Lib.hid fun W => lleast_any least W
  rw [hl] at HL
  have HD := Go.Lib.hid fun W h => ldyed_any s w.heap.size a c least W h hf ea ec ha hc
  clear ea ec
  have hB : Hid (Below w.heap.size w (w.alloc (.cells (vrow 266 s.at) 35))) := Go.Lib.hid ((Below.refl w.heap.size w).alloc (by simp <;> omega) _)
  have P : Hid ((w.alloc (.cells (vrow 266 s.at) 35)).heap[w.heap.size]? = some (.cells (vrow 266 s.at) 35)) := heap_at _ _ _ (by simp)
  go_enter Tryd.func15, Tryd.ntmps15
  go_wp2_with (first
    | go_skip
    | (go_at_call 54; (refine (HA.out _ P.out).mono ?_); rintro o w1 ⟨rfl, hb⟩; replace P := Go.Lib.hid (row_next hb P.out); replace hB := Go.Lib.hid (below_next hB.out hb); clear hb)
    | (go_at_call 55; (refine (HL.out _).mono ?_); rintro o w2 ⟨rfl, hb⟩; replace P := Go.Lib.hid (row_next hb P.out); replace hB := Go.Lib.hid (below_next hB.out hb); clear hb)
    | (go_at_call 56; (refine (HD.out _ P.out).mono ?_); rintro o w3 ⟨v, rfl, hO, hb⟩; have hbs := hB.out.size; replace hB := Go.Lib.hid (below_next hB.out hb); clear hb))
  go_ret2
  exact ⟨v, rfl, own_mono hbs hO, hB.out⟩
end Go.Proofs.YtlbafaedmagmfaaDoor
