import Derived.Test.YtgbhchmpeioaiaaDoorBathS
namespace Go.Proofs.YtgbhchmpeioaiaaDoor
open Go.RowKit
set_option maxRecDepth 100000
set_option linter.unusedVariables false
set_option linter.unusedSimpArgs false
theorem grown_tq {A B C : World} {row : Option Nat} (h : A.grownBy B row) (g : B.grownBy C none) : A.grownBy C row :=
  ⟨g.os.trans h.os, g.tape.trans h.tape, g.output.trans h.output, Nat.le_trans h.size g.size, fun k hk hne => (g.block k (Nat.lt_of_lt_of_le hk h.size) (by simp)).trans (h.block k hk hne)⟩
theorem grown_tt {A B C : World} {row : Option Nat} (h : A.grownBy B row) (g : B.grownBy C row) : A.grownBy C row :=
  ⟨g.os.trans h.os, g.tape.trans h.tape, g.output.trans h.output, Nat.le_trans h.size g.size, fun k hk hne => (g.block k (Nat.lt_of_lt_of_le hk h.size) hne).trans (h.block k hk hne)⟩
theorem grown_ta {A B C : World} {row row' : Option Nat} (h : A.grownBy B row) (g : B.grownBy C row') (hr : ∀ r, row' = some r → A.heap.size ≤ r) : A.grownBy C row :=
  ⟨g.os.trans h.os, g.tape.trans h.tape, g.output.trans h.output, Nat.le_trans h.size g.size, fun k hk hne => (g.block k (Nat.lt_of_lt_of_le hk h.size) (fun e => by have := hr k e.symm; omega)).trans (h.block k hk hne)⟩
set_option maxHeartbeats 4000000 in
theorem ibaths_any (s : Sh) (k : Int) (n mt a c : Nat) (w : World) (hm : w.heap[mt]? = some (.cells (vrow 267 (baAt s k)) 89)) (ea : s.wide = a) (ec : s.high = c) (ha : 1 ≤ a ∧ a ≤ 8) (hc : 1 ≤ c ∧ c ≤ 8) (hgd : Gd s s) (h1 : 1 ≤ k) (h2 : k ≤ 15) (hn : n ≤ 100) :
    Calls Tryd.prog 73 #[.int .i64 n, .func (.func 63) #[(.pointer (some ⟨mt, 0, none⟩))] #[]] w fun e w' => ∃ v, e = .returned v ∧ Baths w' w.heap.size v k (cellsL a c) s n ∧ w.grownBy w' (some mt) := by
  obtain ⟨i0, hi, hz0, hz1, hz2⟩ := info_parts info_a3
  have HRUG := Go.Lib.hid fun i => RUG.all hgd h1 h2 (cellsL a c) i
  have HRN := Go.Lib.hid fun (V : RU) (hV : Gd s V.s) w hs => irinse_any V.s k mt a c w hs (hV.wide.trans ea) (hV.high.trans ec) ha hc (Gd.start hV.ok hV.ink hV.fit) h1 h2
  generalize cellsL a c = L at *
  clear hgd
  have hmm := row_lt hm
  have M := Go.Lib.hid hm
  have hG : Hid (w.grownBy w (some mt)) := grown_refl w _
  clear hm
  go_enter Tryd.func73, Tryd.ntmps73
  go_wp2_with (first
    | go_skip
    | ((with_reducible refine wlAt 7 rfl ?_); refine wpList_make_own _ rfl (.const (.int .i64 0)) (.tmp 6) 51 rfl (w.heap.size) 32 i0 (.agg #[.int .i64 0, .int .i64 0, .int .i64 0]) 3 Tryd.underlying51 hi hz0 hz1 .i64 .i64 (n : Int) n rfl rfl rfl (by rw [hz2]; omega) (by simp only [maxLen]; omega) (Nat.le_refl _) ?_; intro w1 hO1 hg1; simp only [Act.put, List.setIfInBounds_toArray, List.set_cons_succ, List.set_cons_zero]; replace M := Go.Lib.hid ((hg1.block _ (row_lt M.out) (by simp)).trans M.out); replace hG := Go.Lib.hid (grown_tq hG.out hg1)))
  obtain ⟨wo, hwo⟩ : ∃ wo : World, wo = w1 := ⟨_, rfl⟩
  rw [← hwo] at M hO1 hG ⊢
  clear hwo hg1 w1
  go_loopw [5, 9] (fun v iv wr => ∃ q : Nat, q ≤ n ∧ iv = .int .i64 q ∧ wr.heap[mt]? = some (.cells (vrow 267 (baAt (rnds k L ⟨s, 0, fun _ => 0⟩ q).s k)) 89) ∧ wr.ownsRow w.heap.size 32 3 v q (btV k L s q) ∧ w.grownBy wr (some mt)) (fun _ iv _ => n - (intOf iv).toNat)
  case atStart => exact ⟨0, by omega, rfl, M.out, hO1, hG.out⟩
  case round =>
    clear M hO1 hG
    obtain ⟨q, hq, rfl, M, O, hG⟩ := hrel
    by_cases hlt : q < n
    · have hqI : (q : Int) < (n : Int) := by omega
      have hqd : decide ((q : Int) < (n : Int)) = true := by simpa using hqI
      have hbv : btV k L s (q + 1) = btV k L s q ++ [.int .i64 (btO k L s q 0), .int .i64 (btO k L s q 1), .int .i64 (btO k L s q 2)] := rfl
      have hbo : btO k L s q = (rinS k ((rnds k L ⟨s, 0, fun _ => 0⟩ q).s, fun _ => 0) L).2 := rfl
      have HRq := Go.Lib.hid fun w' hs => HRN.out (rnds k L ⟨s, 0, fun _ => 0⟩ q) (HRUG.out q).gd w' hs
      have hsh : (rnds k L ⟨s, 0, fun _ => 0⟩ (q + 1)).s = (rinS k ((rnds k L ⟨s, 0, fun _ => 0⟩ q).s, fun _ => 0) L).1 := rfl
      have HSH := Go.Lib.hid hsh
      rw [hbo] at hbv
      have HBV := Go.Lib.hid hbv
      clear hbv hbo hsh
      generalize rinS k ((rnds k L ⟨s, 0, fun _ => 0⟩ q).s, fun _ => 0) L = T at *
      obtain ⟨T, oo⟩ := T
      dsimp only at HRq HBV HSH
      have hsz0 := hG.size
      replace M := Go.Lib.hid M; replace O := Go.Lib.hid O; replace hG := Go.Lib.hid hG
      have hbl := btV_len k L s q
      go_wp2_with (first
        | go_skip
        | (go_at_call 63; (refine (HRq.out _ M.out).mono ?_); rintro e w2 ⟨he, hg, hp⟩; obtain rfl : e = .returned (.agg #[.int .i64 (oo 0), .int .i64 (oo 1), .int .i64 (oo 2)]) := he; replace O := Go.Lib.hid (O.out.kept hg (.inr (by have := O.out.lt; cases hv : Value.ownBlock _ with | none => simp | some z => have := (O.out.lt z hv).1; simp; omega))); have hgs := hg.size; replace hG := Go.Lib.hid (grown_tt hG.out hg); replace M := Go.Lib.hid hp; have hlt1 := row_lt hp; clear hg hp)
        | (at_builtin; refine wpList_append_own _ rfl (.tmp 11) (.tmp 14) 51 rfl (w.heap.size) 32 i0 (.agg #[.int .i64 0, .int .i64 0, .int .i64 0]) 3 24 Tryd.underlying51 hi hz0 hz1 hz2 rfl (by decide) _ _ _ rfl (O.out.alloc _) ⟨w2.heap.size, 0, none⟩ 1 1 [.int .i64 (oo 0), .int .i64 (oo 1), .int .i64 (oo 2)] rfl rfl (World.news_of_block (heap_at _ _ _ rfl)) (by simp [Value.oneCell']) (by simp only [maxLen]; omega) (by omega) (by simp; omega) ?_; intro v' w3 hown' hgrow _))
      have G1 : w.grownBy w3 (some mt) := grown_ta (grown_next hG.out ((Below.refl _ _).alloc (Nat.le_refl _) _)) hgrow (fun r e => (O.out.lt r e).1)
      have P1 : w3.heap[mt]? = some (.cells (vrow 267 (baAt T k)) 89) := (hgrow.block mt (by simp; omega) (fun e => by have := (O.out.lt _ e.symm).1; omega)).trans (heap_past _ _ _ _ (row_lt M.out) M.out)
      go_roundw
      case rel => exact ⟨q + 1, by omega, by go_num, by rw [HSH.out]; exact P1, by rw [HBV.out]; exact hown', G1⟩
      case measure => simp [intOf]; omega
    · obtain rfl : q = n := by omega
      have hqd : decide ((q : Int) < (q : Int)) = false := by simp
      go_wp2
      go_ret
      exact ⟨_, rfl, ⟨O⟩, hG⟩
end Go.Proofs.YtgbhchmpeioaiaaDoor
