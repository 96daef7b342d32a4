import Derived.Deep.RegionHeld3
import Derived.Test.YtfgcpiipndhllaaDoorRinU2
import Derived.Test.YtfgcpiipndhllaaDoorDarkest
namespace Go.Proofs.YtfgcpiipndhllaaDoor
open Go.RowKit
set_option maxRecDepth 100000
set_option linter.unusedVariables false
set_option linter.unusedSimpArgs false
theorem ret_rowT {P : Program} {fn : Func} {R : Ending → World → Prop} {a : Act} {w : World} {p u : Tmp} {ty : TypeId} (hr : fn.results = #[.tmp u, .cell p ty]) (b : Nat) (n : Nat) (f : Nat → Value) (t : TypeId) (d : TypeDesc) (hu : P.underlying ty = some d) (hd : d.isRow = true) (hi : (P.info? ty).map (·.size) = some n) (v : Value)
    (hp : a.tmps.getD p undef = .pointer (some ⟨b, 0, none⟩)) (hv : a.tmps.getD u undef = v) (hdf : a.defers = []) (hg : w.heap[b]? = some (.cells (vrow n f) t)) (h : R (.returned (.tuple #[v, .agg (vrow n f)])) w) : bodyPost P fn R .ret a w := by
  refine bodyPost_ret ?_ hdf h
  have hl := run_loadVar_row (P := P) w b t ty (vrow n f) (0, 0) d hg hu (by cases d <;> first | rfl | exact hd) (by rw [vrow_size]; exact hi)
  have hp1 : a.tmps[p]?.getD undef = .pointer (some ⟨b, 0, none⟩) := by simpa using hp
  have hv1 : a.tmps[u]?.getD undef = v := by simpa using hv
  simp [results, hr, hp1, hv1, asAddr, hl, Result.andThen]
theorem grown_tr {A B C : World} {row : Option Nat} (h : A.grownBy B row) (g : B.grownBy C row) : A.grownBy C row :=
  ⟨g.os.trans h.os, g.tape.trans h.tape, g.output.trans h.output, Nat.le_trans h.size g.size, fun k hk hne => (g.block k (Nat.lt_of_lt_of_le hk h.size) hne).trans (h.block k hk hne)⟩
theorem grown_any {A B C : World} {row : Option Nat} {d : Nat} (h : A.grownBy B row) (g : B.grownBy C (some d)) (hd : A.heap.size ≤ d) : A.grownBy C row :=
  ⟨g.os.trans h.os, g.tape.trans h.tape, g.output.trans h.output, Nat.le_trans h.size g.size, fun k hk hne => (g.block k (Nat.lt_of_lt_of_le hk h.size) (fun e => by cases e; omega)).trans (h.block k hk hne)⟩
theorem darkest_ex (s : Sh) (e : ErrE) (w : World) (hE : Err6 e w) (hf : s.fit) (hv : okI s = true) (a c : Nat) (ea : s.wide = a) (ec : s.high = c) (ha : 1 ≤ a ∧ a ≤ 8) (hc : 1 ≤ c ∧ c ≤ 8) : Calls Tryd.prog 123 #[.agg s.row] w fun o w' => (∃ (x y : Int) (ev : Value), o = .returned (.tuple #[.agg (vrow 2 (spAt x y)), .int .i64 (dk (cellsL a c) s), ev])) ∧ Below w.heap.size w w' :=
  (darkest_any s e w hE hf hv a c ea ec ha hc).mono fun o w' ⟨ho, hb⟩ => by
    refine ⟨?_, hb⟩
    subst ho
    unfold dk
    by_cases h0 : (best (darkB s) (cellsL a c)).2 = 0
    · rw [firstRes_no h0, h0]; exact ⟨0, 0, _, rfl⟩
    · rw [firstRes_yes h0]; exact ⟨_, _, _, rfl⟩
set_option maxHeartbeats 8000000 in
theorem rinseUntil_any (s : Sh) (k b : Int) (j mt a c : Nat) (e : ErrE) (w0 w : World) (hE : Err6 e w0) (hw0 : Below w0.heap.size w0 w) (hmt : w0.heap.size ≤ mt) (hm : w.heap[mt]? = some (.cells (vrow 267 (baAt s k)) 119)) (ea : s.wide = a) (ec : s.high = c) (ha : 1 ≤ a ∧ a ≤ 8) (hc : 1 ≤ c ∧ c ≤ 8) (hgd : Gd s s) (h1 : 1 ≤ k) (h2 : k ≤ 15) (hj : j ≤ 200000) (hj1 : dk (cellsL a c) (rnds k (cellsL a c) ⟨s, 0, fun _ => 0⟩ j).s ≤ b) (hj2 : ∀ i, i < j → b < dk (cellsL a c) (rnds k (cellsL a c) ⟨s, 0, fun _ => 0⟩ i).s) :
    Calls Tryd.prog 70 #[(.pointer (some ⟨mt, 0, none⟩)), .int .i64 b] w fun o w' => o = .returned (.tuple #[.int .i64 (rnds k (cellsL a c) ⟨s, 0, fun _ => 0⟩ j).n, .agg (vrow 3 (a3f (rnds k (cellsL a c) ⟨s, 0, fun _ => 0⟩ j).o))]) ∧ w.grownBy w' (some mt) ∧ w'.heap[mt]? = some (.cells (vrow 267 (baAt (rnds k (cellsL a c) ⟨s, 0, fun _ => 0⟩ j).s k)) 119) := by
  have HE := Go.Lib.hid fun W (hg : w.grownBy W (some mt)) => hE.next (hw0.grown hg hw0.size (fun q hq => by cases hq; exact hmt))
  have HRUG := Go.Lib.hid fun i => RUG.all hgd h1 h2 (cellsL a c) i
  have HRN := Go.Lib.hid fun (V : RU) (hV : Gd s V.s) w hs => irinse_any V.s k mt a c w hs (hV.wide.trans ea) (hV.high.trans ec) ha hc (Gd.start hV.ok hV.ink hV.fit) h1 h2
  have HRB := Go.Lib.hid fun (V : RU) (hV : Gd s V.s) (m : Nat) (hm : m < 3) => (RinG.cells h1 h2 (cellsL a c) (RinG.start (Gd.start hV.ok hV.ink hV.fit) fun _ => 0)).bd hm hV.ink
  have HDK := Go.Lib.hid fun (V : RU) (hV : Gd s V.s) w hE => darkest_ex V.s e w hE hV.fit hV.ok a c (hV.wide.trans ea) (hV.high.trans ec) ha hc
  have HJ := Go.Lib.hid hj2
  have HI := Go.Lib.hid hgd.ink
  have zy := zero_i3
  have zs := zero_spot
  clear hgd hj2 hE hw0
  generalize cellsL a c = L at *
  have hmm := row_lt hm
  have M : Hid (((w.alloc (.cells (vrow 3 (fun _ => .int .i64 0)) 40)).alloc (.cells (vrow 3 (fun _ => .int .i64 0)) 40)).heap[mt]? = some (.cells (vrow 267 (baAt s k)) 119)) := heap_past _ _ _ _ (by simp <;> omega) (heap_past _ _ _ _ hmm hm)
  have Y : Hid (((w.alloc (.cells (vrow 3 (fun _ => .int .i64 0)) 40)).alloc (.cells (vrow 3 (fun _ => .int .i64 0)) 40)).heap[w.heap.size]? = some (.cells (vrow 3 (fun _ => .int .i64 0)) 40)) := heap_past _ _ _ _ (by simp) (heap_at _ _ _ (by simp))
  have D : Hid (((w.alloc (.cells (vrow 3 (fun _ => .int .i64 0)) 40)).alloc (.cells (vrow 3 (fun _ => .int .i64 0)) 40)).heap[w.heap.size + 1]? = some (.cells (vrow 3 (fun _ => .int .i64 0)) 40)) := heap_at _ _ _ (by simp)
  have hG : Hid (w.grownBy ((w.alloc (.cells (vrow 3 (fun _ => .int .i64 0)) 40)).alloc (.cells (vrow 3 (fun _ => .int .i64 0)) 40)) (some mt)) := grown_next (grown_refl w _) (((Below.refl _ _).alloc (Nat.le_refl _) _).alloc (by simp) _)
  clear hm
  go_enter Tryd.func70, Tryd.ntmps70
  go_wp2_with (first
    | go_skip
    | ((with_reducible refine wlAt 11 rfl ?_); refine wpList_built rfl 40 [] rfl [] (by rfl) _ built_zi3 ?_)
    | ((with_reducible refine wlOp (.store 40 (.tmp 7) (.tmp 11)) rfl ?_); refine wpList_storeall rfl 40 (.tmp 7) (.tmp 11) rfl (w.heap.size + 1) rfl 3 (fun _ => .int .i64 0) (fun _ => .int .i64 0) rfl 40 size_i3 D.out (fun i _ => rfl) ?_; replace M := Go.Lib.hid (row_set' (g := w.heap.size + 1) (show mt ≠ w.heap.size + 1 by omega) M.out (vrow 3 (fun _ => .int .i64 0))); replace Y := Go.Lib.hid (row_set' (g := w.heap.size + 1) (show w.heap.size ≠ w.heap.size + 1 by omega) Y.out (vrow 3 (fun _ => .int .i64 0))); replace D := Go.Lib.hid (row_set D.out (vrow 3 (fun _ => .int .i64 0))); replace hG := Go.Lib.hid (grown_new hG.out (show w.heap.size ≤ w.heap.size + 1 by omega) (vrow 3 (fun _ => .int .i64 0))); generalize World.setRow _ _ _ = w3 at M Y D hG ⊢))
  obtain ⟨wo, hwo⟩ : ∃ wo : World, wo = w3 := ⟨_, rfl⟩
  rw [← hwo] at M Y D hG ⊢
  clear hwo w3
  go_loopw [6] (fun nv wr => ∃ i : Nat, i ≤ j ∧ nv = .int .i64 i ∧ wr.heap[mt]? = some (.cells (vrow 267 (baAt (rnds k L ⟨s, 0, fun _ => 0⟩ i).s k)) 119) ∧ wr.heap[w.heap.size]? = some (.cells (vrow 3 (fun _ => .int .i64 0)) 40) ∧ wr.heap[w.heap.size + 1]? = some (.cells (vrow 3 (a3f (rnds k L ⟨s, 0, fun _ => 0⟩ i).o)) 40) ∧ w.grownBy wr (some mt)) (fun nv _ => j - (intOf nv).toNat)
  case atStart => exact ⟨0, by omega, rfl, M.out, Y.out, D.out, hG.out⟩
  case round =>
    clear M Y D hG
    obtain ⟨i, hi, rfl, M, Y, D, hG⟩ := hrel
    have hrug := HRUG.out i
    replace M := Go.Lib.hid M; replace Y := Go.Lib.hid Y; replace D := Go.Lib.hid D; replace hG := Go.Lib.hid hG
    by_cases hlt : i < j
    · have hgt := HJ.out i hlt
      have hst : rnds k L ⟨s, 0, fun _ => 0⟩ (i + 1) = rnd k L (rnds k L ⟨s, 0, fun _ => 0⟩ i) := rfl
      have HST := Go.Lib.hid hst
      clear hst
      generalize rnds k L ⟨s, 0, fun _ => 0⟩ i = V at M D HST hgt hrug
      have hGV := hrug.gd
      have HDV := Go.Lib.hid fun w' hE => HDK.out V hGV w' hE
      have HR := Go.Lib.hid fun w' hs => HRN.out V hGV w' hs
      have hob : ∀ m, m < 3 → -4000000 ≤ V.o m + (rinS k (V.s, fun _ => 0) L).2 m ∧ V.o m + (rinS k (V.s, fun _ => 0) L).2 m ≤ 4000000 := fun m hm => by
        have q1 := HRB.out V hGV m hm
        have q2 := hrug.sum m hm
        have q3 := hrug.bd HI.out hm
        have q4 := isum_ink HI.out m 64
        have q5 := isum_ink hGV.ink m 64
        omega
      have HAD := Go.Lib.hid fun w hd => add_any V.o (rinS k (V.s, fun _ => 0) L).2 (w.heap.size + 1) hob w hd
      have HAD := Go.Lib.hid fun w' hd => add_any V.o (rinS k (V.s, fun _ => 0) L).2 (w.heap.size + 1) hob w' hd
      replace HST : Hid (rnds k L ⟨s, 0, fun _ => 0⟩ (i + 1) = ⟨(rinS k (V.s, fun _ => 0) L).1, V.n + 1, fun m => V.o m + (rinS k (V.s, fun _ => 0) L).2 m⟩) := HST
      clear hob hrug hGV
      generalize rinS k (V.s, fun _ => 0) L = T at HR HAD HST
      obtain ⟨T, oo⟩ := T
      dsimp only at HR HAD HST
      have hdd : decide (dk L V.s ≤ b) = false := by simpa using hgt
      generalize dk L V.s = dv at hgt hdd HDV
      go_wp2_with (first
        | go_skip
        | ((with_reducible refine wlAt 16 rfl ?_); refine wpList_loadmid rfl 36 (.tmp 15) rfl mt 0 rfl 267 266 (baAt V.s k) 119 _ Tryd.underlying36 rfl size_sheet M.out (by omega) ?_; rw [baAt_s])
        | (go_at_call 123; (refine (HDV.out _ (HE.out _ hG.out)).mono ?_); rintro o w1 ⟨⟨sx, sy, ev, rfl⟩, hb⟩; replace M := Go.Lib.hid (row_next hb M.out); replace Y := Go.Lib.hid (row_next hb Y.out); replace D := Go.Lib.hid (row_next hb D.out); replace hG := Go.Lib.hid (grown_next hG.out hb); clear hb)
        | ((with_reducible refine wlOp (.store 33 (.tmp 8) (.tmp 18)) rfl ?_); refine wpList_storeall rfl 33 (.tmp 8) (.tmp 18) rfl _ rfl 2 (spAt 0 0) (spAt sx sy) rfl 33 size_spot (heap_at _ _ _ rfl) (fun i _ => spAt_one _ _ i) ?_; rw [setRow_at _ _ _ _ _ rfl]; have nM := row_lt M.out; have nY := row_lt Y.out; have nD := row_lt D.out; replace M := Go.Lib.hid (heap_past _ (.cells (vrow 2 (spAt sx sy)) 33) _ _ nM M.out); replace Y := Go.Lib.hid (heap_past _ (.cells (vrow 2 (spAt sx sy)) 33) _ _ nY Y.out); replace D := Go.Lib.hid (heap_past _ (.cells (vrow 2 (spAt sx sy)) 33) _ _ nD D.out); replace hG := Go.Lib.hid (grown_next hG.out ((Below.refl _ w1).alloc (Nat.le_refl _) (.cells (vrow 2 (spAt sx sy)) 33))); clear nM nY nD; generalize w1.heap.size = sb; generalize w1.alloc _ = w2 at M Y D hG ⊢)
        | (go_at_call 125; (refine (HR.out _ M.out).mono ?_); rintro o w3 ⟨rfl, hg, hp⟩; replace Y := Go.Lib.hid ((hg.block _ (row_lt Y.out) (by simp <;> omega)).trans Y.out); replace D := Go.Lib.hid ((hg.block _ (row_lt D.out) (by simp <;> omega)).trans D.out); replace hG := Go.Lib.hid (grown_tr hG.out hg); replace M := Go.Lib.hid hp; clear hg hp)
        | (go_at_call 124; (refine (HAD.out _ D.out).mono ?_); rintro o w4 ⟨⟨rr, rfl⟩, hg, hp⟩; replace Y := Go.Lib.hid ((hg.block _ (row_lt Y.out) (by simp <;> omega)).trans Y.out); replace M := Go.Lib.hid ((hg.block _ (row_lt M.out) (by simp <;> omega)).trans M.out); replace hG := Go.Lib.hid (grown_any hG.out hg (by omega)); replace D := Go.Lib.hid hp; clear hg hp))
      go_roundw
      case rel => exact ⟨i + 1, by omega, by go_num, by rw [HST.out]; exact M.out, Y.out, by rw [HST.out]; exact D.out, hG.out⟩
      case measure => simp [intOf]; omega
    · obtain rfl : i = j := by omega
      have HDV := Go.Lib.hid fun w' hE => HDK.out _ hrug.gd w' hE
      have hdd : decide (dk L (rnds k L ⟨s, 0, fun _ => 0⟩ i).s ≤ b) = true := by simpa using hj1
      have hnn := hrug.n
      obtain ⟨V, hV⟩ : ∃ V, rnds k L ⟨s, 0, fun _ => 0⟩ i = V := ⟨_, rfl⟩
      rw [hV] at M D HDV hdd hnn
      replace hV := Go.Lib.hid hV
      replace hnn := Go.Lib.hid hnn
      generalize dk L V.s = dv at hdd HDV
      go_wp2_with (first
        | go_skip
        | ((with_reducible refine wlAt 16 rfl ?_); refine wpList_loadmid rfl 36 (.tmp 15) rfl mt 0 rfl 267 266 (baAt V.s k) 119 _ Tryd.underlying36 rfl size_sheet M.out (by omega) ?_; rw [baAt_s])
        | (go_at_call 123; (refine (HDV.out _ (HE.out _ hG.out)).mono ?_); rintro o w1 ⟨⟨sx, sy, ev, rfl⟩, hb⟩; replace M := Go.Lib.hid (row_next hb M.out); replace Y := Go.Lib.hid (row_next hb Y.out); replace D := Go.Lib.hid (row_next hb D.out); replace hG := Go.Lib.hid (grown_next hG.out hb); clear hb)
        | ((with_reducible refine wlOp (.store 33 (.tmp 8) (.tmp 18)) rfl ?_); refine wpList_storeall rfl 33 (.tmp 8) (.tmp 18) rfl _ rfl 2 (spAt 0 0) (spAt sx sy) rfl 33 size_spot (heap_at _ _ _ rfl) (fun i _ => spAt_one _ _ i) ?_; rw [setRow_at _ _ _ _ _ rfl]; have nM := row_lt M.out; have nY := row_lt Y.out; have nD := row_lt D.out; replace M := Go.Lib.hid (heap_past _ (.cells (vrow 2 (spAt sx sy)) 33) _ _ nM M.out); replace Y := Go.Lib.hid (heap_past _ (.cells (vrow 2 (spAt sx sy)) 33) _ _ nY Y.out); replace D := Go.Lib.hid (heap_past _ (.cells (vrow 2 (spAt sx sy)) 33) _ _ nD D.out); replace hG := Go.Lib.hid (grown_next hG.out ((Below.refl _ w1).alloc (Nat.le_refl _) (.cells (vrow 2 (spAt sx sy)) 33))); clear nM nY nD; generalize w1.heap.size = sb; generalize w1.alloc _ = w2 at M Y D hG ⊢))
      refine Code.wp_mono (Q := fun e a' W' => e = .normal ∧ a'.tmps.getD 5 undef = .pointer (some ⟨w.heap.size, 0, none⟩) ∧ a'.tmps.getD 4 undef = .int .i64 i ∧ a'.defers = [] ∧ w.grownBy W' (some mt) ∧ W'.heap[w.heap.size]? = some (.cells (vrow 3 (a3f V.o)) 40) ∧ W'.heap[mt]? = some (.cells (vrow 267 (baAt V.s k)) 119)) ?_ ?_
      rotate_left
      · refine wp_region_held_drew (S := fun W' => w.grownBy W' (some mt) ∧ W'.heap[w.heap.size + 1]? = some (.cells (vrow 3 (a3f V.o)) 40) ∧ W'.heap[mt]? = some (.cells (vrow 267 (baAt V.s k)) 119)) (by kernel_rfl) ⟨grown_drew hG.out, D.out, M.out⟩ (fun hH => ?_)
        have V5 := drwS Y.out
        generalize World.drew _ = W at hH V5 ⊢
        refine wpAnyH_take (i := 0) (v := (.int .i64 i)) rfl (by kernel_rfl) (by kernel_rfl) (by kernel_rfl) (fun _ _ _ h => by cases h.1) (.inl ⟨by rfl, fun w _ => by go_simp⟩) hH ?_
        (try simp only [Act.put, List.setIfInBounds_toArray, List.set_cons_succ, List.set_cons_zero])
        refine wpAnyH_take (i := 1) (v := (.agg (vrow 3 (a3f V.o)))) rfl (by kernel_rfl) (by kernel_rfl) (by kernel_rfl) (fun _ _ _ h => by cases h.1) (yields_row (by rfl) 40 _ rfl (w.heap.size + 1) rfl 3 (a3f V.o) 40 _ Tryd.underlying40 rfl size_i3 (fun _ h => h.2.1)) hH ?_
        (try simp only [Act.put, List.setIfInBounds_toArray, List.set_cons_succ, List.set_cons_zero])
        refine wpAnyH_take (i := 2) (v := (.int .i64 i)) rfl (by kernel_rfl) (by kernel_rfl) (by kernel_rfl) (fun _ _ _ h => by cases h.1) (.inl ⟨by rfl, fun w _ => by go_simp⟩) hH ?_
        (try simp only [Act.put, List.setIfInBounds_toArray, List.set_cons_succ, List.set_cons_zero])
        refine wpAnyH_ready (rs := [3]) (by kernel_rfl) (by simp) (AllReadyH.cons rfl (fun K hK => ?_) AllReadyH.nil)
        rw [if_pos (by rfl)]
        unfold Oper.wp
        rw [run_storemid 40 (.tmp 5) (.tmp 25) rfl (w.heap.size) 0 rfl 3 3 (fun _ => .int .i64 0) (a3f V.o) rfl 40 size_i3 V5 (by omega) (fun i _ => rfl), vrow_over_all, Oper.upon_skip]
        replace V5 := row_set V5 (vrow 3 (a3f V.o))
        have hH2 : w.grownBy (W.setRow (w.heap.size) (vrow 3 (a3f V.o))) (some mt) ∧ (W.setRow (w.heap.size) (vrow 3 (a3f V.o))).heap[w.heap.size + 1]? = some (.cells (vrow 3 (a3f V.o)) 40) ∧ (W.setRow (w.heap.size) (vrow 3 (a3f V.o))).heap[mt]? = some (.cells (vrow 267 (baAt V.s k)) 119) := ⟨grown_new hH.1 (by omega) _, row_set' (by omega) hH.2.1 _, row_set' (by omega) hH.2.2 _⟩
        refine hK.out _ _ hH2 (fun hH => ?_)
        clear hK K hH2
        (try simp only [Act.put, List.setIfInBounds_toArray, List.set_cons_succ, List.set_cons_zero])
        generalize (W.setRow (w.heap.size) (vrow 3 (a3f V.o))) = Y0 at hH V5 ⊢
        refine wpAnyH_done (by kernel_rfl) ?_ _
        exact ⟨rfl, rfl, rfl, rfl, hH.1, V5, hH.2.2⟩
      rintro e1 a1 W1 ⟨rfl, h_5, h_4, hdf, hB1, V5, M1⟩
      go_wp2
      exact ret_rowT Tryd.results70 w.heap.size 3 (a3f V.o) 40 _ Tryd.underlying40 rfl size_i3 (.int .i64 i) h_5 h_4 hdf V5 ⟨by rw [hV.out, hnn.out], hB1, by rw [hV.out]; exact M1⟩
end Go.Proofs.YtfgcpiipndhllaaDoor
