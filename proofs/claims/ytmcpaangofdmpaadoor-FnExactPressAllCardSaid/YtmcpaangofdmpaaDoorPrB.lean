import Derived.Deep.RegionHeld3
import Derived.Test.YtmcpaangofdmpaaDoorPF1
import Derived.Test.YtmcpaangofdmpaaDoorPairB
import Derived.Test.YtmcpaangofdmpaaDoorUnlP
import Derived.Test.YtmcpaangofdmpaaDoorFdS
namespace Go.Proofs.YtmcpaangofdmpaaDoor
open Go.RowKit
set_option maxRecDepth 100000
set_option linter.unusedVariables false
set_option linter.unusedSimpArgs false
theorem run_ld1 {P : Program} {o : Oper} {a : Act} {w : World} (ty : TypeId) (x : Operand) (ho : o.op = .load ty x)
    (b off : Nat) (hx : a.eval x = .pointer (some ⟨b, off, none⟩)) (n : Nat) (f : Nat → Value) (t : TypeId) (d : TypeDesc) (hu : P.underlying ty = some d) (hd : d.isRow = false) (hb : off < n)
    (hg : w.heap[b]? = some (.cells (vrow n f) t)) (v : Value) (hv : f off = v) : (execOp a.eval o).run P w = .ok (.value v) w := by
  have hc := cell_row hg hb
  unfold execOp
  simp only [ho, hx, Instr.loadAt, Instr.sureAddr, Sem.run_bind, Sem.run_pure, Result.andThen_ok, loadVar, run_isAgg_row w ty d hu, hd, Bool.false_eq_true, if_false, run_load, hc, hv]
theorem prA_mix (s : Sh) (m : Int) : prA s m = mixS s (fun _ => .int .i64 m) := rfl
theorem prA_266 (s : Sh) (m : Int) : prA s m 266 = .int .i64 m := rfl
theorem prA_set (s : Sh) (m n : Int) : vrow 267 (over (prA s m) 266 1 fun _ => .int .i64 n) = vrow 267 (prA s n) := vrow_ext _ _ _ fun i hi => by
  unfold over prA
  by_cases h : i < 266
  · rw [if_neg (by omega), if_pos h, if_pos h]
  · rw [if_pos (by omega), if_neg h]
theorem built_pd (s : Sh) : Tryd.prog.built 84 [(0, .agg (vrow 266 s.at))] = some (vrow 267 (prA s 0)) := by kernel_rfl
theorem below_grown {w X X' : World} {d : Nat} (h : Below w.heap.size w X) (g : X.grownBy X' (some d)) (hd : w.heap.size ≤ d) : Below w.heap.size w X' :=
  ⟨g.os.trans h.os, g.tape.trans h.tape, g.output.trans h.output, Nat.le_trans h.size g.size, fun k hk => (g.block k (Nat.lt_of_lt_of_le hk h.size) (by simp; omega)).trans (h.block k hk)⟩
/-- folds lie there, below B -/
def FdR (w : World) (ao : Option Addr) (n : Nat) (px : Nat → Int) (py : Nat → Bool) (pn : Nat → Int) (B : Nat) : Prop := 0 < n → ∃ D N F, ao = some ⟨D, 0, none⟩ ∧ D < B ∧ n * 3 ≤ N ∧ w.heap[D]? = some (.cells (vrow N F) 38) ∧ ∀ k, k < n → vrow 3 (fun j => F (k * 3 + j)) = vrow 3 (foAt (px k) (py k) (pn k))
theorem FdR.next {w w' : World} {ao : Option Addr} {n : Nat} {px : Nat → Int} {py : Nat → Bool} {pn : Nat → Int} {B : Nat} (h : FdR w ao n px py pn B) (hb : Below B w w') : FdR w' ao n px py pn B := fun hn => by
  obtain ⟨D, N, F, h1, h2, h3, h4, h5⟩ := h hn
  exact ⟨D, N, F, h1, h2, h3, row_below hb h2 h4, h5⟩
/-- so many folds have been pressed -/
def prF (s : Sh) (a c : Nat) (px : Nat → Int) (py : Nat → Bool) (pn : Nat → Int) : Nat → Sh × Int
  | 0 => (s, 0)
  | k + 1 => ((prL (pn k) (px k) (py k) (prF s a c px py pn k).1 (prsL s a c (px k) (py k))).1, (prF s a c px py pn k).2 + (prL (pn k) (px k) (py k) (prF s a c px py pn k).1 (prsL s a c (px k) (py k))).2)
theorem prF_kept (s : Sh) (a c : Nat) (px : Nat → Int) (py : Nat → Bool) (pn : Nat → Int) : ∀ k, kept s (prF s a c px py pn k).1
  | 0 => kept_refl s
  | k + 1 => kept_tr (prF_kept s a c px py pn k) (prL_kept ..)
theorem prF_bd {s : Sh} {a c : Nat} {px : Nat → Int} {py : Nat → Bool} {pn : Nat → Int} (h : bdP s) (ha : a ≤ 8) (hc : c ≤ 8) : ∀ k, (∀ i, i < k → 0 ≤ pn i ∧ pn i ≤ 16) → bdP (prF s a c px py pn k).1 ∧ 0 ≤ (prF s a c px py pn k).2 ∧ (prF s a c px py pn k).2 ≤ 192000 * k
  | 0, _ => ⟨h, Int.le_refl _, Int.le_refl _⟩
  | k + 1, hp => by
    have ih := prF_bd (px := px) (py := py) (pn := pn) h ha hc k fun i hi => hp i (by omega)
    have hl := prsL_len s (a := a) (c := c) (ax := px k) (d := py k) ha hc
    have h2 := prL_bd (pr := pn k) (ax := px k) (d := py k) ih.1 (hp k (by omega)) (prsL s a c (px k) (py k)).length (prsL s a c (px k) (py k)) rfl
    exact ⟨h2.1, by show 0 ≤ _ + _; omega, by show _ + _ ≤ _; omega⟩
theorem foldOk_bd {s : Sh} {ax : Int} {d : Bool} {pr : Int} (ho : okI s = true) (h : foldOk s ax d pr = true) : (1 ≤ ax ∧ ax ≤ 8) ∧ (1 ≤ pr ∧ pr ≤ 8) := by
  simp only [okI, Bool.and_eq_true, decide_eq_true_eq] at ho
  simp only [foldOk, Bool.and_eq_true, decide_eq_true_eq] at h
  obtain ⟨⟨a1, a2⟩, ⟨a3, a4⟩, _⟩ := ho
  refine ⟨⟨h.1.1, ?_⟩, h.2⟩
  have := h.1.2
  split at this <;> omega
theorem zero_foldP : ∀ w, (zeroValue 38).run Tryd.prog w = .ok (.agg (vrow 3 (foAt 0 false 0))) w := fun _ => by kernel_rfl
set_option maxRecDepth 100000 in
set_option maxHeartbeats 16000000 in
theorem pby_ok (s : Sh) (a c : Nat) (ao : Option Addr) (n cap : Nat) (px : Nat → Int) (py : Nat → Bool) (pn : Nat → Int) (w : World) (hf : s.fit) (hv : okI s = true) (hb0 : bdP s) (ea : s.wide = a) (ec : s.high = c) (ha : 1 ≤ a ∧ a ≤ 8) (hc : 1 ≤ c ∧ c ≤ 8) (hn : n ≤ 30) (hF : FdR w ao n px py pn w.heap.size) (hall : ∀ i, i < n → foldOk s (px i) (py i) (pn i) = true) : Calls Tryd.prog 55 #[.agg s.row, .slice ao n cap] w fun e w' => e = .returned (.agg (vrow 267 (prA (prF s a c px py pn n).1 (prF s a c px py pn n).2))) ∧ Below w.heap.size w w' := by
  have zz := zero_prd
  have zf := zero_foldP
  have P : Hid (((w.alloc (.cells (vrow 266 s.at) 34)).alloc (.cells (vrow 267 (prA Sh.zero 0)) 84)).heap[w.heap.size]? = some (.cells (vrow 266 s.at) 34)) := (heap_past _ _ _ _ (by simp <;> omega) (heap_at _ _ _ (by simp)))
  have Z : Hid (((w.alloc (.cells (vrow 266 s.at) 34)).alloc (.cells (vrow 267 (prA Sh.zero 0)) 84)).heap[w.heap.size + 1]? = some (.cells (vrow 267 (prA Sh.zero 0)) 84)) := (heap_at _ _ _ (by simp))
  have hB : Hid (Below w.heap.size w ((w.alloc (.cells (vrow 266 s.at) 34)).alloc (.cells (vrow 267 (prA Sh.zero 0)) 84))) := Go.Lib.hid (((Below.refl w.heap.size w).alloc (by simp <;> omega) _).alloc (by simp <;> omega) _)
  go_enter Tryd.func55, Tryd.ntmps55
  go_wp2_with (first
    | go_skip
    | ((with_reducible refine wlAt 8 rfl ?_); have hz0 := row_lt Z.out; generalize World.alloc (World.alloc w _) _ = W0 at P Z hB hz0 ⊢; refine wpList_loadall rfl 34 (.tmp 2) rfl w.heap.size rfl 266 s.at 34 _ Tryd.underlying34 rfl size_sheet P.out ?_)
    | ((with_reducible refine wlAt 9 rfl ?_); refine wpList_built rfl 84 [(0, .tmp 8)] rfl [(0, .agg (vrow 266 s.at))] (by rfl) _ (built_pd s) ?_)
    | ((with_reducible refine wlOp (.store 84 (.tmp 5) (.tmp 9)) rfl ?_); refine wpList_storeall rfl 84 (.tmp 5) (.tmp 9) rfl _ rfl 267 (prA Sh.zero 0) (prA s 0) rfl 84 size_prd (heap_at _ _ _ rfl) (fun i _ => prA_one _ _ i) ?_; rw [setRow_at _ _ _ _ _ rfl]; have V := Go.Lib.hid (heap_at W0 (.cells (vrow 267 (prA s 0)) 84) _ rfl); replace P := Go.Lib.hid (heap_past W0 (.cells (vrow 267 (prA s 0)) 84) _ _ (row_lt P.out) P.out); replace Z := Go.Lib.hid (heap_past W0 (.cells (vrow 267 (prA s 0)) 84) _ _ (row_lt Z.out) Z.out); replace hB := Go.Lib.hid (hB.out.alloc hB.out.size (.cells (vrow 267 (prA s 0)) 84)); obtain ⟨d0, hd0⟩ : ∃ z, W0.heap.size = z := ⟨_, rfl⟩; rw [hd0] at V hz0 ⊢; generalize World.alloc W0 _ = W1 at V P Z hB ⊢; clear hd0))
  have V0 := V.out; have P0 := P.out; have Z0 := Z.out; have B0 := hB.out
  clear V P Z hB
  go_loopw [12] (fun iv wr => ∃ k : Nat, k ≤ n ∧ iv = .int .i64 k ∧ wr.heap[d0]? = some (.cells (vrow 267 (prA (prF s a c px py pn k).1 (prF s a c px py pn k).2)) 84) ∧ wr.heap[w.heap.size]? = some (.cells (vrow 266 s.at) 34) ∧ wr.heap[w.heap.size + 1]? = some (.cells (vrow 267 (prA Sh.zero 0)) 84) ∧ Below w.heap.size w wr) (fun iv _ => n - (intOf iv).toNat)
  case atStart => exact ⟨0, by omega, rfl, V0, P0, Z0, B0⟩
  case round =>
    clear V0 P0 Z0 B0
    obtain ⟨k, hk, rfl, V, P, Z, hB⟩ := hrel
    by_cases hlt : k < n
    · obtain ⟨D, N, F, rfl, hD, hN, hrow, hF3⟩ := hF (by omega)
      have Gr := Go.Lib.hid (row_below hB hD hrow)
      have HR := Go.Lib.hid (hF3 k hlt)
      have hkI : (k : Int) < (n : Int) := by omega
      have hk0 : (0 : Int) ≤ (k : Int) := by omega
      have hkd : decide ((k : Int) < (n : Int)) = true := by simpa using hkI
      have hvl := row_lt V
      have hok := hall k hlt
      have hbd2 := foldOk_bd hv hok
      have hvk : (okI s && foldOk s (px k) (py k) (pn k)) = true := by rw [hv, hok]; rfl
      have hbF := prF_bd (px := px) (py := py) (pn := pn) hb0 ha.2 hc.2 k fun i hi => by have := (foldOk_bd hv (hall i (by omega))).2; omega
      have HP := Go.Lib.hid fun w => pairs_any s (px k) (py k) (pn k) a c w hf hvk hbd2.1 ea ec ha.2 hc.2
      have hlk := prsL_len s (a := a) (c := c) (ax := px k) (d := py k) ha.2 hc.2
      have HS0 := fun W v B h hO hB => press_any (prF s a c px py pn k).1 (fun _ => .int .i64 (prF s a c px py pn k).2) (d0) 267 84 (px k) (py k) (pn k) (prsL s a c (px k) (py k)) v B W (by omega) h hbF.1 (by omega) (prsL_in s ha.2 hc.2) hbd2.1 hlk hO hB
      have hb9 := (prL_bd (pr := pn k) (ax := px k) (d := py k) hbF.1 (by omega) (prsL s a c (px k) (py k)).length (prsL s a c (px k) (py k)) rfl).2
      have hst := Go.Lib.hid (show prF s a c px py pn (k + 1) = ((prL (pn k) (px k) (py k) (prF s a c px py pn k).1 (prsL s a c (px k) (py k))).1, (prF s a c px py pn k).2 + (prL (pn k) (px k) (py k) (prF s a c px py pn k).1 (prsL s a c (px k) (py k))).2) from rfl)
      simp only [← prA_mix] at HS0
      generalize prF s a c px py pn k = U at *
      obtain ⟨S, mv⟩ := U
      dsimp only at *
      generalize prsL s a c (px k) (py k) = L at *
      generalize prL (pn k) (px k) (py k) S L = U at *
      obtain ⟨S', n'⟩ := U
      dsimp only at *
      have HS := Go.Lib.hid HS0
      clear HS0
      have hwm : IntKind.i64.wrap (mv + n') = mv + n' := IntWalk.i64_in _ (by omega)
      replace P := Go.Lib.hid P; replace Z := Go.Lib.hid Z; replace V := Go.Lib.hid V; replace hB := Go.Lib.hid hB
      go_wp2_with (first
        | go_skip
        | ((with_reducible refine wlAt 15 rfl ?_); refine wpList_loadmid rfl 38 (.tmp 14) rfl D (k * 3) rfl N 3 F 38 _ Tryd.underlying38 rfl size_fold Gr.out (by omega) ?_; rw [HR.out])
        | ((with_reducible refine wlOp (.store 38 (.tmp 7) (.tmp 15)) rfl ?_); refine wpList_storeall rfl 38 (.tmp 7) (.tmp 15) rfl _ rfl 3 (foAt 0 false 0) (foAt (px k) (py k) (pn k)) rfl 38 size_fold (heap_at _ _ _ rfl) (fun i _ => foAt_one _ _ _ i) ?_; rw [setRow_at _ _ _ _ _ rfl]; have R := Go.Lib.hid (heap_at wr (.cells (vrow 3 (foAt (px k) (py k) (pn k))) 38) _ rfl); replace P := Go.Lib.hid (heap_past wr (.cells (vrow 3 (foAt (px k) (py k) (pn k))) 38) _ _ (row_lt P.out) P.out); replace Z := Go.Lib.hid (heap_past wr (.cells (vrow 3 (foAt (px k) (py k) (pn k))) 38) _ _ (row_lt Z.out) Z.out); replace V := Go.Lib.hid (heap_past wr (.cells (vrow 3 (foAt (px k) (py k) (pn k))) 38) _ _ (row_lt V.out) V.out); replace hB := Go.Lib.hid (hB.out.alloc hB.out.size (.cells (vrow 3 (foAt (px k) (py k) (pn k))) 38)); obtain ⟨fb, hfb⟩ : ∃ z, wr.heap.size = z := ⟨_, rfl⟩; rw [hfb] at R hvl ⊢; generalize World.alloc wr _ = W1 at P Z V R hB ⊢; clear hfb Gr HR))
      refine Code.wp_mono (Q := fun e a' W' => e = .normal ∧ (∃ x0 x1 x2 x3 x4 x5 x6 x7 x8 x9 x10, a' = { tmps := #[(.agg (vrow 266 s.at) : Value), (.slice (some ⟨D, 0, none⟩) n cap : Value), (.pointer (some ⟨w.heap.size, 0, none⟩) : Value), undef, (.pointer (some ⟨w.heap.size + 1, 0, none⟩) : Value), (.pointer (some ⟨d0, 0, none⟩) : Value), undef, (.pointer (some ⟨fb, 0, none⟩) : Value), (.agg (vrow 266 s.at) : Value), (.agg (vrow 267 (prA s 0)) : Value), (.slice (some ⟨D, 0, none⟩) n cap : Value), (.int .i64 n : Value), (.int .i64 k : Value), (.bool true : Value), (.pointer (some ⟨D, k * 3, none⟩) : Value), (.agg (vrow 3 (foAt (px k) (py k) (pn k))) : Value), x0, x1, x2, x3, x4, x5, x6, x7, x8, x9, x10, u27, undef], defers := [] }) ∧ W'.heap[d0]? = some (.cells (vrow 267 (prA S' (mv + n'))) 84) ∧ W'.heap[w.heap.size]? = some (.cells (vrow 266 s.at) 34) ∧ W'.heap[w.heap.size + 1]? = some (.cells (vrow 267 (prA Sh.zero 0)) 84) ∧ Below w.heap.size w W') ?_ ?_
      rotate_left
      · refine wp_region_held_drew (S := fun X => X.heap[w.heap.size]? = some (.cells (vrow 266 s.at) 34) ∧ X.heap[fb]? = some (.cells (vrow 3 (foAt (px k) (py k) (pn k))) 38) ∧ X.heap[w.heap.size + 1]? = some (.cells (vrow 267 (prA Sh.zero 0)) 84) ∧ Below w.heap.size w X) (by kernel_rfl) ⟨drwP P.out, drwP R.out, drwP Z.out, hB.out.drew⟩ (fun hH => ?_)
        replace V := drwP V.out
        clear hB P R Z
        generalize World.drew _ = W at hH V ⊢
        refine wpAnyH_take (i := 0) (v := (.pointer (some ⟨d0, 266, none⟩))) rfl (by kernel_rfl) (by kernel_rfl) (by kernel_rfl) (fun _ _ _ h => by cases h.1) (.inl ⟨by kernel_rfl, fun w hw => by go_simp⟩) hH ?_
        (try simp only [List.getElem_toArray, List.getElem_cons_succ, List.getElem_cons_zero, Act.put, List.setIfInBounds_toArray, List.set_cons_succ, List.set_cons_zero])
        refine wpAnyH_take (i := 2) (v := (.pointer (some ⟨d0, 0, none⟩))) rfl (by kernel_rfl) (by kernel_rfl) (by kernel_rfl) (fun _ _ _ h => by cases h.1) (.inl ⟨by kernel_rfl, fun w hw => by go_simp⟩) hH ?_
        (try simp only [List.getElem_toArray, List.getElem_cons_succ, List.getElem_cons_zero, Act.put, List.setIfInBounds_toArray, List.set_cons_succ, List.set_cons_zero])
        refine wpAnyH_take (i := 3) (v := (.agg (vrow 266 s.at))) rfl (by kernel_rfl) (by kernel_rfl) (by kernel_rfl) (fun _ _ _ h => by cases h.1) (yields_row (by kernel_rfl) 34 _ rfl w.heap.size rfl 266 s.at 34 _ Tryd.underlying34 rfl size_sheet (fun _ h => h.1)) hH ?_
        (try simp only [List.getElem_toArray, List.getElem_cons_succ, List.getElem_cons_zero, Act.put, List.setIfInBounds_toArray, List.set_cons_succ, List.set_cons_zero])
        refine wpAnyH_take (i := 4) (v := (.agg (vrow 3 (foAt (px k) (py k) (pn k))))) rfl (by kernel_rfl) (by kernel_rfl) (by kernel_rfl) (fun _ _ _ h => by cases h.1) (yields_row (by kernel_rfl) 38 _ rfl fb rfl 3 (foAt (px k) (py k) (pn k)) 38 _ Tryd.underlying38 rfl size_fold (fun _ h => h.2.1)) hH ?_
        (try simp only [List.getElem_toArray, List.getElem_cons_succ, List.getElem_cons_zero, Act.put, List.setIfInBounds_toArray, List.set_cons_succ, List.set_cons_zero])
        refine wpAnyH_take (i := 6) (v := (.pointer (some ⟨fb, 2, none⟩))) rfl (by kernel_rfl) (by kernel_rfl) (by kernel_rfl) (fun _ _ _ h => by cases h.1) (.inl ⟨by kernel_rfl, fun w hw => by go_simp⟩) hH ?_
        (try simp only [List.getElem_toArray, List.getElem_cons_succ, List.getElem_cons_zero, Act.put, List.setIfInBounds_toArray, List.set_cons_succ, List.set_cons_zero])
        refine wpAnyH_take (i := 7) (v := (.int .i8 (pn k))) rfl (by kernel_rfl) (by kernel_rfl) (by kernel_rfl) (fun _ _ _ h => by cases h.1) (yields_one (by kernel_rfl) 22 _ rfl fb 2 rfl 3 (foAt (px k) (py k) (pn k)) 38 _ Tryd.underlying22 rfl (by omega) (fun _ h => h.2.1)) hH ?_
        (try simp only [List.getElem_toArray, List.getElem_cons_succ, List.getElem_cons_zero, Act.put, List.setIfInBounds_toArray, List.set_cons_succ, List.set_cons_zero])
        refine wpAnyH_ready (rs := [1, 5]) (by kernel_rfl) (by simp) (AllReadyH.cons rfl (fun K hK => ?_) (AllReadyH.cons rfl (fun K hK => ?_) (AllReadyH.nil)))
        · rw [if_pos (by rfl)]
          unfold Oper.wp
          rw [run_ld1 2 _ rfl (d0) 266 rfl 267 _ 84 _ Tryd.underlying2 rfl (by omega) V (.int .i64 mv) (prA_266 _ mv), Oper.upon_value]
          refine hK.out _ _ hH (fun hH => ?_)
          clear hK K
          (try simp only [List.getElem_toArray, List.getElem_cons_succ, List.getElem_cons_zero, Act.put, List.setIfInBounds_toArray, List.set_cons_succ, List.set_cons_zero])
          refine wpAnyH_ready (rs := [5]) (by kernel_rfl) (by simp) (AllReadyH.cons rfl (fun K hK => ?_) (AllReadyH.nil))
          rw [if_pos (by rfl)]
          go_simp
          go_at_call 67
          refine (HP.out _).mono ?_
          rintro o X ⟨v, rfl, hO, hb⟩
          have hPO := own_pro hO
          have hvB := row_lt V
          replace hH : X.heap[w.heap.size]? = some (.cells (vrow 266 s.at) 34) ∧ X.heap[fb]? = some (.cells (vrow 3 (foAt (px k) (py k) (pn k))) 38) ∧ X.heap[w.heap.size + 1]? = some (.cells (vrow 267 (prA Sh.zero 0)) 84) ∧ Below w.heap.size w X := ⟨row_next hb hH.1, row_next hb hH.2.1, row_next hb hH.2.2.1, hH.2.2.2.trans (hb.mono hH.2.2.2.size)⟩
          replace V := row_next hb V
          clear hb hO
          refine hK.out _ _ hH (fun hH => ?_)
          clear hK K
          (try simp only [List.getElem_toArray, List.getElem_cons_succ, List.getElem_cons_zero, Act.put, List.setIfInBounds_toArray, List.set_cons_succ, List.set_cons_zero])
          refine wpAnyH_ready (rs := [8]) (by kernel_rfl) (by simp) (AllReadyH.cons rfl (fun K hK => ?_) (AllReadyH.nil))
          rw [if_pos (by rfl)]
          go_simp
          go_at_call 105
          refine (HS.out _ _ _ V hPO hvB).mono ?_
          rintro o Y ⟨rfl, hg1, hV⟩
          replace hH : Y.heap[w.heap.size]? = some (.cells (vrow 266 s.at) 34) ∧ Y.heap[fb]? = some (.cells (vrow 3 (foAt (px k) (py k) (pn k))) 38) ∧ Y.heap[w.heap.size + 1]? = some (.cells (vrow 267 (prA Sh.zero 0)) 84) ∧ Below w.heap.size w Y := ⟨((hg1.block _ (row_lt hH.1) (by simp; omega)).trans hH.1), ((hg1.block _ (row_lt hH.2.1) (by simp; omega)).trans hH.2.1), ((hg1.block _ (row_lt hH.2.2.1) (by simp; omega)).trans hH.2.2.1), below_grown hH.2.2.2 hg1 (by omega)⟩
          replace V := hV
          clear hg1 hV hPO
          refine hK.out _ _ hH (fun hH => ?_)
          clear hK K
          (try simp only [List.getElem_toArray, List.getElem_cons_succ, List.getElem_cons_zero, Act.put, List.setIfInBounds_toArray, List.set_cons_succ, List.set_cons_zero])
          refine wpAnyH_take (i := 9) (v := (.int .i64 (mv + n'))) rfl (by kernel_rfl) (by kernel_rfl) (by kernel_rfl) (fun _ _ _ h => by cases h.1) (.inl ⟨by kernel_rfl, fun w hw => by go_simp; (try exact hwm)⟩) hH ?_
          (try simp only [List.getElem_toArray, List.getElem_cons_succ, List.getElem_cons_zero, Act.put, List.setIfInBounds_toArray, List.set_cons_succ, List.set_cons_zero])
          refine wpAnyH_take (i := 10) (v := (.pointer (some ⟨d0, 266, none⟩))) rfl (by kernel_rfl) (by kernel_rfl) (by kernel_rfl) (fun _ _ _ h => by cases h.1) (.inl ⟨by kernel_rfl, fun w hw => by go_simp⟩) hH ?_
          (try simp only [List.getElem_toArray, List.getElem_cons_succ, List.getElem_cons_zero, Act.put, List.setIfInBounds_toArray, List.set_cons_succ, List.set_cons_zero])
          refine wpAnyH_ready (rs := [11]) (by kernel_rfl) (by simp) (AllReadyH.cons rfl (fun K hK => ?_) (AllReadyH.nil))
          rw [if_pos (by rfl)]
          unfold Oper.wp
          rw [run_store1 2 (.tmp 26) (.tmp 25) rfl (d0) 266 rfl 267 (prA S' mv) (.int .i64 (mv + n')) rfl 84 size_i64w V (by omega) rfl, prA_set, Oper.upon_skip]
          replace V := row_set V (vrow 267 (prA S' (mv + n')))
          have hH2 : (Y.setRow d0 (vrow 267 (prA S' (mv + n')))).heap[w.heap.size]? = some (.cells (vrow 266 s.at) 34) ∧ (Y.setRow d0 (vrow 267 (prA S' (mv + n')))).heap[fb]? = some (.cells (vrow 3 (foAt (px k) (py k) (pn k))) 38) ∧ (Y.setRow d0 (vrow 267 (prA S' (mv + n')))).heap[w.heap.size + 1]? = some (.cells (vrow 267 (prA Sh.zero 0)) 84) ∧ Below w.heap.size w (Y.setRow d0 (vrow 267 (prA S' (mv + n')))) := ⟨row_set' (g := d0) (by omega) hH.1 _, row_set' (g := d0) (by omega) hH.2.1 _, row_set' (g := d0) (by omega) hH.2.2.1 _, Below_setRow hH.2.2.2 (show w.heap.size ≤ d0 by omega) _⟩
          refine hK.out _ _ hH2 (fun hH => ?_)
          clear hK K hH2
          (try simp only [List.getElem_toArray, List.getElem_cons_succ, List.getElem_cons_zero, Act.put, List.setIfInBounds_toArray, List.set_cons_succ, List.set_cons_zero])
          refine wpAnyH_done (by kernel_rfl) ?_ _
          exact ⟨rfl, ⟨_, _, _, _, _, _, _, _, _, _, _, rfl⟩, V, hH.1, hH.2.2.1, hH.2.2.2⟩
        · rw [if_pos (by rfl)]
          go_simp
          go_at_call 67
          refine (HP.out _).mono ?_
          rintro o X ⟨v, rfl, hO, hb⟩
          have hPO := own_pro hO
          have hvB := row_lt V
          replace hH : X.heap[w.heap.size]? = some (.cells (vrow 266 s.at) 34) ∧ X.heap[fb]? = some (.cells (vrow 3 (foAt (px k) (py k) (pn k))) 38) ∧ X.heap[w.heap.size + 1]? = some (.cells (vrow 267 (prA Sh.zero 0)) 84) ∧ Below w.heap.size w X := ⟨row_next hb hH.1, row_next hb hH.2.1, row_next hb hH.2.2.1, hH.2.2.2.trans (hb.mono hH.2.2.2.size)⟩
          replace V := row_next hb V
          clear hb hO
          refine hK.out _ _ hH (fun hH => ?_)
          clear hK K
          (try simp only [List.getElem_toArray, List.getElem_cons_succ, List.getElem_cons_zero, Act.put, List.setIfInBounds_toArray, List.set_cons_succ, List.set_cons_zero])
          refine wpAnyH_ready (rs := [1, 8]) (by kernel_rfl) (by simp) (AllReadyH.cons rfl (fun K hK => ?_) (AllReadyH.cons rfl (fun K hK => ?_) (AllReadyH.nil)))
          · rw [if_pos (by rfl)]
            unfold Oper.wp
            rw [run_ld1 2 _ rfl (d0) 266 rfl 267 _ 84 _ Tryd.underlying2 rfl (by omega) V (.int .i64 mv) (prA_266 _ mv), Oper.upon_value]
            refine hK.out _ _ hH (fun hH => ?_)
            clear hK K
            (try simp only [List.getElem_toArray, List.getElem_cons_succ, List.getElem_cons_zero, Act.put, List.setIfInBounds_toArray, List.set_cons_succ, List.set_cons_zero])
            refine wpAnyH_ready (rs := [8]) (by kernel_rfl) (by simp) (AllReadyH.cons rfl (fun K hK => ?_) (AllReadyH.nil))
            rw [if_pos (by rfl)]
            go_simp
            go_at_call 105
            refine (HS.out _ _ _ V hPO hvB).mono ?_
            rintro o Y ⟨rfl, hg1, hV⟩
            replace hH : Y.heap[w.heap.size]? = some (.cells (vrow 266 s.at) 34) ∧ Y.heap[fb]? = some (.cells (vrow 3 (foAt (px k) (py k) (pn k))) 38) ∧ Y.heap[w.heap.size + 1]? = some (.cells (vrow 267 (prA Sh.zero 0)) 84) ∧ Below w.heap.size w Y := ⟨((hg1.block _ (row_lt hH.1) (by simp; omega)).trans hH.1), ((hg1.block _ (row_lt hH.2.1) (by simp; omega)).trans hH.2.1), ((hg1.block _ (row_lt hH.2.2.1) (by simp; omega)).trans hH.2.2.1), below_grown hH.2.2.2 hg1 (by omega)⟩
            replace V := hV
            clear hg1 hV hPO
            refine hK.out _ _ hH (fun hH => ?_)
            clear hK K
            (try simp only [List.getElem_toArray, List.getElem_cons_succ, List.getElem_cons_zero, Act.put, List.setIfInBounds_toArray, List.set_cons_succ, List.set_cons_zero])
            refine wpAnyH_take (i := 9) (v := (.int .i64 (mv + n'))) rfl (by kernel_rfl) (by kernel_rfl) (by kernel_rfl) (fun _ _ _ h => by cases h.1) (.inl ⟨by kernel_rfl, fun w hw => by go_simp; (try exact hwm)⟩) hH ?_
            (try simp only [List.getElem_toArray, List.getElem_cons_succ, List.getElem_cons_zero, Act.put, List.setIfInBounds_toArray, List.set_cons_succ, List.set_cons_zero])
            refine wpAnyH_take (i := 10) (v := (.pointer (some ⟨d0, 266, none⟩))) rfl (by kernel_rfl) (by kernel_rfl) (by kernel_rfl) (fun _ _ _ h => by cases h.1) (.inl ⟨by kernel_rfl, fun w hw => by go_simp⟩) hH ?_
            (try simp only [List.getElem_toArray, List.getElem_cons_succ, List.getElem_cons_zero, Act.put, List.setIfInBounds_toArray, List.set_cons_succ, List.set_cons_zero])
            refine wpAnyH_ready (rs := [11]) (by kernel_rfl) (by simp) (AllReadyH.cons rfl (fun K hK => ?_) (AllReadyH.nil))
            rw [if_pos (by rfl)]
            unfold Oper.wp
            rw [run_store1 2 (.tmp 26) (.tmp 25) rfl (d0) 266 rfl 267 (prA S' mv) (.int .i64 (mv + n')) rfl 84 size_i64w V (by omega) rfl, prA_set, Oper.upon_skip]
            replace V := row_set V (vrow 267 (prA S' (mv + n')))
            have hH2 : (Y.setRow d0 (vrow 267 (prA S' (mv + n')))).heap[w.heap.size]? = some (.cells (vrow 266 s.at) 34) ∧ (Y.setRow d0 (vrow 267 (prA S' (mv + n')))).heap[fb]? = some (.cells (vrow 3 (foAt (px k) (py k) (pn k))) 38) ∧ (Y.setRow d0 (vrow 267 (prA S' (mv + n')))).heap[w.heap.size + 1]? = some (.cells (vrow 267 (prA Sh.zero 0)) 84) ∧ Below w.heap.size w (Y.setRow d0 (vrow 267 (prA S' (mv + n')))) := ⟨row_set' (g := d0) (by omega) hH.1 _, row_set' (g := d0) (by omega) hH.2.1 _, row_set' (g := d0) (by omega) hH.2.2.1 _, Below_setRow hH.2.2.2 (show w.heap.size ≤ d0 by omega) _⟩
            refine hK.out _ _ hH2 (fun hH => ?_)
            clear hK K hH2
            (try simp only [List.getElem_toArray, List.getElem_cons_succ, List.getElem_cons_zero, Act.put, List.setIfInBounds_toArray, List.set_cons_succ, List.set_cons_zero])
            refine wpAnyH_done (by kernel_rfl) ?_ _
            exact ⟨rfl, ⟨_, _, _, _, _, _, _, _, _, _, _, rfl⟩, V, hH.1, hH.2.2.1, hH.2.2.2⟩
          · rw [if_pos (by rfl)]
            go_simp
            go_at_call 105
            refine (HS.out _ _ _ V hPO hvB).mono ?_
            rintro o Y ⟨rfl, hg1, hV⟩
            replace hH : Y.heap[w.heap.size]? = some (.cells (vrow 266 s.at) 34) ∧ Y.heap[fb]? = some (.cells (vrow 3 (foAt (px k) (py k) (pn k))) 38) ∧ Y.heap[w.heap.size + 1]? = some (.cells (vrow 267 (prA Sh.zero 0)) 84) ∧ Below w.heap.size w Y := ⟨((hg1.block _ (row_lt hH.1) (by simp; omega)).trans hH.1), ((hg1.block _ (row_lt hH.2.1) (by simp; omega)).trans hH.2.1), ((hg1.block _ (row_lt hH.2.2.1) (by simp; omega)).trans hH.2.2.1), below_grown hH.2.2.2 hg1 (by omega)⟩
            replace V := hV
            clear hg1 hV hPO
            refine hK.out _ _ hH (fun hH => ?_)
            clear hK K
            (try simp only [List.getElem_toArray, List.getElem_cons_succ, List.getElem_cons_zero, Act.put, List.setIfInBounds_toArray, List.set_cons_succ, List.set_cons_zero])
            refine wpAnyH_ready (rs := [1]) (by kernel_rfl) (by simp) (AllReadyH.cons rfl (fun K hK => ?_) (AllReadyH.nil))
            rw [if_pos (by rfl)]
            unfold Oper.wp
            rw [run_ld1 2 _ rfl (d0) 266 rfl 267 _ 84 _ Tryd.underlying2 rfl (by omega) V (.int .i64 mv) (prA_266 _ mv), Oper.upon_value]
            refine hK.out _ _ hH (fun hH => ?_)
            clear hK K
            (try simp only [List.getElem_toArray, List.getElem_cons_succ, List.getElem_cons_zero, Act.put, List.setIfInBounds_toArray, List.set_cons_succ, List.set_cons_zero])
            refine wpAnyH_take (i := 9) (v := (.int .i64 (mv + n'))) rfl (by kernel_rfl) (by kernel_rfl) (by kernel_rfl) (fun _ _ _ h => by cases h.1) (.inl ⟨by kernel_rfl, fun w hw => by go_simp; (try exact hwm)⟩) hH ?_
            (try simp only [List.getElem_toArray, List.getElem_cons_succ, List.getElem_cons_zero, Act.put, List.setIfInBounds_toArray, List.set_cons_succ, List.set_cons_zero])
            refine wpAnyH_take (i := 10) (v := (.pointer (some ⟨d0, 266, none⟩))) rfl (by kernel_rfl) (by kernel_rfl) (by kernel_rfl) (fun _ _ _ h => by cases h.1) (.inl ⟨by kernel_rfl, fun w hw => by go_simp⟩) hH ?_
            (try simp only [List.getElem_toArray, List.getElem_cons_succ, List.getElem_cons_zero, Act.put, List.setIfInBounds_toArray, List.set_cons_succ, List.set_cons_zero])
            refine wpAnyH_ready (rs := [11]) (by kernel_rfl) (by simp) (AllReadyH.cons rfl (fun K hK => ?_) (AllReadyH.nil))
            rw [if_pos (by rfl)]
            unfold Oper.wp
            rw [run_store1 2 (.tmp 26) (.tmp 25) rfl (d0) 266 rfl 267 (prA S' mv) (.int .i64 (mv + n')) rfl 84 size_i64w V (by omega) rfl, prA_set, Oper.upon_skip]
            replace V := row_set V (vrow 267 (prA S' (mv + n')))
            have hH2 : (Y.setRow d0 (vrow 267 (prA S' (mv + n')))).heap[w.heap.size]? = some (.cells (vrow 266 s.at) 34) ∧ (Y.setRow d0 (vrow 267 (prA S' (mv + n')))).heap[fb]? = some (.cells (vrow 3 (foAt (px k) (py k) (pn k))) 38) ∧ (Y.setRow d0 (vrow 267 (prA S' (mv + n')))).heap[w.heap.size + 1]? = some (.cells (vrow 267 (prA Sh.zero 0)) 84) ∧ Below w.heap.size w (Y.setRow d0 (vrow 267 (prA S' (mv + n')))) := ⟨row_set' (g := d0) (by omega) hH.1 _, row_set' (g := d0) (by omega) hH.2.1 _, row_set' (g := d0) (by omega) hH.2.2.1 _, Below_setRow hH.2.2.2 (show w.heap.size ≤ d0 by omega) _⟩
            refine hK.out _ _ hH2 (fun hH => ?_)
            clear hK K hH2
            (try simp only [List.getElem_toArray, List.getElem_cons_succ, List.getElem_cons_zero, Act.put, List.setIfInBounds_toArray, List.set_cons_succ, List.set_cons_zero])
            refine wpAnyH_done (by kernel_rfl) ?_ _
            exact ⟨rfl, ⟨_, _, _, _, _, _, _, _, _, _, _, rfl⟩, V, hH.1, hH.2.2.1, hH.2.2.2⟩
      rintro e1 a1 W5 ⟨rfl, ⟨x0, x1, x2, x3, x4, x5, x6, x7, x8, x9, x10, rfl⟩, V, P, Z, hB⟩
      go_wp2
      go_roundw
      case rel => exact ⟨_, _, _, _, _, _, _, _, _, _, _, _, _, _, _, _, _, ⟨k + 1, by omega, by go_num, by rw [hst.out]; exact V, P, Z, hB⟩, rfl⟩
      case measure => simp [intOf]; omega
    · obtain rfl : k = n := by omega
      have hkd : decide ((k : Int) < (k : Int)) = false := by simp
      obtain ⟨U, hU⟩ : ∃ U, prF s a c px py pn k = U := ⟨_, rfl⟩
      rw [hU] at V
      have HU := Go.Lib.hid hU
      clear hU
      obtain ⟨S, mv⟩ := U
      dsimp only at *
      replace V := Go.Lib.hid V; replace Z := Go.Lib.hid Z; replace hB := Go.Lib.hid hB
      go_wp2_with (first
        | go_skip
        | ((with_reducible refine wlAt 28 rfl ?_); refine wpList_loadall rfl 84 (.tmp 5) rfl (d0) rfl 267 (prA S mv) 84 _ Tryd.underlying84 rfl size_prd V.out ?_)
        | ((with_reducible refine wlOp (.store 84 (.tmp 4) (.tmp 28)) rfl ?_); refine wpList_storeall rfl 84 (.tmp 4) (.tmp 28) rfl (w.heap.size + 1) rfl 267 (prA Sh.zero 0) (prA S mv) rfl 84 size_prd Z.out (fun i _ => prA_one _ _ i) ?_; replace Z := Go.Lib.hid (row_set Z.out (vrow 267 (prA S mv))); replace hB := Go.Lib.hid (Below_setRow hB.out (show w.heap.size ≤ w.heap.size + 1 by omega) (vrow 267 (prA S mv)))))
      exact ret_row Tryd.results55 (w.heap.size + 1) 267 (prA S mv) 84 _ Tryd.underlying84 rfl size_prd rfl rfl Z.out ⟨by rw [HU.out], hB.out⟩
set_option maxRecDepth 100000 in
set_option maxHeartbeats 16000000 in
theorem pby_bad (s : Sh) (a c : Nat) (ao : Option Addr) (n cap : Nat) (px : Nat → Int) (py : Nat → Bool) (pn : Nat → Int) (w : World) (hf : s.fit) (hv : okI s = true) (hb0 : bdP s) (ea : s.wide = a) (ec : s.high = c) (ha : 1 ≤ a ∧ a ≤ 8) (hc : 1 ≤ c ∧ c ≤ 8) (hn : n ≤ 30) (hF : FdR w ao n px py pn w.heap.size) (q : Nat) (hq : q < n) (hall : ∀ i, i < q → foldOk s (px i) (py i) (pn i) = true) (hno : foldOk s (px q) (py q) (pn q) = false) : Calls Tryd.prog 55 #[.agg s.row, .slice ao n cap] w fun e w' => e = .panicked [{ v := .iface 179 (.agg #[.int .i8 (px q), .bool (py q), .int .i8 (pn q)]), recovered := false }] ∧ Below w.heap.size w w' := by
  have zz := zero_prd
  have zf := zero_foldP
  have P : Hid (((w.alloc (.cells (vrow 266 s.at) 34)).alloc (.cells (vrow 267 (prA Sh.zero 0)) 84)).heap[w.heap.size]? = some (.cells (vrow 266 s.at) 34)) := (heap_past _ _ _ _ (by simp <;> omega) (heap_at _ _ _ (by simp)))
  have Z : Hid (((w.alloc (.cells (vrow 266 s.at) 34)).alloc (.cells (vrow 267 (prA Sh.zero 0)) 84)).heap[w.heap.size + 1]? = some (.cells (vrow 267 (prA Sh.zero 0)) 84)) := (heap_at _ _ _ (by simp))
  have hB : Hid (Below w.heap.size w ((w.alloc (.cells (vrow 266 s.at) 34)).alloc (.cells (vrow 267 (prA Sh.zero 0)) 84))) := Go.Lib.hid (((Below.refl w.heap.size w).alloc (by simp <;> omega) _).alloc (by simp <;> omega) _)
  go_enter Tryd.func55, Tryd.ntmps55
  go_wp2_with (first
    | go_skip
    | ((with_reducible refine wlAt 8 rfl ?_); have hz0 := row_lt Z.out; generalize World.alloc (World.alloc w _) _ = W0 at P Z hB hz0 ⊢; refine wpList_loadall rfl 34 (.tmp 2) rfl w.heap.size rfl 266 s.at 34 _ Tryd.underlying34 rfl size_sheet P.out ?_)
    | ((with_reducible refine wlAt 9 rfl ?_); refine wpList_built rfl 84 [(0, .tmp 8)] rfl [(0, .agg (vrow 266 s.at))] (by rfl) _ (built_pd s) ?_)
    | ((with_reducible refine wlOp (.store 84 (.tmp 5) (.tmp 9)) rfl ?_); refine wpList_storeall rfl 84 (.tmp 5) (.tmp 9) rfl _ rfl 267 (prA Sh.zero 0) (prA s 0) rfl 84 size_prd (heap_at _ _ _ rfl) (fun i _ => prA_one _ _ i) ?_; rw [setRow_at _ _ _ _ _ rfl]; have V := Go.Lib.hid (heap_at W0 (.cells (vrow 267 (prA s 0)) 84) _ rfl); replace P := Go.Lib.hid (heap_past W0 (.cells (vrow 267 (prA s 0)) 84) _ _ (row_lt P.out) P.out); replace Z := Go.Lib.hid (heap_past W0 (.cells (vrow 267 (prA s 0)) 84) _ _ (row_lt Z.out) Z.out); replace hB := Go.Lib.hid (hB.out.alloc hB.out.size (.cells (vrow 267 (prA s 0)) 84)); obtain ⟨d0, hd0⟩ : ∃ z, W0.heap.size = z := ⟨_, rfl⟩; rw [hd0] at V hz0 ⊢; generalize World.alloc W0 _ = W1 at V P Z hB ⊢; clear hd0))
  have V0 := V.out; have P0 := P.out; have Z0 := Z.out; have B0 := hB.out
  clear V P Z hB
  go_loopw [12] (fun iv wr => ∃ k : Nat, k ≤ q ∧ iv = .int .i64 k ∧ wr.heap[d0]? = some (.cells (vrow 267 (prA (prF s a c px py pn k).1 (prF s a c px py pn k).2)) 84) ∧ wr.heap[w.heap.size]? = some (.cells (vrow 266 s.at) 34) ∧ wr.heap[w.heap.size + 1]? = some (.cells (vrow 267 (prA Sh.zero 0)) 84) ∧ Below w.heap.size w wr) (fun iv _ => n - (intOf iv).toNat)
  case atStart => exact ⟨0, by omega, rfl, V0, P0, Z0, B0⟩
  case round =>
    clear V0 P0 Z0 B0
    obtain ⟨k, hk, rfl, V, P, Z, hB⟩ := hrel
    by_cases hlt : k < n
    · obtain ⟨D, N, F, rfl, hD, hN, hrow, hF3⟩ := hF (by omega)
      have Gr := Go.Lib.hid (row_below hB hD hrow)
      have HR := Go.Lib.hid (hF3 k hlt)
      have hkI : (k : Int) < (n : Int) := by omega
      have hk0 : (0 : Int) ≤ (k : Int) := by omega
      have hkd : decide ((k : Int) < (n : Int)) = true := by simpa using hkI
      have hvl := row_lt V
      by_cases hkq : k < q
      · skip
        have hok := hall k hkq
        have hbd2 := foldOk_bd hv hok
        have hvk : (okI s && foldOk s (px k) (py k) (pn k)) = true := by rw [hv, hok]; rfl
        have hbF := prF_bd (px := px) (py := py) (pn := pn) hb0 ha.2 hc.2 k fun i hi => by have := (foldOk_bd hv (hall i (by omega))).2; omega
        have HP := Go.Lib.hid fun w => pairs_any s (px k) (py k) (pn k) a c w hf hvk hbd2.1 ea ec ha.2 hc.2
        have hlk := prsL_len s (a := a) (c := c) (ax := px k) (d := py k) ha.2 hc.2
        have HS0 := fun W v B h hO hB => press_any (prF s a c px py pn k).1 (fun _ => .int .i64 (prF s a c px py pn k).2) (d0) 267 84 (px k) (py k) (pn k) (prsL s a c (px k) (py k)) v B W (by omega) h hbF.1 (by omega) (prsL_in s ha.2 hc.2) hbd2.1 hlk hO hB
        have hb9 := (prL_bd (pr := pn k) (ax := px k) (d := py k) hbF.1 (by omega) (prsL s a c (px k) (py k)).length (prsL s a c (px k) (py k)) rfl).2
        have hst := Go.Lib.hid (show prF s a c px py pn (k + 1) = ((prL (pn k) (px k) (py k) (prF s a c px py pn k).1 (prsL s a c (px k) (py k))).1, (prF s a c px py pn k).2 + (prL (pn k) (px k) (py k) (prF s a c px py pn k).1 (prsL s a c (px k) (py k))).2) from rfl)
        simp only [← prA_mix] at HS0
        generalize prF s a c px py pn k = U at *
        obtain ⟨S, mv⟩ := U
        dsimp only at *
        generalize prsL s a c (px k) (py k) = L at *
        generalize prL (pn k) (px k) (py k) S L = U at *
        obtain ⟨S', n'⟩ := U
        dsimp only at *
        have HS := Go.Lib.hid HS0
        clear HS0
        have hwm : IntKind.i64.wrap (mv + n') = mv + n' := IntWalk.i64_in _ (by omega)
        replace P := Go.Lib.hid P; replace Z := Go.Lib.hid Z; replace V := Go.Lib.hid V; replace hB := Go.Lib.hid hB
        go_wp2_with (first
          | go_skip
          | ((with_reducible refine wlAt 15 rfl ?_); refine wpList_loadmid rfl 38 (.tmp 14) rfl D (k * 3) rfl N 3 F 38 _ Tryd.underlying38 rfl size_fold Gr.out (by omega) ?_; rw [HR.out])
          | ((with_reducible refine wlOp (.store 38 (.tmp 7) (.tmp 15)) rfl ?_); refine wpList_storeall rfl 38 (.tmp 7) (.tmp 15) rfl _ rfl 3 (foAt 0 false 0) (foAt (px k) (py k) (pn k)) rfl 38 size_fold (heap_at _ _ _ rfl) (fun i _ => foAt_one _ _ _ i) ?_; rw [setRow_at _ _ _ _ _ rfl]; have R := Go.Lib.hid (heap_at wr (.cells (vrow 3 (foAt (px k) (py k) (pn k))) 38) _ rfl); replace P := Go.Lib.hid (heap_past wr (.cells (vrow 3 (foAt (px k) (py k) (pn k))) 38) _ _ (row_lt P.out) P.out); replace Z := Go.Lib.hid (heap_past wr (.cells (vrow 3 (foAt (px k) (py k) (pn k))) 38) _ _ (row_lt Z.out) Z.out); replace V := Go.Lib.hid (heap_past wr (.cells (vrow 3 (foAt (px k) (py k) (pn k))) 38) _ _ (row_lt V.out) V.out); replace hB := Go.Lib.hid (hB.out.alloc hB.out.size (.cells (vrow 3 (foAt (px k) (py k) (pn k))) 38)); obtain ⟨fb, hfb⟩ : ∃ z, wr.heap.size = z := ⟨_, rfl⟩; rw [hfb] at R hvl ⊢; generalize World.alloc wr _ = W1 at P Z V R hB ⊢; clear hfb Gr HR))
        refine Code.wp_mono (Q := fun e a' W' => e = .normal ∧ (∃ x0 x1 x2 x3 x4 x5 x6 x7 x8 x9 x10, a' = { tmps := #[(.agg (vrow 266 s.at) : Value), (.slice (some ⟨D, 0, none⟩) n cap : Value), (.pointer (some ⟨w.heap.size, 0, none⟩) : Value), undef, (.pointer (some ⟨w.heap.size + 1, 0, none⟩) : Value), (.pointer (some ⟨d0, 0, none⟩) : Value), undef, (.pointer (some ⟨fb, 0, none⟩) : Value), (.agg (vrow 266 s.at) : Value), (.agg (vrow 267 (prA s 0)) : Value), (.slice (some ⟨D, 0, none⟩) n cap : Value), (.int .i64 n : Value), (.int .i64 k : Value), (.bool true : Value), (.pointer (some ⟨D, k * 3, none⟩) : Value), (.agg (vrow 3 (foAt (px k) (py k) (pn k))) : Value), x0, x1, x2, x3, x4, x5, x6, x7, x8, x9, x10, u27, undef], defers := [] }) ∧ W'.heap[d0]? = some (.cells (vrow 267 (prA S' (mv + n'))) 84) ∧ W'.heap[w.heap.size]? = some (.cells (vrow 266 s.at) 34) ∧ W'.heap[w.heap.size + 1]? = some (.cells (vrow 267 (prA Sh.zero 0)) 84) ∧ Below w.heap.size w W') ?_ ?_
        rotate_left
        · refine wp_region_held_drew (S := fun X => X.heap[w.heap.size]? = some (.cells (vrow 266 s.at) 34) ∧ X.heap[fb]? = some (.cells (vrow 3 (foAt (px k) (py k) (pn k))) 38) ∧ X.heap[w.heap.size + 1]? = some (.cells (vrow 267 (prA Sh.zero 0)) 84) ∧ Below w.heap.size w X) (by kernel_rfl) ⟨drwP P.out, drwP R.out, drwP Z.out, hB.out.drew⟩ (fun hH => ?_)
          replace V := drwP V.out
          clear hB P R Z
          generalize World.drew _ = W at hH V ⊢
          refine wpAnyH_take (i := 0) (v := (.pointer (some ⟨d0, 266, none⟩))) rfl (by kernel_rfl) (by kernel_rfl) (by kernel_rfl) (fun _ _ _ h => by cases h.1) (.inl ⟨by kernel_rfl, fun w hw => by go_simp⟩) hH ?_
          (try simp only [List.getElem_toArray, List.getElem_cons_succ, List.getElem_cons_zero, Act.put, List.setIfInBounds_toArray, List.set_cons_succ, List.set_cons_zero])
          refine wpAnyH_take (i := 2) (v := (.pointer (some ⟨d0, 0, none⟩))) rfl (by kernel_rfl) (by kernel_rfl) (by kernel_rfl) (fun _ _ _ h => by cases h.1) (.inl ⟨by kernel_rfl, fun w hw => by go_simp⟩) hH ?_
          (try simp only [List.getElem_toArray, List.getElem_cons_succ, List.getElem_cons_zero, Act.put, List.setIfInBounds_toArray, List.set_cons_succ, List.set_cons_zero])
          refine wpAnyH_take (i := 3) (v := (.agg (vrow 266 s.at))) rfl (by kernel_rfl) (by kernel_rfl) (by kernel_rfl) (fun _ _ _ h => by cases h.1) (yields_row (by kernel_rfl) 34 _ rfl w.heap.size rfl 266 s.at 34 _ Tryd.underlying34 rfl size_sheet (fun _ h => h.1)) hH ?_
          (try simp only [List.getElem_toArray, List.getElem_cons_succ, List.getElem_cons_zero, Act.put, List.setIfInBounds_toArray, List.set_cons_succ, List.set_cons_zero])
          refine wpAnyH_take (i := 4) (v := (.agg (vrow 3 (foAt (px k) (py k) (pn k))))) rfl (by kernel_rfl) (by kernel_rfl) (by kernel_rfl) (fun _ _ _ h => by cases h.1) (yields_row (by kernel_rfl) 38 _ rfl fb rfl 3 (foAt (px k) (py k) (pn k)) 38 _ Tryd.underlying38 rfl size_fold (fun _ h => h.2.1)) hH ?_
          (try simp only [List.getElem_toArray, List.getElem_cons_succ, List.getElem_cons_zero, Act.put, List.setIfInBounds_toArray, List.set_cons_succ, List.set_cons_zero])
          refine wpAnyH_take (i := 6) (v := (.pointer (some ⟨fb, 2, none⟩))) rfl (by kernel_rfl) (by kernel_rfl) (by kernel_rfl) (fun _ _ _ h => by cases h.1) (.inl ⟨by kernel_rfl, fun w hw => by go_simp⟩) hH ?_
          (try simp only [List.getElem_toArray, List.getElem_cons_succ, List.getElem_cons_zero, Act.put, List.setIfInBounds_toArray, List.set_cons_succ, List.set_cons_zero])
          refine wpAnyH_take (i := 7) (v := (.int .i8 (pn k))) rfl (by kernel_rfl) (by kernel_rfl) (by kernel_rfl) (fun _ _ _ h => by cases h.1) (yields_one (by kernel_rfl) 22 _ rfl fb 2 rfl 3 (foAt (px k) (py k) (pn k)) 38 _ Tryd.underlying22 rfl (by omega) (fun _ h => h.2.1)) hH ?_
          (try simp only [List.getElem_toArray, List.getElem_cons_succ, List.getElem_cons_zero, Act.put, List.setIfInBounds_toArray, List.set_cons_succ, List.set_cons_zero])
          refine wpAnyH_ready (rs := [1, 5]) (by kernel_rfl) (by simp) (AllReadyH.cons rfl (fun K hK => ?_) (AllReadyH.cons rfl (fun K hK => ?_) (AllReadyH.nil)))
          · rw [if_pos (by rfl)]
            unfold Oper.wp
            rw [run_ld1 2 _ rfl (d0) 266 rfl 267 _ 84 _ Tryd.underlying2 rfl (by omega) V (.int .i64 mv) (prA_266 _ mv), Oper.upon_value]
            refine hK.out _ _ hH (fun hH => ?_)
            clear hK K
            (try simp only [List.getElem_toArray, List.getElem_cons_succ, List.getElem_cons_zero, Act.put, List.setIfInBounds_toArray, List.set_cons_succ, List.set_cons_zero])
            refine wpAnyH_ready (rs := [5]) (by kernel_rfl) (by simp) (AllReadyH.cons rfl (fun K hK => ?_) (AllReadyH.nil))
            rw [if_pos (by rfl)]
            go_simp
            go_at_call 67
            refine (HP.out _).mono ?_
            rintro o X ⟨v, rfl, hO, hb⟩
            have hPO := own_pro hO
            have hvB := row_lt V
            replace hH : X.heap[w.heap.size]? = some (.cells (vrow 266 s.at) 34) ∧ X.heap[fb]? = some (.cells (vrow 3 (foAt (px k) (py k) (pn k))) 38) ∧ X.heap[w.heap.size + 1]? = some (.cells (vrow 267 (prA Sh.zero 0)) 84) ∧ Below w.heap.size w X := ⟨row_next hb hH.1, row_next hb hH.2.1, row_next hb hH.2.2.1, hH.2.2.2.trans (hb.mono hH.2.2.2.size)⟩
            replace V := row_next hb V
            clear hb hO
            refine hK.out _ _ hH (fun hH => ?_)
            clear hK K
            (try simp only [List.getElem_toArray, List.getElem_cons_succ, List.getElem_cons_zero, Act.put, List.setIfInBounds_toArray, List.set_cons_succ, List.set_cons_zero])
            refine wpAnyH_ready (rs := [8]) (by kernel_rfl) (by simp) (AllReadyH.cons rfl (fun K hK => ?_) (AllReadyH.nil))
            rw [if_pos (by rfl)]
            go_simp
            go_at_call 105
            refine (HS.out _ _ _ V hPO hvB).mono ?_
            rintro o Y ⟨rfl, hg1, hV⟩
            replace hH : Y.heap[w.heap.size]? = some (.cells (vrow 266 s.at) 34) ∧ Y.heap[fb]? = some (.cells (vrow 3 (foAt (px k) (py k) (pn k))) 38) ∧ Y.heap[w.heap.size + 1]? = some (.cells (vrow 267 (prA Sh.zero 0)) 84) ∧ Below w.heap.size w Y := ⟨((hg1.block _ (row_lt hH.1) (by simp; omega)).trans hH.1), ((hg1.block _ (row_lt hH.2.1) (by simp; omega)).trans hH.2.1), ((hg1.block _ (row_lt hH.2.2.1) (by simp; omega)).trans hH.2.2.1), below_grown hH.2.2.2 hg1 (by omega)⟩
            replace V := hV
            clear hg1 hV hPO
            refine hK.out _ _ hH (fun hH => ?_)
            clear hK K
            (try simp only [List.getElem_toArray, List.getElem_cons_succ, List.getElem_cons_zero, Act.put, List.setIfInBounds_toArray, List.set_cons_succ, List.set_cons_zero])
            refine wpAnyH_take (i := 9) (v := (.int .i64 (mv + n'))) rfl (by kernel_rfl) (by kernel_rfl) (by kernel_rfl) (fun _ _ _ h => by cases h.1) (.inl ⟨by kernel_rfl, fun w hw => by go_simp; (try exact hwm)⟩) hH ?_
            (try simp only [List.getElem_toArray, List.getElem_cons_succ, List.getElem_cons_zero, Act.put, List.setIfInBounds_toArray, List.set_cons_succ, List.set_cons_zero])
            refine wpAnyH_take (i := 10) (v := (.pointer (some ⟨d0, 266, none⟩))) rfl (by kernel_rfl) (by kernel_rfl) (by kernel_rfl) (fun _ _ _ h => by cases h.1) (.inl ⟨by kernel_rfl, fun w hw => by go_simp⟩) hH ?_
            (try simp only [List.getElem_toArray, List.getElem_cons_succ, List.getElem_cons_zero, Act.put, List.setIfInBounds_toArray, List.set_cons_succ, List.set_cons_zero])
            refine wpAnyH_ready (rs := [11]) (by kernel_rfl) (by simp) (AllReadyH.cons rfl (fun K hK => ?_) (AllReadyH.nil))
            rw [if_pos (by rfl)]
            unfold Oper.wp
            rw [run_store1 2 (.tmp 26) (.tmp 25) rfl (d0) 266 rfl 267 (prA S' mv) (.int .i64 (mv + n')) rfl 84 size_i64w V (by omega) rfl, prA_set, Oper.upon_skip]
            replace V := row_set V (vrow 267 (prA S' (mv + n')))
            have hH2 : (Y.setRow d0 (vrow 267 (prA S' (mv + n')))).heap[w.heap.size]? = some (.cells (vrow 266 s.at) 34) ∧ (Y.setRow d0 (vrow 267 (prA S' (mv + n')))).heap[fb]? = some (.cells (vrow 3 (foAt (px k) (py k) (pn k))) 38) ∧ (Y.setRow d0 (vrow 267 (prA S' (mv + n')))).heap[w.heap.size + 1]? = some (.cells (vrow 267 (prA Sh.zero 0)) 84) ∧ Below w.heap.size w (Y.setRow d0 (vrow 267 (prA S' (mv + n')))) := ⟨row_set' (g := d0) (by omega) hH.1 _, row_set' (g := d0) (by omega) hH.2.1 _, row_set' (g := d0) (by omega) hH.2.2.1 _, Below_setRow hH.2.2.2 (show w.heap.size ≤ d0 by omega) _⟩
            refine hK.out _ _ hH2 (fun hH => ?_)
            clear hK K hH2
            (try simp only [List.getElem_toArray, List.getElem_cons_succ, List.getElem_cons_zero, Act.put, List.setIfInBounds_toArray, List.set_cons_succ, List.set_cons_zero])
            refine wpAnyH_done (by kernel_rfl) ?_ _
            exact ⟨rfl, ⟨_, _, _, _, _, _, _, _, _, _, _, rfl⟩, V, hH.1, hH.2.2.1, hH.2.2.2⟩
          · rw [if_pos (by rfl)]
            go_simp
            go_at_call 67
            refine (HP.out _).mono ?_
            rintro o X ⟨v, rfl, hO, hb⟩
            have hPO := own_pro hO
            have hvB := row_lt V
            replace hH : X.heap[w.heap.size]? = some (.cells (vrow 266 s.at) 34) ∧ X.heap[fb]? = some (.cells (vrow 3 (foAt (px k) (py k) (pn k))) 38) ∧ X.heap[w.heap.size + 1]? = some (.cells (vrow 267 (prA Sh.zero 0)) 84) ∧ Below w.heap.size w X := ⟨row_next hb hH.1, row_next hb hH.2.1, row_next hb hH.2.2.1, hH.2.2.2.trans (hb.mono hH.2.2.2.size)⟩
            replace V := row_next hb V
            clear hb hO
            refine hK.out _ _ hH (fun hH => ?_)
            clear hK K
            (try simp only [List.getElem_toArray, List.getElem_cons_succ, List.getElem_cons_zero, Act.put, List.setIfInBounds_toArray, List.set_cons_succ, List.set_cons_zero])
            refine wpAnyH_ready (rs := [1, 8]) (by kernel_rfl) (by simp) (AllReadyH.cons rfl (fun K hK => ?_) (AllReadyH.cons rfl (fun K hK => ?_) (AllReadyH.nil)))
            · rw [if_pos (by rfl)]
              unfold Oper.wp
              rw [run_ld1 2 _ rfl (d0) 266 rfl 267 _ 84 _ Tryd.underlying2 rfl (by omega) V (.int .i64 mv) (prA_266 _ mv), Oper.upon_value]
              refine hK.out _ _ hH (fun hH => ?_)
              clear hK K
              (try simp only [List.getElem_toArray, List.getElem_cons_succ, List.getElem_cons_zero, Act.put, List.setIfInBounds_toArray, List.set_cons_succ, List.set_cons_zero])
              refine wpAnyH_ready (rs := [8]) (by kernel_rfl) (by simp) (AllReadyH.cons rfl (fun K hK => ?_) (AllReadyH.nil))
              rw [if_pos (by rfl)]
              go_simp
              go_at_call 105
              refine (HS.out _ _ _ V hPO hvB).mono ?_
              rintro o Y ⟨rfl, hg1, hV⟩
              replace hH : Y.heap[w.heap.size]? = some (.cells (vrow 266 s.at) 34) ∧ Y.heap[fb]? = some (.cells (vrow 3 (foAt (px k) (py k) (pn k))) 38) ∧ Y.heap[w.heap.size + 1]? = some (.cells (vrow 267 (prA Sh.zero 0)) 84) ∧ Below w.heap.size w Y := ⟨((hg1.block _ (row_lt hH.1) (by simp; omega)).trans hH.1), ((hg1.block _ (row_lt hH.2.1) (by simp; omega)).trans hH.2.1), ((hg1.block _ (row_lt hH.2.2.1) (by simp; omega)).trans hH.2.2.1), below_grown hH.2.2.2 hg1 (by omega)⟩
              replace V := hV
              clear hg1 hV hPO
              refine hK.out _ _ hH (fun hH => ?_)
              clear hK K
              (try simp only [List.getElem_toArray, List.getElem_cons_succ, List.getElem_cons_zero, Act.put, List.setIfInBounds_toArray, List.set_cons_succ, List.set_cons_zero])
              refine wpAnyH_take (i := 9) (v := (.int .i64 (mv + n'))) rfl (by kernel_rfl) (by kernel_rfl) (by kernel_rfl) (fun _ _ _ h => by cases h.1) (.inl ⟨by kernel_rfl, fun w hw => by go_simp; (try exact hwm)⟩) hH ?_
              (try simp only [List.getElem_toArray, List.getElem_cons_succ, List.getElem_cons_zero, Act.put, List.setIfInBounds_toArray, List.set_cons_succ, List.set_cons_zero])
              refine wpAnyH_take (i := 10) (v := (.pointer (some ⟨d0, 266, none⟩))) rfl (by kernel_rfl) (by kernel_rfl) (by kernel_rfl) (fun _ _ _ h => by cases h.1) (.inl ⟨by kernel_rfl, fun w hw => by go_simp⟩) hH ?_
              (try simp only [List.getElem_toArray, List.getElem_cons_succ, List.getElem_cons_zero, Act.put, List.setIfInBounds_toArray, List.set_cons_succ, List.set_cons_zero])
              refine wpAnyH_ready (rs := [11]) (by kernel_rfl) (by simp) (AllReadyH.cons rfl (fun K hK => ?_) (AllReadyH.nil))
              rw [if_pos (by rfl)]
              unfold Oper.wp
              rw [run_store1 2 (.tmp 26) (.tmp 25) rfl (d0) 266 rfl 267 (prA S' mv) (.int .i64 (mv + n')) rfl 84 size_i64w V (by omega) rfl, prA_set, Oper.upon_skip]
              replace V := row_set V (vrow 267 (prA S' (mv + n')))
              have hH2 : (Y.setRow d0 (vrow 267 (prA S' (mv + n')))).heap[w.heap.size]? = some (.cells (vrow 266 s.at) 34) ∧ (Y.setRow d0 (vrow 267 (prA S' (mv + n')))).heap[fb]? = some (.cells (vrow 3 (foAt (px k) (py k) (pn k))) 38) ∧ (Y.setRow d0 (vrow 267 (prA S' (mv + n')))).heap[w.heap.size + 1]? = some (.cells (vrow 267 (prA Sh.zero 0)) 84) ∧ Below w.heap.size w (Y.setRow d0 (vrow 267 (prA S' (mv + n')))) := ⟨row_set' (g := d0) (by omega) hH.1 _, row_set' (g := d0) (by omega) hH.2.1 _, row_set' (g := d0) (by omega) hH.2.2.1 _, Below_setRow hH.2.2.2 (show w.heap.size ≤ d0 by omega) _⟩
              refine hK.out _ _ hH2 (fun hH => ?_)
              clear hK K hH2
              (try simp only [List.getElem_toArray, List.getElem_cons_succ, List.getElem_cons_zero, Act.put, List.setIfInBounds_toArray, List.set_cons_succ, List.set_cons_zero])
              refine wpAnyH_done (by kernel_rfl) ?_ _
              exact ⟨rfl, ⟨_, _, _, _, _, _, _, _, _, _, _, rfl⟩, V, hH.1, hH.2.2.1, hH.2.2.2⟩
            · rw [if_pos (by rfl)]
              go_simp
              go_at_call 105
              refine (HS.out _ _ _ V hPO hvB).mono ?_
              rintro o Y ⟨rfl, hg1, hV⟩
              replace hH : Y.heap[w.heap.size]? = some (.cells (vrow 266 s.at) 34) ∧ Y.heap[fb]? = some (.cells (vrow 3 (foAt (px k) (py k) (pn k))) 38) ∧ Y.heap[w.heap.size + 1]? = some (.cells (vrow 267 (prA Sh.zero 0)) 84) ∧ Below w.heap.size w Y := ⟨((hg1.block _ (row_lt hH.1) (by simp; omega)).trans hH.1), ((hg1.block _ (row_lt hH.2.1) (by simp; omega)).trans hH.2.1), ((hg1.block _ (row_lt hH.2.2.1) (by simp; omega)).trans hH.2.2.1), below_grown hH.2.2.2 hg1 (by omega)⟩
              replace V := hV
              clear hg1 hV hPO
              refine hK.out _ _ hH (fun hH => ?_)
              clear hK K
              (try simp only [List.getElem_toArray, List.getElem_cons_succ, List.getElem_cons_zero, Act.put, List.setIfInBounds_toArray, List.set_cons_succ, List.set_cons_zero])
              refine wpAnyH_ready (rs := [1]) (by kernel_rfl) (by simp) (AllReadyH.cons rfl (fun K hK => ?_) (AllReadyH.nil))
              rw [if_pos (by rfl)]
              unfold Oper.wp
              rw [run_ld1 2 _ rfl (d0) 266 rfl 267 _ 84 _ Tryd.underlying2 rfl (by omega) V (.int .i64 mv) (prA_266 _ mv), Oper.upon_value]
              refine hK.out _ _ hH (fun hH => ?_)
              clear hK K
              (try simp only [List.getElem_toArray, List.getElem_cons_succ, List.getElem_cons_zero, Act.put, List.setIfInBounds_toArray, List.set_cons_succ, List.set_cons_zero])
              refine wpAnyH_take (i := 9) (v := (.int .i64 (mv + n'))) rfl (by kernel_rfl) (by kernel_rfl) (by kernel_rfl) (fun _ _ _ h => by cases h.1) (.inl ⟨by kernel_rfl, fun w hw => by go_simp; (try exact hwm)⟩) hH ?_
              (try simp only [List.getElem_toArray, List.getElem_cons_succ, List.getElem_cons_zero, Act.put, List.setIfInBounds_toArray, List.set_cons_succ, List.set_cons_zero])
              refine wpAnyH_take (i := 10) (v := (.pointer (some ⟨d0, 266, none⟩))) rfl (by kernel_rfl) (by kernel_rfl) (by kernel_rfl) (fun _ _ _ h => by cases h.1) (.inl ⟨by kernel_rfl, fun w hw => by go_simp⟩) hH ?_
              (try simp only [List.getElem_toArray, List.getElem_cons_succ, List.getElem_cons_zero, Act.put, List.setIfInBounds_toArray, List.set_cons_succ, List.set_cons_zero])
              refine wpAnyH_ready (rs := [11]) (by kernel_rfl) (by simp) (AllReadyH.cons rfl (fun K hK => ?_) (AllReadyH.nil))
              rw [if_pos (by rfl)]
              unfold Oper.wp
              rw [run_store1 2 (.tmp 26) (.tmp 25) rfl (d0) 266 rfl 267 (prA S' mv) (.int .i64 (mv + n')) rfl 84 size_i64w V (by omega) rfl, prA_set, Oper.upon_skip]
              replace V := row_set V (vrow 267 (prA S' (mv + n')))
              have hH2 : (Y.setRow d0 (vrow 267 (prA S' (mv + n')))).heap[w.heap.size]? = some (.cells (vrow 266 s.at) 34) ∧ (Y.setRow d0 (vrow 267 (prA S' (mv + n')))).heap[fb]? = some (.cells (vrow 3 (foAt (px k) (py k) (pn k))) 38) ∧ (Y.setRow d0 (vrow 267 (prA S' (mv + n')))).heap[w.heap.size + 1]? = some (.cells (vrow 267 (prA Sh.zero 0)) 84) ∧ Below w.heap.size w (Y.setRow d0 (vrow 267 (prA S' (mv + n')))) := ⟨row_set' (g := d0) (by omega) hH.1 _, row_set' (g := d0) (by omega) hH.2.1 _, row_set' (g := d0) (by omega) hH.2.2.1 _, Below_setRow hH.2.2.2 (show w.heap.size ≤ d0 by omega) _⟩
              refine hK.out _ _ hH2 (fun hH => ?_)
              clear hK K hH2
              (try simp only [List.getElem_toArray, List.getElem_cons_succ, List.getElem_cons_zero, Act.put, List.setIfInBounds_toArray, List.set_cons_succ, List.set_cons_zero])
              refine wpAnyH_done (by kernel_rfl) ?_ _
              exact ⟨rfl, ⟨_, _, _, _, _, _, _, _, _, _, _, rfl⟩, V, hH.1, hH.2.2.1, hH.2.2.2⟩
        rintro e1 a1 W5 ⟨rfl, ⟨x0, x1, x2, x3, x4, x5, x6, x7, x8, x9, x10, rfl⟩, V, P, Z, hB⟩
        go_wp2
        go_roundw
        case rel => exact ⟨_, _, _, _, _, _, _, _, _, _, _, _, _, _, _, _, _, ⟨k + 1, by omega, by go_num, by rw [hst.out]; exact V, P, Z, hB⟩, rfl⟩
        case measure => simp [intOf]; omega
      · skip
        obtain rfl : k = q := by omega
        have HP := Go.Lib.hid fun w => pairs_bad s (px k) (py k) (pn k) w hf (by rw [hno]; simp)
        obtain ⟨U, hU⟩ : ∃ U, prF s a c px py pn k = U := ⟨_, rfl⟩
        rw [hU] at V
        clear hU
        obtain ⟨S, mv⟩ := U
        dsimp only at *
        replace P := Go.Lib.hid P; replace Z := Go.Lib.hid Z; replace V := Go.Lib.hid V; replace hB := Go.Lib.hid hB
        go_wp2_with (first
          | go_skip
          | ((with_reducible refine wlAt 15 rfl ?_); refine wpList_loadmid rfl 38 (.tmp 14) rfl D (k * 3) rfl N 3 F 38 _ Tryd.underlying38 rfl size_fold Gr.out (by omega) ?_; rw [HR.out])
          | ((with_reducible refine wlOp (.store 38 (.tmp 7) (.tmp 15)) rfl ?_); refine wpList_storeall rfl 38 (.tmp 7) (.tmp 15) rfl _ rfl 3 (foAt 0 false 0) (foAt (px k) (py k) (pn k)) rfl 38 size_fold (heap_at _ _ _ rfl) (fun i _ => foAt_one _ _ _ i) ?_; rw [setRow_at _ _ _ _ _ rfl]; have R := Go.Lib.hid (heap_at wr (.cells (vrow 3 (foAt (px k) (py k) (pn k))) 38) _ rfl); replace P := Go.Lib.hid (heap_past wr (.cells (vrow 3 (foAt (px k) (py k) (pn k))) 38) _ _ (row_lt P.out) P.out); replace Z := Go.Lib.hid (heap_past wr (.cells (vrow 3 (foAt (px k) (py k) (pn k))) 38) _ _ (row_lt Z.out) Z.out); replace V := Go.Lib.hid (heap_past wr (.cells (vrow 3 (foAt (px k) (py k) (pn k))) 38) _ _ (row_lt V.out) V.out); replace hB := Go.Lib.hid (hB.out.alloc hB.out.size (.cells (vrow 3 (foAt (px k) (py k) (pn k))) 38)); obtain ⟨fb, hfb⟩ : ∃ z, wr.heap.size = z := ⟨_, rfl⟩; rw [hfb] at R hvl ⊢; generalize World.alloc wr _ = W1 at P Z V R hB ⊢; clear hfb Gr HR))
        refine Code.wp_mono (Q := fun e a' W' => e = .panic [{ v := .iface 179 (.agg #[.int .i8 (px k), .bool (py k), .int .i8 (pn k)]), recovered := false }] ∧ a'.defers = [] ∧ Below w.heap.size w W') ?_ ?_
        rotate_left
        · refine wp_region_held_drew (S := fun X => X.heap[w.heap.size]? = some (.cells (vrow 266 s.at) 34) ∧ X.heap[fb]? = some (.cells (vrow 3 (foAt (px k) (py k) (pn k))) 38) ∧ X.heap[w.heap.size + 1]? = some (.cells (vrow 267 (prA Sh.zero 0)) 84) ∧ Below w.heap.size w X) (by kernel_rfl) ⟨drwP P.out, drwP R.out, drwP Z.out, hB.out.drew⟩ (fun hH => ?_)
          replace V := drwP V.out
          clear hB P R Z
          generalize World.drew _ = W at hH V ⊢
          refine wpAnyH_take (i := 0) (v := (.pointer (some ⟨d0, 266, none⟩))) rfl (by kernel_rfl) (by kernel_rfl) (by kernel_rfl) (fun _ _ _ h => h) (.inl ⟨by kernel_rfl, fun w hw => by go_simp⟩) hH ?_
          (try simp only [List.getElem_toArray, List.getElem_cons_succ, List.getElem_cons_zero, Act.put, List.setIfInBounds_toArray, List.set_cons_succ, List.set_cons_zero])
          refine wpAnyH_take (i := 2) (v := (.pointer (some ⟨d0, 0, none⟩))) rfl (by kernel_rfl) (by kernel_rfl) (by kernel_rfl) (fun _ _ _ h => h) (.inl ⟨by kernel_rfl, fun w hw => by go_simp⟩) hH ?_
          (try simp only [List.getElem_toArray, List.getElem_cons_succ, List.getElem_cons_zero, Act.put, List.setIfInBounds_toArray, List.set_cons_succ, List.set_cons_zero])
          refine wpAnyH_take (i := 3) (v := (.agg (vrow 266 s.at))) rfl (by kernel_rfl) (by kernel_rfl) (by kernel_rfl) (fun _ _ _ h => h) (yields_row (by kernel_rfl) 34 _ rfl w.heap.size rfl 266 s.at 34 _ Tryd.underlying34 rfl size_sheet (fun _ h => h.1)) hH ?_
          (try simp only [List.getElem_toArray, List.getElem_cons_succ, List.getElem_cons_zero, Act.put, List.setIfInBounds_toArray, List.set_cons_succ, List.set_cons_zero])
          refine wpAnyH_take (i := 4) (v := (.agg (vrow 3 (foAt (px k) (py k) (pn k))))) rfl (by kernel_rfl) (by kernel_rfl) (by kernel_rfl) (fun _ _ _ h => h) (yields_row (by kernel_rfl) 38 _ rfl fb rfl 3 (foAt (px k) (py k) (pn k)) 38 _ Tryd.underlying38 rfl size_fold (fun _ h => h.2.1)) hH ?_
          (try simp only [List.getElem_toArray, List.getElem_cons_succ, List.getElem_cons_zero, Act.put, List.setIfInBounds_toArray, List.set_cons_succ, List.set_cons_zero])
          refine wpAnyH_take (i := 6) (v := (.pointer (some ⟨fb, 2, none⟩))) rfl (by kernel_rfl) (by kernel_rfl) (by kernel_rfl) (fun _ _ _ h => h) (.inl ⟨by kernel_rfl, fun w hw => by go_simp⟩) hH ?_
          (try simp only [List.getElem_toArray, List.getElem_cons_succ, List.getElem_cons_zero, Act.put, List.setIfInBounds_toArray, List.set_cons_succ, List.set_cons_zero])
          refine wpAnyH_take (i := 7) (v := (.int .i8 (pn k))) rfl (by kernel_rfl) (by kernel_rfl) (by kernel_rfl) (fun _ _ _ h => h) (yields_one (by kernel_rfl) 22 _ rfl fb 2 rfl 3 (foAt (px k) (py k) (pn k)) 38 _ Tryd.underlying22 rfl (by omega) (fun _ h => h.2.1)) hH ?_
          (try simp only [List.getElem_toArray, List.getElem_cons_succ, List.getElem_cons_zero, Act.put, List.setIfInBounds_toArray, List.set_cons_succ, List.set_cons_zero])
          refine wpAnyH_ready (rs := [1, 5]) (by kernel_rfl) (by simp) (AllReadyH.cons rfl (fun K hK => ?_) (AllReadyH.cons rfl (fun K hK => ?_) (AllReadyH.nil)))
          · rw [if_pos (by rfl)]
            unfold Oper.wp
            rw [run_ld1 2 _ rfl (d0) 266 rfl 267 _ 84 _ Tryd.underlying2 rfl (by omega) V (.int .i64 mv) (prA_266 _ mv), Oper.upon_value]
            refine hK.out _ _ hH (fun hH => ?_)
            clear hK K
            (try simp only [List.getElem_toArray, List.getElem_cons_succ, List.getElem_cons_zero, Act.put, List.setIfInBounds_toArray, List.set_cons_succ, List.set_cons_zero])
            refine wpAnyH_ready (rs := [5]) (by kernel_rfl) (by simp) (AllReadyH.cons rfl (fun K hK => ?_) (AllReadyH.nil))
            rw [if_pos (by rfl)]
            go_simp
            go_at_call 67
            refine (HP.out _).mono ?_
            rintro o X ⟨rfl, hb⟩
            exact ⟨rfl, hH.2.2.2.trans (hb.mono hH.2.2.2.size)⟩
          · rw [if_pos (by rfl)]
            go_simp
            go_at_call 67
            refine (HP.out _).mono ?_
            rintro o X ⟨rfl, hb⟩
            exact ⟨rfl, hH.2.2.2.trans (hb.mono hH.2.2.2.size)⟩
        rintro e1 a1 W1 ⟨rfl, hd, hB1⟩
        exact ⟨hd, rfl, hB1⟩
    · omega
end Go.Proofs.YtmcpaangofdmpaaDoor
