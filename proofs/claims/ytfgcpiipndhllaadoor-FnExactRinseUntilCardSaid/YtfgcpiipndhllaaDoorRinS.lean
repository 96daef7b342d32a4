import Derived.Deep.RegionHeld3
import Derived.Test.YtfgcpiipndhllaaDoorRinM
import Derived.Test.YtfgcpiipndhllaaDoorSpots
import Derived.Test.YtfgcpiipndhllaaDoorG1
namespace Go.Proofs.YtfgcpiipndhllaaDoor
open Go.RowKit
set_option maxRecDepth 100000
set_option linter.unusedVariables false
set_option linter.unusedSimpArgs false
theorem grown_new {W W1 : World} {row : Option Nat} {g : Nat} (h : W.grownBy W1 row) (hg : W.heap.size ≤ g) (cs : Array Value) : W.grownBy (W1.setRow g cs) row :=
  ⟨h.os, h.tape, h.output, by simpa using h.size, fun k hk hne => (setRow_other W1 g k cs (by omega)).trans (h.block k hk hne)⟩
theorem drwS {w : World} {b : Nat} {x : Obj} (h : w.heap[b]? = some x) : w.drew.heap[b]? = some x := h
theorem rpart_norm {d k : Int} (h1 : 0 ≤ d ∧ d ≤ 1000) (m1 : 0 ≤ d * k) (m2 : d * k ≤ 15 * d) : IntKind.i64.wrap ((IntKind.i64.wrap (IntKind.i64.wrap (IntKind.i64.wrap d * k) + 15)).tdiv 16) = rpart k d := by
  rw [IntWalk.i64_in d (by omega), IntWalk.i64_in (d * k) (by omega), IntWalk.i64_in (d * k + 15) (by omega)]
  first
    | (rw [IntWalk.i64_quo (d * k + 15) 16 (by omega)]; rfl)
    | (rw [Int.tdiv_eq_ediv_of_nonneg (by omega), IntWalk.i64_in ((d * k + 15) / 16) (by omega)]; rfl)
theorem sub_norm {d r : Int} (h1 : 0 ≤ d ∧ d ≤ 1000) (m1 : 0 ≤ r) (m2 : r ≤ d) : IntKind.i16.wrap (d - IntKind.i16.wrap r) = d - r := by
  rw [IntWalk.i16_in r (by omega), IntWalk.i16_in (d - r) (by omega)]
theorem add_norm {d r : Int} (h1 : 0 ≤ d ∧ d ≤ 1000000) (m1 : 0 ≤ r) (m2 : r ≤ 1000) : IntKind.i64.wrap (d + r) = d + r := IntWalk.i64_in (d + r) (by omega)
set_option maxHeartbeats 8000000 in
theorem lrinse_any (s : Sh) (b a c : Nat) (k : Int) (w : World) (hs : w.heap[b]? = some (.cells (vrow 266 s.at) 36)) (ea : s.wide = a) (ec : s.high = c) (ha : 1 ≤ a ∧ a ≤ 8) (hc : 1 ≤ c ∧ c ≤ 8) (hgd : Gd s s) (h1 : 1 ≤ k) (h2 : k ≤ 15) :
    Calls Tryd.prog 68 #[.pointer (some ⟨b, 0, none⟩), .int .i64 k] w fun e w' => e = .returned (.agg (vrow 3 (a3f (rinS k (s, fun _ => 0) (cellsL a c)).2))) ∧ w.grownBy w' (some b) ∧ w'.heap[b]? = some (.cells (vrow 266 (rinS k (s, fun _ => 0) (cellsL a c)).1.at) 36) := by
  have HSp := Go.Lib.hid fun b w hs => spots_any s b a c w hs ea ec ha.2 hc.2
  have hn : (cellsL a c).length = a * c := cellsL_length a c
  have hac : 1 ≤ a * c ∧ a * c ≤ 64 := ⟨Nat.mul_le_mul ha.1 hc.1, Nat.mul_le_mul ha.2 hc.2⟩
  rw [← hn] at hac
  have HG := Go.Lib.hid fun q => RinG.cells h1 h2 ((cellsL a c).take q) (RinG.start hgd fun _ => 0)
  have HI := Go.Lib.hid hgd.ink
  generalize cellsL a c = L at *
  clear hn ea ec ha hc hgd
  have zz := zero_i3
  have hbs := row_lt hs
  have P : Hid (((w.alloc (.cells (vrow 3 fun _ => .int .i64 0) 40)).alloc (.cells (vrow 3 fun _ => .int .i64 0) 40)).heap[b]? = some (.cells (vrow 266 s.at) 36)) := heap_past _ _ _ _ (by simp; omega) (heap_past _ _ _ _ hbs hs)
  have Z : Hid (((w.alloc (.cells (vrow 3 fun _ => .int .i64 0) 40)).alloc (.cells (vrow 3 fun _ => .int .i64 0) 40)).heap[w.heap.size]? = some (.cells (vrow 3 fun _ => .int .i64 0) 40)) := heap_past _ _ _ _ (by simp) (heap_at _ _ _ (by simp))
  have D : Hid (((w.alloc (.cells (vrow 3 fun _ => .int .i64 0) 40)).alloc (.cells (vrow 3 fun _ => .int .i64 0) 40)).heap[w.heap.size + 1]? = some (.cells (vrow 3 fun _ => .int .i64 0) 40)) := heap_at _ _ _ (by simp)
  have hG : Hid (w.grownBy ((w.alloc (.cells (vrow 3 fun _ => .int .i64 0) 40)).alloc (.cells (vrow 3 fun _ => .int .i64 0) 40)) (some b)) := grown_next (grown_refl w _) (((Below.refl _ _).alloc (Nat.le_refl _) _).alloc (by simp) _)
  clear hs
  go_enter Tryd.func68, Tryd.ntmps68
  go_wp2_with (first
    | go_skip
    | (with_reducible refine wlAt 11 rfl ?_; refine wpList_built rfl 40 [] rfl [] (by rfl) _ built_zi3 ?_)
    | ((with_reducible refine wlOp (.store 40 (.tmp 5) (.tmp 11)) rfl ?_); refine wpList_storeall rfl 40 (.tmp 5) (.tmp 11) rfl (w.heap.size + 1) rfl 3 (fun _ => .int .i64 0) (fun _ => .int .i64 0) rfl 40 size_i3 D.out (fun _ _ => rfl) ?_; replace P := Go.Lib.hid (row_set' (g := w.heap.size + 1) (show b ≠ w.heap.size + 1 by omega) P.out (vrow 3 fun _ => .int .i64 0)); replace Z := Go.Lib.hid (row_set' (g := w.heap.size + 1) (show w.heap.size ≠ w.heap.size + 1 by omega) Z.out (vrow 3 fun _ => .int .i64 0)); replace D := Go.Lib.hid (row_set D.out (vrow 3 fun _ => .int .i64 0)); replace hG := Go.Lib.hid (grown_new hG.out (show w.heap.size ≤ w.heap.size + 1 by omega) (vrow 3 fun _ => .int .i64 0)))
    | (go_at_call 56; (refine (HSp.out _ _ P.out).mono ?_; rintro e w1 ⟨v, rfl, hO, hb⟩; have nD := row_lt D.out; replace P := Go.Lib.hid (row_next hb P.out); replace Z := Go.Lib.hid (row_next hb Z.out); replace D := Go.Lib.hid (row_next hb D.out); replace hG := Go.Lib.hid (grown_next hG.out hb))))
  obtain ⟨g, cap, f, rfl, hg, hcap, hO2, hf2⟩ := hO.row (by omega)
  have G := Go.Lib.hid hO2; have HF := Go.Lib.hid hf2
  have hgB : w.heap.size + 2 ≤ g := by omega
  clear hO hO2 hf2 hb hg nD
  have hgb : b ≠ g := by omega
  obtain ⟨wo, hwo⟩ : ∃ wo : World, wo = w1 := ⟨_, rfl⟩
  rw [← hwo] at P Z D hG G ⊢
  clear hwo w1
  rw [a3f_zero] at D
  go_loopw [7] (fun iv wr => ∃ q : Nat, q ≤ L.length ∧ iv = .int .i64 q ∧ wr.heap[b]? = some (.cells (vrow 266 (rinS k (s, fun _ => 0) (L.take q)).1.at) 36) ∧ wr.heap[w.heap.size]? = some (.cells (vrow 3 fun _ => .int .i64 0) 40) ∧ wr.heap[w.heap.size + 1]? = some (.cells (vrow 3 (a3f (rinS k (s, fun _ => 0) (L.take q)).2)) 40) ∧ wr.heap[g]? = some (.cells (vrow (cap * 2) f) 33) ∧ w.grownBy wr (some b)) (fun iv _ => L.length - (intOf iv).toNat)
  case atStart => exact ⟨0, by omega, rfl, P.out, Z.out, D.out, G.out, hG.out⟩
  case round =>
    clear P Z D G hG
    obtain ⟨q, hq, rfl, P, Z, D, G, hG⟩ := hrel
    have hrg := HG.out q
    replace P := Go.Lib.hid P; replace Z := Go.Lib.hid Z; replace D := Go.Lib.hid D; replace G := Go.Lib.hid G; replace hG := Go.Lib.hid hG
    by_cases hlt : q < L.length
    · have hst : rinS k (s, fun _ => 0) (L.take (q + 1)) = rinC k (rinS k (s, fun _ => 0) (L.take q)) (L[q]'hlt) := by
        unfold rinS; rw [List.take_succ_eq_append_getElem hlt, List.foldl_append]; rfl
      have HFk := HF.out q hlt
      have HR := Go.Lib.hid (row_spot f (q * 2) (L[q]'hlt) HFk)
      obtain ⟨⟨⟨x, y⟩, hx, hy⟩, hp⟩ : ∃ p, L[q]'hlt = p := ⟨_, rfl⟩
      rw [hp] at hst HR
      clear hp HFk
      replace hx : x < 8 := hx
      replace hy : y < 8 := hy
      have HRV : Hid (vrow 2 (fun i => f (q * 2 + i)) = vrow 2 (spAt x y)) := HR
      replace hst : rinS k (s, fun _ => 0) (L.take (q + 1)) = rinN k (24 * y + 3 * x) (rinS k (s, fun _ => 0) (L.take q)) 3 := hst
      have HST := Go.Lib.hid hst
      have HRG := Go.Lib.hid fun n hn => RinG.ink hrg h1 h2 hx hy n hn
      clear hst hrg HR
      generalize rinS k (s, fun _ => 0) (L.take q) = T at P D HST HRG
      have hxI : (x : Int) < 8 := by omega
      have hyI : (y : Int) < 8 := by omega
      have hqI : (q : Int) < (L.length : Int) := by omega
      have hq0 : (0 : Int) ≤ (q : Int) := by omega
      have hqd : decide ((q : Int) < (L.length : Int)) = true := by simpa using hqI
      have zs := zero_spot
      go_wp2_with (first
        | go_skip
        | (with_reducible refine wlAt 23 rfl ?_; refine wpList_loadmid rfl 33 (.tmp 22) rfl g (q * 2) rfl (cap * 2) 2 f 33 _ Tryd.underlying33 rfl size_spot G.out (by omega) ?_; rw [HRV.out])
        | ((with_reducible refine wlOp (.store 33 (.tmp 8) (.tmp 23)) rfl ?_); refine wpList_storeall rfl 33 (.tmp 8) (.tmp 23) rfl _ rfl 2 (spAt 0 0) (spAt x y) rfl 33 size_spot (heap_at _ _ _ rfl) (fun i _ => spAt_one _ _ i) ?_; rw [setRow_at _ _ _ _ _ rfl]; have R := Go.Lib.hid (heap_at wr (.cells (vrow 2 (spAt x y)) 33) _ rfl); have nP := row_lt P.out; have nZ := row_lt Z.out; have nD := row_lt D.out; have nG := row_lt G.out; replace P := Go.Lib.hid (heap_past _ (.cells (vrow 2 (spAt x y)) 33) _ _ nP P.out); replace Z := Go.Lib.hid (heap_past _ (.cells (vrow 2 (spAt x y)) 33) _ _ nZ Z.out); replace D := Go.Lib.hid (heap_past _ (.cells (vrow 2 (spAt x y)) 33) _ _ nD D.out); replace G := Go.Lib.hid (heap_past _ (.cells (vrow 2 (spAt x y)) 33) _ _ nG G.out); replace hG := Go.Lib.hid (grown_next hG.out ((Below.refl _ wr).alloc (Nat.le_refl _) (.cells (vrow 2 (spAt x y)) 33))); generalize wr.heap.size = rb at R nP nZ nD nG ⊢; generalize wr.alloc _ = w3 at P Z D G R hG ⊢))
      go_loopw [9] (fun iv wr => ∃ i : Nat, i ≤ 3 ∧ iv = .int .i64 i ∧ wr.heap[b]? = some (.cells (vrow 266 (rinN k (24 * y + 3 * x) T i).1.at) 36) ∧ wr.heap[w.heap.size]? = some (.cells (vrow 3 fun _ => .int .i64 0) 40) ∧ wr.heap[w.heap.size + 1]? = some (.cells (vrow 3 (a3f (rinN k (24 * y + 3 * x) T i).2)) 40) ∧ wr.heap[g]? = some (.cells (vrow (cap * 2) f) 33) ∧ wr.heap[rb]? = some (.cells (vrow 2 (spAt x y)) 33) ∧ w.grownBy wr (some b)) (fun iv _ => 3 - (intOf iv).toNat)
      case atStart => exact ⟨0, by omega, rfl, P.out, Z.out, D.out, G.out, R.out, hG.out⟩
      case round =>
        clear P Z D G R hG
        obtain ⟨i, hi, rfl, P, Z, D, G, R, hG⟩ := hrel
        replace P := Go.Lib.hid P; replace Z := Go.Lib.hid Z; replace D := Go.Lib.hid D; replace G := Go.Lib.hid G; replace R := Go.Lib.hid R; replace hG := Go.Lib.hid hG
        by_cases hlti : i < 3
        · have hiI : (i : Int) < 3 := by omega
          have hrg := HRG.out i hi
          obtain ⟨d1, d2⟩ := hrg.gd.ink (24 * y + 3 * x + i)
          obtain ⟨o1, o2⟩ := hrg.bd hlti HI.out
          obtain ⟨r1, r2, m1, m2, _⟩ := rpart_bd h1 h2 d1
          have hs1 : rinN k (24 * y + 3 * x) T (i + 1) = ((rinN k (24 * y + 3 * x) T i).1.pd (24 * y + 3 * x + i) ((rinN k (24 * y + 3 * x) T i).1.dye (24 * y + 3 * x + i) - rpart k ((rinN k (24 * y + 3 * x) T i).1.dye (24 * y + 3 * x + i))), fun m => if m = i then (rinN k (24 * y + 3 * x) T i).2 m + rpart k ((rinN k (24 * y + 3 * x) T i).1.dye (24 * y + 3 * x + i)) else (rinN k (24 * y + 3 * x) T i).2 m) := rfl
          have HS1 := Go.Lib.hid hs1
          clear hs1 hrg
          generalize rinN k (24 * y + 3 * x) T i = U at P D HS1 o1 o2 d1 d2 r1 r2 m1 m2
          obtain ⟨U, oo⟩ := U
          have hu : ∃ d, U.dye (24 * y + 3 * x + i) = d := ⟨_, rfl⟩
          obtain ⟨d, hu⟩ := hu
          dsimp only at P D HS1 o1 o2 d1 d2 r1 r2 m1 m2
          rw [hu] at HS1 d1 d2 r1 r2 m1 m2
          have HU := Go.Lib.hid hu
          clear hu
          have hrp : (d * k + 15) / 16 = rpart k d := rfl
          have HRP := Go.Lib.hid hrp
          clear hrp
          go_wp2
          refine wp_region_still_lit (by kernel_rfl) (by kernel_rfl) ?_
          simp only [World.drew_eq]
          repeat (first
            | (refine wpStill_load1 rfl 22 (.tmp 29) rfl rb 1 rfl 2 (spAt x y) _ _ Tryd.underlying22 rfl R.out (by omega) ?_; rw [spAt_1]; simp only [Act.put, List.setIfInBounds_toArray, List.set_cons_succ, List.set_cons_zero])
            | (refine wpStill_load1 rfl 22 (.tmp 31) rfl rb 0 rfl 2 (spAt x y) _ _ Tryd.underlying22 rfl R.out (by omega) ?_; rw [spAt_0]; simp only [Act.put, List.setIfInBounds_toArray, List.set_cons_succ, List.set_cons_zero])
            | (refine wpStill_load1 rfl 23 (.tmp 38) rfl b _ rfl 266 U.at _ _ Tryd.underlying23 rfl P.out (by omega) ?_; rw [Sh.at_dye1 _ _ (24 * y + 3 * x + i) (by omega) (by omega), HU.out]; simp only [Act.put, List.setIfInBounds_toArray, List.set_cons_succ, List.set_cons_zero])
            | still_step
            | (refine wpStill_step (fun K hK => ?_); go_simp; simp only [hxI, hyI, hiI, if_true]; go_simp; refine hK _ ?_; clear hK K))
          refine wpStill_nil ?_
          replace P := Go.Lib.hid (drwS P.out); replace Z := Go.Lib.hid (drwS Z.out); replace D := Go.Lib.hid (drwS D.out); replace G := Go.Lib.hid (drwS G.out); replace R := Go.Lib.hid (drwS R.out); replace hG := Go.Lib.hid (grown_drew hG.out)
          generalize World.drew _ = w4 at P Z D G R hG ⊢
          rw [rpart_norm ⟨d1, d2⟩ m1 m2]
          go_wp2
          refine wp_region_still_tail 20 (by kernel_rfl) (by kernel_rfl) ?_
          simp only [List.take_succ_cons, List.take_zero, List.drop_succ_cons, List.drop_zero, World.drew_eq]
          repeat (first
            | (refine wpStill_load1 rfl 22 (.tmp 46) rfl rb 1 rfl 2 (spAt x y) _ _ Tryd.underlying22 rfl R.out (by omega) ?_; rw [spAt_1]; simp only [Act.put, List.setIfInBounds_toArray, List.set_cons_succ, List.set_cons_zero])
            | (refine wpStill_load1 rfl 22 (.tmp 48) rfl rb 0 rfl 2 (spAt x y) _ _ Tryd.underlying22 rfl R.out (by omega) ?_; rw [spAt_0]; simp only [Act.put, List.setIfInBounds_toArray, List.set_cons_succ, List.set_cons_zero])
            | (refine wpStill_load1 rfl 23 (.tmp 55) rfl b _ rfl 266 U.at _ _ Tryd.underlying23 rfl P.out (by omega) ?_; rw [Sh.at_dye1 _ _ (24 * y + 3 * x + i) (by omega) (by omega), HU.out]; simp only [Act.put, List.setIfInBounds_toArray, List.set_cons_succ, List.set_cons_zero])
            | still_step
            | (refine wpStill_step (fun K hK => ?_); go_simp; simp only [hxI, hyI, hiI, if_true]; go_simp; refine hK _ ?_; clear hK K))
          refine wpStill_nil ?_
          replace P := Go.Lib.hid (drwS P.out); replace Z := Go.Lib.hid (drwS Z.out); replace D := Go.Lib.hid (drwS D.out); replace G := Go.Lib.hid (drwS G.out); replace R := Go.Lib.hid (drwS R.out); replace hG := Go.Lib.hid (grown_drew hG.out)
          generalize World.drew _ = w5 at P Z D G R hG ⊢
          refine wpList_store1 rfl 23 (.tmp 64) (.tmp 59) rfl b _ rfl 266 U.at (.int .i16 (d - rpart k d)) (by rw [← sub_norm ⟨d1, d2⟩ r1 r2]; rfl) 36 size_i16 P.out (by omega) rfl ?_
          rw [Sh.pd_at _ _ (24 * y + 3 * x + i) (by omega) (by omega)]
          replace Z := Go.Lib.hid (row_set' (g := b) (show w.heap.size ≠ b by omega) Z.out (vrow 266 (U.pd (24 * y + 3 * x + i) (d - rpart k d)).at))
          replace D := Go.Lib.hid (row_set' (g := b) (show w.heap.size + 1 ≠ b by omega) D.out (vrow 266 (U.pd (24 * y + 3 * x + i) (d - rpart k d)).at))
          replace G := Go.Lib.hid (row_set' (g := b) (show g ≠ b by omega) G.out (vrow 266 (U.pd (24 * y + 3 * x + i) (d - rpart k d)).at))
          replace R := Go.Lib.hid (row_set' (g := b) (show rb ≠ b by omega) R.out (vrow 266 (U.pd (24 * y + 3 * x + i) (d - rpart k d)).at))
          replace P := Go.Lib.hid (row_set P.out (vrow 266 (U.pd (24 * y + 3 * x + i) (d - rpart k d)).at))
          replace hG := Go.Lib.hid (grown_set hG.out (vrow 266 (U.pd (24 * y + 3 * x + i) (d - rpart k d)).at))
          have hon := add_norm ⟨o1, (show oo i ≤ 1000000 by omega)⟩ r1 (by omega)
          have HON := Go.Lib.hid hon
          clear hon
          go_wp2_with (first
            | go_skip
            | ((with_reducible refine wlAt 67 rfl ?_); refine wpList_load1 rfl 2 (.tmp 66) rfl (w.heap.size + 1) i rfl 3 (a3f oo) _ _ Tryd.underlying2 rfl D.out (by omega) ?_; rw [show a3f oo i = .int .i64 (oo i) from rfl])
            | ((with_reducible refine wlOp (.store 2 (.tmp 70) (.tmp 69)) rfl ?_); refine wpList_store1 rfl 2 (.tmp 70) (.tmp 69) rfl (w.heap.size + 1) i rfl 3 (a3f oo) (.int .i64 (oo i + rpart k d)) (by rw [← HON.out]; rfl) 40 size_i64c D.out (by omega) rfl ?_; rw [a3f_set]; replace P := Go.Lib.hid (row_set' (g := w.heap.size + 1) (show b ≠ w.heap.size + 1 by omega) P.out (vrow 3 (a3f fun m => if m = i then oo i + rpart k d else oo m))); replace Z := Go.Lib.hid (row_set' (g := w.heap.size + 1) (show w.heap.size ≠ w.heap.size + 1 by omega) Z.out (vrow 3 (a3f fun m => if m = i then oo i + rpart k d else oo m))); replace G := Go.Lib.hid (row_set' (g := w.heap.size + 1) (show g ≠ w.heap.size + 1 by omega) G.out (vrow 3 (a3f fun m => if m = i then oo i + rpart k d else oo m))); replace R := Go.Lib.hid (row_set' (g := w.heap.size + 1) (show rb ≠ w.heap.size + 1 by omega) R.out (vrow 3 (a3f fun m => if m = i then oo i + rpart k d else oo m))); replace D := Go.Lib.hid (row_set D.out (vrow 3 (a3f fun m => if m = i then oo i + rpart k d else oo m))); replace hG := Go.Lib.hid (grown_new hG.out (show w.heap.size ≤ w.heap.size + 1 by omega) (vrow 3 (a3f fun m => if m = i then oo i + rpart k d else oo m)))))
          go_roundw
          case rel =>
            refine ⟨i + 1, by omega, by go_num, ?_, Z.out, ?_, G.out, R.out, hG.out⟩
            · rw [HS1.out]; exact P.out
            · rw [HS1.out]
              have e : vrow 3 (a3f fun m => if m = i then oo m + rpart k d else oo m) = vrow 3 (a3f fun m => if m = i then oo i + rpart k d else oo m) := vrow_ext _ _ _ fun m _ => by
                unfold a3f
                dsimp only
                split
                · rename_i e; rw [e]
                · rfl
              dsimp only
              rw [e]; exact D.out
          case measure => simp [intOf]; omega
        · obtain rfl : i = 3 := by omega
          rw [← HST.out] at P D
          clear HST HRG
          go_wp2
          go_roundw
          case rel => exact ⟨q + 1, by omega, by go_num, P.out, Z.out, D.out, G.out, hG.out⟩
          case measure => simp [intOf]; omega
    · obtain rfl : q = L.length := by omega
      have hqd : decide ((L.length : Int) < (L.length : Int)) = false := by simp
      rw [List.take_length] at P D
      clear hrg HG
      obtain ⟨T, hT⟩ : ∃ T, rinS k (s, fun _ => 0) L = T := ⟨_, rfl⟩
      rw [hT] at P D
      replace hT := Go.Lib.hid hT
      go_wp2_with (first
        | go_skip
        | ((with_reducible refine wlAt 71 rfl ?_); refine wpList_loadall rfl 40 (.tmp 5) rfl _ rfl 3 (a3f T.2) 40 _ Tryd.underlying40 rfl size_i3 D.out ?_)
        | ((with_reducible refine wlOp (.store 40 (.tmp 4) (.tmp 71)) rfl ?_); refine wpList_storeall rfl 40 (.tmp 4) (.tmp 71) rfl w.heap.size rfl 3 (fun _ => .int .i64 0) (a3f T.2) rfl 40 size_i3 Z.out (fun _ _ => rfl) ?_; replace P := Go.Lib.hid (row_set' (g := w.heap.size) (show b ≠ w.heap.size by omega) P.out (vrow 3 (a3f T.2))); replace Z := Go.Lib.hid (row_set Z.out (vrow 3 (a3f T.2))); replace hG := Go.Lib.hid (grown_new hG.out (Nat.le_refl _) (vrow 3 (a3f T.2)))))
      exact ret_row Tryd.results68 w.heap.size 3 (a3f T.2) 40 _ Tryd.underlying40 rfl size_i3 rfl rfl Z.out ⟨by rw [hT.out], hG.out, by rw [hT.out]; exact P.out⟩
end Go.Proofs.YtfgcpiipndhllaaDoor
