import Derived.Test.YtfgcpiipndhllaaDoorPeelX
import Derived.Test.YtfgcpiipndhllaaDoorPeelS
import Derived.Test.YtfgcpiipndhllaaDoorPSpots
import Derived.Test.YtfgcpiipndhllaaDoorApN
import Derived.Test.YtfgcpiipndhllaaDoorDrF
import Derived.Test.YtfgcpiipndhllaaDoorSlPs
import Derived.Test.YtfgcpiipndhllaaDoorPeelW
namespace Go.Proofs.YtfgcpiipndhllaaDoor
open Go.RowKit
set_option linter.unusedVariables false
set_option linter.unusedSimpArgs false
/-- the drops at a cell that can be peeled next -/
def nxT (p : Pic) (op : Nat → Bool) (a c : Nat) (q : Sp8) : Nat → List (Sp8 × Int)
  | 0 => []
  | m + 1 => nxT p op a c q m ++ (if lpP (comb p op) m (cov a c q.1.1 q.1.2) then [(q, (m : Int))] else [])
def nxL (p : Pic) (op : Nat → Bool) (a c : Nat) (l : List Sp8) : List (Sp8 × Int) := l.flatMap fun q => nxT p op a c q 3
theorem nxL_app (p : Pic) (op : Nat → Bool) (a c : Nat) (l : List Sp8) (q : Sp8) : nxL p op a c (l ++ [q]) = nxL p op a c l ++ nxT p op a c q 3 := by simp [nxL]
theorem nxT_len (p : Pic) (op : Nat → Bool) (a c : Nat) (q : Sp8) : ∀ m, (nxT p op a c q m).length ≤ m
  | 0 => Nat.le_refl _
  | m + 1 => by
    have := nxT_len p op a c q m
    unfold nxT
    rw [List.length_append]
    split <;> simp <;> omega
theorem nxL_len (p : Pic) (op : Nat → Bool) (a c : Nat) (l : List Sp8) : (nxL p op a c l).length ≤ 3 * l.length := by
  induction l with
  | nil => simp [nxL]
  | cons q l ih =>
    have h1 : nxL p op a c (q :: l) = nxT p op a c q 3 ++ nxL p op a c l := by simp [nxL]
    have h2 := nxT_len p op a c q 3
    rw [h1, List.length_append, List.length_cons]; omega
theorem built_drN (x y n : Int) : Tryd.prog.built 66 [(0, .agg #[.int .i8 x, .int .i8 y]), (1, .int .u8 n)] = some #[.int .i8 x, .int .i8 y, .int .u8 n] := by kernel_rfl
set_option maxRecDepth 100000 in
set_option maxHeartbeats 8000000 in
theorem lnext_any (p : Pic) (op : Nat → Bool) (b bo a c : Nat) (w : World) (hs : w.heap[b]? = some (.cells (vrow 66 p.at) 61)) (ho : w.heap[bo]? = some (.cells (vrow 64 (offF op)) 153)) (hf : p.fit) (hk4 : ∀ i, i < 64 → 0 ≤ p.ink i ∧ p.ink i ≤ 3) (ea : p.wide = a) (ec : p.high = c) (ha : 1 ≤ a ∧ a ≤ 8) (hc : 1 ≤ c ∧ c ≤ 8) :
    Calls Tryd.prog 97 #[.pointer (some ⟨b, 0, none⟩), .pointer (some ⟨bo, 0, none⟩)] w fun e w' => ∃ v, e = .returned v ∧ w'.ownsRow w.heap.size 66 3 v (nxL p op a c (cellsL a c)).length (dvals (nxL p op a c (cellsL a c))) ∧ Below w.heap.size w w' := by
  obtain ⟨i0, hi, hz0, hz1, hz2⟩ := info_parts info_drL
  have zz := zero_drD
  have hLn : (cellsL a c).length = a * c := cellsL_length a c
  have hac : 1 ≤ (cellsL a c).length ∧ (cellsL a c).length ≤ 64 := by rw [hLn]; exact ⟨Nat.mul_le_mul ha.1 hc.1, Nat.mul_le_mul ha.2 hc.2⟩
  have HSp := Go.Lib.hid fun w hs => pspots_any p b a c w hs ea ec ha.2 hc.2
  have HPL := Go.Lib.hid fun (x y n : Nat) w hs ho hx hy hn => lpeels_any p op b bo a c x y n w hs ho hf hk4 ea ec ha.2 hc.2 hx hy hn
  have hbl := row_lt hs
  have hbol := row_lt ho
  have P : Hid ((w.alloc (.cells #[] 66)).heap[b]? = some (.cells (vrow 66 p.at) 61)) := heap_past _ _ _ _ hbl hs
  have Q : Hid ((w.alloc (.cells #[] 66)).heap[bo]? = some (.cells (vrow 64 (offF op)) 153)) := heap_past _ _ _ _ hbol ho
  have hB : Hid (Below w.heap.size w (w.alloc (.cells #[] 66))) := Go.Lib.hid ((Below.refl w.heap.size w).alloc (Nat.le_refl _) _)
  have O : Hid ((w.alloc (.cells #[] 66)).ownsRow w.heap.size 66 3 (.slice (some ⟨w.heap.size, 0, none⟩) 0 0) 0 []) := Go.Lib.hid (by
    have h := World.ownsRow_made (size := 3) (e := 66) w #[] 0 (Nat.le_refl _) (by decide) rfl
    exact h)
  generalize (cellsL a c) = L at *
  clear hLn hs ho ea ec
  go_enter Tryd.func97, Tryd.ntmps97
  go_wp2_with (first
    | go_skip
    | (go_at_call 145; (refine (HSp.out _ P.out).mono ?_; rintro e w2 ⟨v, rfl, hO, hb⟩; replace P := Go.Lib.hid (row_next hb P.out); replace Q := Go.Lib.hid (row_next hb Q.out); replace O := Go.Lib.hid (O.out.kept (grown_next (grown_refl _ none) hb) (by cases hv : Value.ownBlock _ <;> simp)); have hsz2 := hb.size; replace hB := Go.Lib.hid (below_next hB.out hb); obtain ⟨g, cap, f, rfl, hg, hcap, hO2, hf2⟩ := hO.row (by omega); have G := Go.Lib.hid hO2; have HF := Go.Lib.hid hf2; clear hO hO2 hf2 hb)))
  have hg2 : w.heap.size + 1 ≤ g := by simpa using hg
  have hN1 : w.heap.size + 1 ≤ w2.heap.size := by simpa using hsz2
  clear hg hsz2
  have P0 := P.out; have Q0 := Q.out; have O0 := O.out; have G0 := G.out; have B0 := hB.out
  clear P Q O G hB HSp
  go_loopw [5, 7] (fun v iv wr => ∃ k : Nat, k ≤ L.length ∧ iv = .int .i64 k ∧ wr.ownsRow w.heap.size 66 3 v (nxL p op a c (L.take k)).length (dvals (nxL p op a c (L.take k))) ∧ wr.heap[b]? = some (.cells (vrow 66 p.at) 61) ∧ wr.heap[bo]? = some (.cells (vrow 64 (offF op)) 153) ∧ wr.heap[g]? = some (.cells (vrow (cap * 2) f) 33) ∧ w2.heap.size ≤ wr.heap.size ∧ (∀ q, v.ownBlock = some q → q = w.heap.size ∨ w2.heap.size ≤ q) ∧ Below w.heap.size w wr) (fun _ iv _ => L.length - (intOf iv).toNat)
  case atStart => exact ⟨0, by omega, rfl, by simpa [nxL, dvals] using O0, P0, Q0, G0, Nat.le_refl _, (fun q hq => .inl (by simpa [Value.ownBlock] using hq.symm)), B0⟩
  case round =>
    have hgw := row_lt G0
    clear O0 P0 Q0 G0 B0
    obtain ⟨k, hk, rfl, O, P, Q, G, hN, hOB, hB⟩ := hrel
    by_cases hlt : k < L.length
    · have hf2 := HF.out k hlt
      obtain ⟨⟨⟨i, j⟩, hi8, hj8⟩, hp⟩ : ∃ q, L[k]'hlt = q := ⟨_, rfl⟩
      have hap : nxL p op a c (L.take (k + 1)) = nxL p op a c (L.take k) ++ nxT p op a c ⟨(i, j), hi8, hj8⟩ 3 := by
        rw [List.take_succ_eq_append_getElem hlt, hp, nxL_app]
      have hle : (nxL p op a c (L.take k)).length ≤ 192 := by have h1 := nxL_len p op a c (L.take k); rw [List.length_take] at h1; omega
      have hcnt := fun m => nxT_len p op a c ⟨(i, j), hi8, hj8⟩ m
      have hstp : ∀ m, nxT p op a c ⟨(i, j), hi8, hj8⟩ (m + 1) = nxT p op a c ⟨(i, j), hi8, hj8⟩ m ++ (if lpP (comb p op) m (cov a c i j) then [((⟨(i, j), hi8, hj8⟩ : Sp8), (m : Int))] else []) := fun m => rfl
      have hdv1 := fun (m : Nat) => dvals_one ((⟨(i, j), hi8, hj8⟩ : Sp8), (m : Int))
      simp only at hdv1
      rw [hp] at hf2
      have HR := Go.Lib.hid (show vrow 2 (fun q => f (k * 2 + q)) = vrow 2 (spAt i j) from vrow_ext _ _ _ fun q hq => by
        have hq2 : q = 0 ∨ q = 1 := by omega
        rcases hq2 with rfl | rfl
        · exact hf2.1
        · exact hf2.2)
      clear hp hf2
      have HP2 := Go.Lib.hid fun m w hs ho hn => HPL.out i j m w hs ho hi8 hj8 hn
      replace hi8 : i < 8 := hi8
      replace hj8 : j < 8 := hj8
      have HAP := Go.Lib.hid hap; have HST := Go.Lib.hid hstp; have HDV := Go.Lib.hid hdv1; have HCN := Go.Lib.hid hcnt
      clear hap hstp hdv1 hcnt
      have z0 : nxT p op a c ⟨(i, j), hi8, hj8⟩ 0 = [] := rfl
      generalize nxT p op a c ⟨(i, j), hi8, hj8⟩ = T at *
      generalize nxL p op a c (L.take k) = M at *
      have hkI : (k : Int) < (L.length : Int) := by omega
      have hk0 : (0 : Int) ≤ (k : Int) := by omega
      have hkd : decide ((k : Int) < (L.length : Int)) = true := by simpa using hkI
      go_wp2
      go_loopw [5, 8] (fun v iv wz => ∃ m : Nat, m ≤ 3 ∧ iv = .int .u8 m ∧ wz.ownsRow w.heap.size 66 3 v (M ++ T m).length (dvals (M ++ T m)) ∧ wz.heap[b]? = some (.cells (vrow 66 p.at) 61) ∧ wz.heap[bo]? = some (.cells (vrow 64 (offF op)) 153) ∧ wz.heap[g]? = some (.cells (vrow (cap * 2) f) 33) ∧ w2.heap.size ≤ wz.heap.size ∧ (∀ q, v.ownBlock = some q → q = w.heap.size ∨ w2.heap.size ≤ q) ∧ Below w.heap.size w wz) (fun _ iv _ => 3 - (intOf iv).toNat)
      case atStart => exact ⟨0, by omega, rfl, by rw [z0, List.append_nil]; exact O, P, Q, G, hN, hOB, hB⟩
      case round =>
        clear O P Q G hN hOB hB
        obtain ⟨m, hm, rfl, O, P, Q, G, hN, hOB, hB⟩ := hrel
        by_cases hlm : m < 3
        · have hmI : (m : Int) < 3 := by omega
          have hm0 : (0 : Int) ≤ (m : Int) := by omega
          have hmd : decide ((m : Int) < 3) = true := by simpa using hmI
          have hu8 : IntKind.u8.wrap ((m : Int) + 1) = (m : Int) + 1 := IntWalk.u8_in _ (by omega)
          have HP3 := Go.Lib.hid fun w hs ho => HP2.out m w hs ho (by omega)
          have hst := HST.out m
          have hdv := Go.Lib.hid (HDV.out m)
          have hMl : (M ++ T m).length ≤ 195 := by have := HCN.out m; rw [List.length_append]; omega
          have hassoc : M ++ T (m + 1) = (M ++ T m) ++ (if lpP (comb p op) m (cov a c i j) then [((⟨(i, j), hi8, hj8⟩ : Sp8), (m : Int))] else []) := by rw [hst, List.append_assoc]
          generalize M ++ T m = MT at *
          replace O := Go.Lib.hid O; replace P := Go.Lib.hid P; replace Q := Go.Lib.hid Q; replace G := Go.Lib.hid G; replace hB := Go.Lib.hid hB; replace hOB := Go.Lib.hid hOB
          clear hst
          cases hq : lpP (comb p op) m (cov a c i j)
          · rw [hq] at HP3 hassoc
            rw [if_neg (by simp), List.append_nil] at hassoc
            have HN := Go.Lib.hid hassoc
            clear hassoc hq
            go_wp2_with (first
              | go_skip
              | ((with_reducible refine wlAt 26 rfl ?_); refine wpList_loadmid rfl 33 (.tmp 25) rfl g (k * 2) rfl (cap * 2) 2 f 33 _ Tryd.underlying33 rfl size_spot G.out (by omega) ?_; rw [HR.out]; rw [show vrow 2 (spAt (i : Int) (j : Int)) = #[.int .i8 i, .int .i8 j] from rfl])
              | ((with_reducible refine wlAt 28 rfl ?_); refine wpList_built rfl 66 [(0, .tmp 26), (1, .tmp 27)] rfl [(0, .agg #[.int .i8 i, .int .i8 j]), (1, .int .u8 m)] (by rfl) _ (built_drN i j m) ?_)
              | ((with_reducible refine wlOp (.store 66 (.tmp 9) (.tmp 28)) rfl ?_); refine wpList_storeall rfl 66 (.tmp 9) (.tmp 28) rfl _ rfl 3 (drAt 0 0 0) (drAt i j m) rfl 66 size_dr (heap_at _ _ _ rfl) (fun i _ => drAt_one _ _ _ i) ?_; rw [setRow_at _ _ _ _ _ rfl]; have X := Go.Lib.hid (heap_at wr (.cells (vrow 3 (drAt i j m)) 66) _ rfl); replace P := Go.Lib.hid (heap_past wr (.cells (vrow 3 (drAt i j m)) 66) _ _ (row_lt P.out) P.out); replace Q := Go.Lib.hid (heap_past wr (.cells (vrow 3 (drAt i j m)) 66) _ _ (row_lt Q.out) Q.out); replace G := Go.Lib.hid (heap_past wr (.cells (vrow 3 (drAt i j m)) 66) _ _ (row_lt G.out) G.out); replace O := Go.Lib.hid (O.out.alloc (.cells (vrow 3 (drAt i j m)) 66)); replace hB := Go.Lib.hid (hB.out.alloc hB.out.size (.cells (vrow 3 (drAt i j m)) 66)); have hNa : w2.heap.size ≤ (wr.alloc (.cells (vrow 3 (drAt i j m)) 66)).heap.size := (by simp; omega); obtain ⟨xb, hxb⟩ : ∃ xb, wr.heap.size = xb := ⟨_, rfl⟩; rw [hxb] at X ⊢; obtain ⟨Wx, hWx⟩ : ∃ Wx, wr.alloc (.cells (vrow 3 (drAt i j m)) 66) = Wx := ⟨_, rfl⟩; rw [hWx] at P Q G O X hB hNa ⊢; clear hxb hWx)
              | ((with_reducible refine wlAt 31 rfl ?_); refine wpList_ldm 66 (.tmp 9) rfl (by first | exact want_n rfl | exact want_g _ _ _ rfl rfl rfl) (xb) _ rfl 3 3 (drAt i j m) _ rw_dr size_dr X.out (by omega) ?_; rw [dr_row0])
              | (go_at_call 93; (refine (HP3.out _ P.out Q.out).mono ?_); rintro o w3 ⟨rfl, hb⟩; have hNb := Nat.le_trans hNa hb.size; replace X := Go.Lib.hid (row_next hb X.out); replace P := Go.Lib.hid (row_next hb P.out); replace Q := Go.Lib.hid (row_next hb Q.out); replace G := Go.Lib.hid (row_next hb G.out); replace O := Go.Lib.hid (O.out.kept (grown_next (grown_refl _ none) hb) (by cases hv : Value.ownBlock _ <;> simp)); replace hB := Go.Lib.hid (below_next hB.out hb); clear hb))
            go_roundw
            case rel => exact ⟨m + 1, by omega, by go_num, by rw [HN.out]; exact O.out, P.out, Q.out, G.out, hNb, hOB.out, hB.out⟩
            case measure => simp [intOf]; omega
          · rw [hq] at HP3 hassoc
            rw [if_pos rfl] at hassoc
            have HN := Go.Lib.hid hassoc
            clear hassoc hq
            go_wp2_with (first
              | go_skip
              | ((with_reducible refine wlAt 26 rfl ?_); refine wpList_loadmid rfl 33 (.tmp 25) rfl g (k * 2) rfl (cap * 2) 2 f 33 _ Tryd.underlying33 rfl size_spot G.out (by omega) ?_; rw [HR.out]; rw [show vrow 2 (spAt (i : Int) (j : Int)) = #[.int .i8 i, .int .i8 j] from rfl])
              | ((with_reducible refine wlAt 28 rfl ?_); refine wpList_built rfl 66 [(0, .tmp 26), (1, .tmp 27)] rfl [(0, .agg #[.int .i8 i, .int .i8 j]), (1, .int .u8 m)] (by rfl) _ (built_drN i j m) ?_)
              | ((with_reducible refine wlOp (.store 66 (.tmp 9) (.tmp 28)) rfl ?_); refine wpList_storeall rfl 66 (.tmp 9) (.tmp 28) rfl _ rfl 3 (drAt 0 0 0) (drAt i j m) rfl 66 size_dr (heap_at _ _ _ rfl) (fun i _ => drAt_one _ _ _ i) ?_; rw [setRow_at _ _ _ _ _ rfl]; have X := Go.Lib.hid (heap_at wr (.cells (vrow 3 (drAt i j m)) 66) _ rfl); replace P := Go.Lib.hid (heap_past wr (.cells (vrow 3 (drAt i j m)) 66) _ _ (row_lt P.out) P.out); replace Q := Go.Lib.hid (heap_past wr (.cells (vrow 3 (drAt i j m)) 66) _ _ (row_lt Q.out) Q.out); replace G := Go.Lib.hid (heap_past wr (.cells (vrow 3 (drAt i j m)) 66) _ _ (row_lt G.out) G.out); replace O := Go.Lib.hid (O.out.alloc (.cells (vrow 3 (drAt i j m)) 66)); replace hB := Go.Lib.hid (hB.out.alloc hB.out.size (.cells (vrow 3 (drAt i j m)) 66)); have hNa : w2.heap.size ≤ (wr.alloc (.cells (vrow 3 (drAt i j m)) 66)).heap.size := (by simp; omega); obtain ⟨xb, hxb⟩ : ∃ xb, wr.heap.size = xb := ⟨_, rfl⟩; rw [hxb] at X ⊢; obtain ⟨Wx, hWx⟩ : ∃ Wx, wr.alloc (.cells (vrow 3 (drAt i j m)) 66) = Wx := ⟨_, rfl⟩; rw [hWx] at P Q G O X hB hNa ⊢; clear hxb hWx)
              | ((with_reducible refine wlAt 31 rfl ?_); refine wpList_ldm 66 (.tmp 9) rfl (by first | exact want_n rfl | exact want_g _ _ _ rfl rfl rfl) (xb) _ rfl 3 3 (drAt i j m) _ rw_dr size_dr X.out (by omega) ?_; rw [dr_row0])
              | (go_at_call 93; (refine (HP3.out _ P.out Q.out).mono ?_); rintro o w3 ⟨rfl, hb⟩; have hNb := Nat.le_trans hNa hb.size; replace X := Go.Lib.hid (row_next hb X.out); replace P := Go.Lib.hid (row_next hb P.out); replace Q := Go.Lib.hid (row_next hb Q.out); replace G := Go.Lib.hid (row_next hb G.out); replace O := Go.Lib.hid (O.out.kept (grown_next (grown_refl _ none) hb) (by cases hv : Value.ownBlock _ <;> simp)); replace hB := Go.Lib.hid (below_next hB.out hb); clear hb)
              | ((with_reducible refine wlAt 34 rfl ?_); refine wpList_ldm 66 (.tmp 9) rfl (by first | exact want_n rfl | exact want_g _ _ _ rfl rfl rfl) (xb) _ rfl 3 3 (drAt i j m) _ rw_dr size_dr X.out (by omega) ?_; rw [dr_row0]; rw [show (vrow 3 (drAt (i : Int) (j : Int) (m : Int))) = #[.int .i8 i, .int .i8 j, .int .u8 m] from rfl])
              | (at_builtin; refine wpList_append_ownN rfl (.tmp 33) (.tmp 35) 73 rfl w.heap.size 66 i0 (.agg #[.int .i8 0, .int .i8 0, .int .u8 0]) 3 3 Tryd.underlying73 hi hz0 hz1 hz2 rfl (by decide) _ _ _ rfl (O.out.alloc _) ⟨w3.heap.size, 0, none⟩ 1 1 [.int .i8 i, .int .i8 j, .int .u8 m] rfl rfl (World.news_of_block (heap_at _ _ _ rfl)) (by simp [Value.oneCell']) (by simp only [maxLen]; omega) (by omega) (by simp; omega) ?_; intro v' w5 hown' hgrow hnb))
            have hov := O.out.lt
            have P1 := (hgrow.block b (by have := row_lt P.out; simp; omega) (fun e => by have := (hov _ e.symm).1; omega)).trans (heap_past _ _ _ _ (row_lt P.out) P.out)
            have Q1 := (hgrow.block bo (by have := row_lt Q.out; simp; omega) (fun e => by have := (hov _ e.symm).1; omega)).trans (heap_past _ _ _ _ (row_lt Q.out) Q.out)
            have G1 := (hgrow.block g (by have := row_lt G.out; simp; omega) (fun e => by rcases hOB.out g e.symm with h | h <;> omega)).trans (heap_past _ _ _ _ (row_lt G.out) G.out)
            have hN5 := Nat.le_trans hNb (Nat.le_trans (show w3.heap.size ≤ (w3.alloc (.cells #[.int .i8 i, .int .i8 j, .int .u8 m] 66)).heap.size by simp) hgrow.size)
            have B1 : Below w.heap.size w w5 := (hB.out.alloc hB.out.size _).grown hgrow (by have := hB.out.size; simp; omega) (fun q hq => by have := (hov q hq).1; omega)
            have hOB2 : ∀ q, v'.ownBlock = some q → q = w.heap.size ∨ w2.heap.size ≤ q := fun q hq => by
              rcases hnb with h | ⟨k2, h, hle2⟩
              · rw [h] at hq; exact hOB.out q hq
              · rw [h] at hq; have := Option.some.inj hq; simp at hle2; right; omega
            go_roundw
            case rel => exact ⟨m + 1, by omega, by go_num, by rw [HN.out, List.length_append, dvals_app, hdv.out]; exact hown', P1, Q1, G1, hN5, hOB2, B1⟩
            case measure => simp [intOf]; omega
        · obtain rfl : m = 3 := by omega
          have hmd : decide (((3 : Nat) : Int) < 3) = false := by simp
          go_wp2
          go_roundw
          case rel => exact ⟨k + 1, by omega, by go_num, by rw [HAP.out]; exact O, P, Q, G, hN, hOB, hB⟩
          case measure => simp [intOf]; omega
    · obtain rfl : k = L.length := by omega
      rw [List.take_length] at O
      have hkd : decide ((L.length : Int) < (L.length : Int)) = false := by simp
      replace O := Go.Lib.hid O; replace hB := Go.Lib.hid hB
      go_wp2
      go_ret
      exact ⟨_, rfl, O.out, hB.out⟩
end Go.Proofs.YtfgcpiipndhllaaDoor
namespace Go.Proofs.YtfgcpiipndhllaaDoor
open Go.RowKit
set_option maxRecDepth 100000
set_option linter.unusedVariables false
set_option linter.unusedSimpArgs false
/-- the first c cells of a row of drops are marked, from k -/
def mkD (f : Nat → Value) (k : Int) (c i : Nat) : Value := if i < c then (if i % 3 = 2 then .int .u8 (IntKind.u8.wrap (k + i)) else .int .i8 (IntKind.i8.wrap (k + i))) else f i
theorem mkD_0 (f : Nat → Value) (k : Int) (N : Nat) : vrow N (mkD f k 0) = vrow N f := vrow_ext _ _ _ fun i _ => by unfold mkD; rw [if_neg (by omega)]
theorem mkD_atA (f : Nat → Value) (k : Int) (c i : Nat) (h : i < c) (h3 : i % 3 ≠ 2) : mkD f k c i = .int .i8 (IntKind.i8.wrap (k + i)) := by unfold mkD; rw [if_pos h, if_neg h3]
theorem mkD_atB (f : Nat → Value) (k : Int) (c i : Nat) (h : i < c) (h3 : i % 3 = 2) : mkD f k c i = .int .u8 (IntKind.u8.wrap (k + i)) := by unfold mkD; rw [if_pos h, if_pos h3]
theorem mkD_stepA (f : Nat → Value) (k z : Int) (N c : Nat) (hz : z = k + c) (h3 : c % 3 ≠ 2) : vrow N (over (mkD f k c) c 1 fun _ => .int .i8 (IntKind.i8.wrap z)) = vrow N (mkD f k (c + 1)) := vrow_ext _ _ _ fun i _ => by
  unfold over
  by_cases h : i = c
  · rw [if_pos (by omega), h, mkD_atA f k (c + 1) c (by omega) h3, hz]
  · rw [if_neg (by omega)]
    unfold mkD
    by_cases h2 : i < c
    · rw [if_pos h2, if_pos (show i < c + 1 by omega)]
    · rw [if_neg h2, if_neg (show ¬ i < c + 1 by omega)]
theorem mkD_stepB (f : Nat → Value) (k z : Int) (N c : Nat) (hz : z = k + c) (h3 : c % 3 = 2) : vrow N (over (mkD f k c) c 1 fun _ => .int .u8 (IntKind.u8.wrap z)) = vrow N (mkD f k (c + 1)) := vrow_ext _ _ _ fun i _ => by
  unfold over
  by_cases h : i = c
  · rw [if_pos (by omega), h, mkD_atB f k (c + 1) c (by omega) h3, hz]
  · rw [if_neg (by omega)]
    unfold mkD
    by_cases h2 : i < c
    · rw [if_pos h2, if_pos (show i < c + 1 by omega)]
    · rw [if_neg h2, if_neg (show ¬ i < c + 1 by omega)]
set_option maxHeartbeats 2000000 in
theorem markD_any (D n cap N : Nat) (f : Nat → Value) (k : Int) (w : World) (hn : n ≤ 1048576) (hN : n * 3 ≤ N) (hk : 0 ≤ k ∧ k ≤ 1048576) (h1 : w.heap[D]? = some (.cells (vrow N f) 66)) : Calls Tryd.prog 43 #[.slice (some ⟨D, 0, none⟩) n cap, .int .i64 k] w fun e w' => e = .returned (.int .i64 (k + n * 3)) ∧ w' = w.setRow D (vrow N (mkD f k (n * 3))) := by
  have R := Go.Lib.hid h1
  have hD := row_lt h1
  have E : Hid (w = w.setRow D (vrow N (mkD f k 0))) := Go.Lib.hid (by rw [mkD_0]; exact (setRow_selfK h1).symm)
  clear h1
  go_enter Tryd.func43, Tryd.ntmps43
  go_wp2
  go_loopw [1, 5] (fun kv iv wr => ∃ j : Nat, j ≤ n ∧ iv = .int .i64 j ∧ kv = .int .i64 (k + j * 3) ∧ wr = w.setRow D (vrow N (mkD f k (j * 3)))) (fun _ iv _ => n - (intOf iv).toNat)
  case atStart => exact ⟨0, by omega, rfl, by simp, E.out⟩
  case round =>
    obtain ⟨j, hj, rfl, rfl, rfl⟩ := hrel
    have R2 := Go.Lib.hid (row_set R.out (vrow N (mkD f k (j * 3))))
    by_cases hlt : j < n
    · have hkI : (j : Int) < n := by omega
      have hnl : (n : Int) ≤ 1048576 := by omega
      have hw : ∀ m : Int, 0 ≤ m → m ≤ 4500000 → IntKind.i64.wrap m = m := fun m h1 h2 => IntWalk.i64_in m (by omega)
      go_wp2_with (first
        | go_skip
        | ((with_reducible refine wlOp (.store 22 (.tmp 18) (.tmp 15)) rfl ?_); refine wpList_store1 rfl 22 (.tmp 18) (.tmp 15) rfl D (j * 3) rfl N (mkD f k (j * 3)) (.int .i8 (IntKind.i8.wrap (k + j * 3))) rfl 66 size_i8 R2.out (by omega) rfl ?_; rw [setRow_twiceK, mkD_stepA f k (k + j * 3) N (j * 3) (by omega) (by omega)]; replace R2 := Go.Lib.hid (row_set R.out (vrow N (mkD f k (j * 3 + 1)))))
        | ((with_reducible refine wlOp (.store 22 (.tmp 27) (.tmp 24)) rfl ?_); refine wpList_store1 rfl 22 (.tmp 27) (.tmp 24) rfl D (j * 3 + 1) rfl N (mkD f k (j * 3 + 1)) (.int .i8 (IntKind.i8.wrap (k + j * 3 + 1))) rfl 66 size_i8 R2.out (by omega) rfl ?_; rw [setRow_twiceK, mkD_stepA f k (k + j * 3 + 1) N (j * 3 + 1) (by omega) (by omega)]; replace R2 := Go.Lib.hid (row_set R.out (vrow N (mkD f k (j * 3 + 1 + 1)))))
        | ((with_reducible refine wlOp (.store 5 (.tmp 35) (.tmp 33)) rfl ?_); refine wpList_store1 rfl 5 (.tmp 35) (.tmp 33) rfl D (j * 3 + 2) rfl N (mkD f k (j * 3 + 2)) (.int .u8 (IntKind.u8.wrap (k + j * 3 + 1 + 1))) rfl 66 size_u8 R2.out (by omega) rfl ?_; rw [setRow_twiceK, mkD_stepB f k (k + j * 3 + 1 + 1) N (j * 3 + 2) (by omega) (by omega)]; replace R2 := Go.Lib.hid (row_set R.out (vrow N (mkD f k (j * 3 + 2 + 1))))))
      go_roundw
      case rel => exact ⟨j + 1, by omega, by go_num, by go_num, by rw [show (j + 1) * 3 = j * 3 + 2 + 1 by omega]⟩
      case measure => simp [intOf]; omega
    · obtain rfl : j = n := by omega
      have hd : decide ((j : Int) < (j : Int)) = false := by simp
      go_wp2
      go_ret
      exact ⟨rfl, rfl⟩
set_option maxHeartbeats 2000000 in
theorem heldD_any (D n cap N : Nat) (f : Nat → Value) (k : Int) (w : World) (hn : n ≤ 1048576) (hN : n * 3 ≤ N) (hk : 0 ≤ k ∧ k ≤ 1048576) (h1 : w.heap[D]? = some (.cells (vrow N (mkD f k (n * 3))) 66)) : Calls Tryd.prog 44 #[.slice (some ⟨D, 0, none⟩) n cap, .int .i64 k] w fun e w' => e = .returned (.int .i64 (k + n * 3)) ∧ Below w.heap.size w w' := by
  have R := Go.Lib.hid h1
  clear h1
  go_enter Tryd.func44, Tryd.ntmps44
  go_wp2
  go_loopw [1, 5] (fun kv iv wr => ∃ j : Nat, j ≤ n ∧ iv = .int .i64 j ∧ kv = .int .i64 (k + j * 3) ∧ wr = w) (fun _ iv _ => n - (intOf iv).toNat)
  case atStart => exact ⟨0, by omega, rfl, by simp, rfl⟩
  case round =>
    obtain ⟨j, hj, rfl, rfl, rfl⟩ := hrel
    by_cases hlt : j < n
    · have hkI : (j : Int) < n := by omega
      have hnl : (n : Int) ≤ 1048576 := by omega
      have hw : ∀ m : Int, 0 ≤ m → m ≤ 4500000 → IntKind.i64.wrap m = m := fun m h1 h2 => IntWalk.i64_in m (by omega)
      go_wp2_with (first
        | go_skip
        | ((with_reducible refine wlAt 17 rfl ?_); refine wpList_load1 rfl 22 (.tmp 16) rfl D (j * 3) rfl N (mkD f k (n * 3)) _ _ Tryd.underlying22 rfl R.out (by omega) ?_; rw [mkD_atA f k (n * 3) (j * 3) (by omega) (by omega), show k + ((j * 3 : Nat) : Int) = k + j * 3 by omega])
        | ((with_reducible refine wlAt 28 rfl ?_); refine wpList_load1 rfl 22 (.tmp 27) rfl D (j * 3 + 1) rfl N (mkD f k (n * 3)) _ _ Tryd.underlying22 rfl R.out (by omega) ?_; rw [mkD_atA f k (n * 3) (j * 3 + 1) (by omega) (by omega), show k + ((j * 3 + 1 : Nat) : Int) = k + j * 3 + 1 by omega])
        | ((with_reducible refine wlAt 38 rfl ?_); refine wpList_load1 rfl 5 (.tmp 37) rfl D (j * 3 + 2) rfl N (mkD f k (n * 3)) _ _ Tryd.underlying5 rfl R.out (by omega) ?_; rw [mkD_atB f k (n * 3) (j * 3 + 2) (by omega) (by omega), show k + ((j * 3 + 2 : Nat) : Int) = k + j * 3 + 1 + 1 by omega]))
      go_roundw
      case rel => exact ⟨j + 1, by omega, by go_num, by go_num, by first | rfl | trivial⟩
      case measure => simp [intOf]; omega
    · obtain rfl : j = n := by omega
      have hd : decide ((j : Int) < (j : Int)) = false := by simp
      go_wp2
      go_ret
      exact ⟨rfl, Below.refl _ _⟩
/-- a row of drops -/
def rowD (f : Nat → Value) (L : List (Sp8 × Int)) : Prop := ∀ k (h : k < L.length), vrow 3 (fun j => f (k * 3 + j)) = vrow 3 (drAt (L[k]'h).1.1.1 (L[k]'h).1.1.2 (L[k]'h).2)
/-- a slice of drops, that lies below B -/
def SlD (w : World) (v : Value) (L : List (Sp8 × Int)) (B : Nat) : Prop := ∃ ao c, v = .slice ao L.length c ∧ (0 < L.length → ∃ D N f, ao = some ⟨D, 0, none⟩ ∧ D < B ∧ L.length * 3 ≤ N ∧ w.heap[D]? = some (.cells (vrow N f) 66) ∧ rowD f L)
theorem SlD.next {w w' : World} {v : Value} {L : List (Sp8 × Int)} {B : Nat} (h : SlD w v L B) (hb : Below w.heap.size w w') : SlD w' v L B := by
  obtain ⟨ao, c, rfl, hr⟩ := h
  refine ⟨ao, c, rfl, fun hn => ?_⟩
  obtain ⟨D, N, f, h1, h2, h3, h4, h5⟩ := hr hn
  exact ⟨D, N, f, h1, h2, h3, row_next hb h4, h5⟩
theorem SlD.now {w : World} {v : Value} {L : List (Sp8 × Int)} {B : Nat} (h : SlD w v L B) : SlD w v L w.heap.size := by
  obtain ⟨ao, c, rfl, hr⟩ := h
  refine ⟨ao, c, rfl, fun hn => ?_⟩
  obtain ⟨D, N, f, h1, h2, h3, h4, h5⟩ := hr hn
  exact ⟨D, N, f, h1, row_lt h4, h3, h4, h5⟩
theorem SlD.below {w w' : World} {v : Value} {L : List (Sp8 × Int)} {B : Nat} (h : SlD w v L B) (hb : Below B w w') : SlD w' v L B := by
  obtain ⟨ao, c, rfl, hr⟩ := h
  refine ⟨ao, c, rfl, fun hn => ?_⟩
  obtain ⟨D, N, f, h1, h2, h3, h4, h5⟩ := hr hn
  exact ⟨D, N, f, h1, h2, h3, row_below hb h2 h4, h5⟩
set_option maxHeartbeats 2000000 in
theorem eqD0_any (a1 a2 : Option Addr) (c1 c2 : Nat) (w : World) : Calls Tryd.prog 36 #[.slice a1 0 c1, .slice a2 0 c2] w fun e w' => e = .returned (.bool true) ∧ Below w.heap.size w w' := by
  go_enter Tryd.func36, Tryd.ntmps36
  go_wp2
  go_loopw [5] (fun iv wr => iv = .int .i64 0 ∧ Below w.heap.size w wr) (fun _ _ => 0)
  case atStart => exact ⟨rfl, Below.refl _ _⟩
  case round =>
    obtain ⟨rfl, hB⟩ := hrel
    go_wp2
    go_ret
    exact ⟨rfl, hB⟩
set_option maxHeartbeats 2000000 in
theorem eqDN_any (L : List (Sp8 × Int)) (D1 D2 n c1 c2 N1 N2 : Nat) (f1 f2 : Nat → Value) (w : World) (hl : L.length = n) (hn : n ≤ 1048576) (hN1 : n * 3 ≤ N1) (hN2 : n * 3 ≤ N2) (hf1 : rowD f1 L) (hf2 : rowD f2 L) (h1 : w.heap[D1]? = some (.cells (vrow N1 f1) 66)) (h2 : w.heap[D2]? = some (.cells (vrow N2 f2) 66)) : Calls Tryd.prog 36 #[.slice (some ⟨D1, 0, none⟩) n c1, .slice (some ⟨D2, 0, none⟩) n c2] w fun e w' => e = .returned (.bool true) ∧ Below w.heap.size w w' := by
  have R1 := Go.Lib.hid h1
  have R2 := Go.Lib.hid h2
  have hB := Go.Lib.hid (Below.refl w.heap.size w)
  have HF1 := Go.Lib.hid fun k (h : k < n) => hf1 k (by omega)
  have HF2 := Go.Lib.hid fun k (h : k < n) => hf2 k (by omega)
  clear h1 h2 hf1 hf2
  go_enter Tryd.func36, Tryd.ntmps36
  go_wp2
  go_loopw [5] (fun iv wr => ∃ k : Nat, k ≤ n ∧ iv = .int .i64 k ∧ wr.heap[D1]? = some (.cells (vrow N1 f1) 66) ∧ wr.heap[D2]? = some (.cells (vrow N2 f2) 66) ∧ Below w.heap.size w wr) (fun iv _ => n - (intOf iv).toNat)
  case atStart => exact ⟨0, by omega, rfl, R1.out, R2.out, hB.out⟩
  case round =>
    clear R1 R2 hB
    obtain ⟨k, hk, rfl, R1, R2, hB⟩ := hrel
    replace R1 := Go.Lib.hid R1; replace R2 := Go.Lib.hid R2; replace hB := Go.Lib.hid hB
    by_cases hlt : k < n
    · have hkI : (k : Int) < (n : Int) := by omega
      have hnl : (n : Int) ≤ 1048576 := by omega
      have hsz := hB.out.size
      go_wp2
      refine wp_region_still_tail 8 (by kernel_rfl) (by kernel_rfl) ?_
      simp only [List.take_succ_cons, List.take_zero, List.drop_succ_cons, List.drop_zero, World.drew_eq]
      repeat (first
        | (refine wpStill_loadmid rfl 66 (.tmp 19) rfl D1 (k * 3) rfl N1 3 f1 66 _ Tryd.underlying66 rfl size_dr R1.out (by omega) ?_; rw [HF1.out k hlt]; (try simp only [Act.put, List.setIfInBounds_toArray, List.set_cons_succ, List.set_cons_zero]))
        | (refine wpStill_loadmid rfl 66 (.tmp 23) rfl D2 (k * 3) rfl N2 3 f2 66 _ Tryd.underlying66 rfl size_dr R2.out (by omega) ?_; rw [HF2.out k hlt]; (try simp only [Act.put, List.setIfInBounds_toArray, List.set_cons_succ, List.set_cons_zero]))
        | still_step)
      refine wpStill_nil ?_
      replace R1 := Go.Lib.hid (drwP R1.out); replace R2 := Go.Lib.hid (drwP R2.out); replace hB := Go.Lib.hid (hB.out.drew)
      generalize World.drew _ = W2 at R1 R2 hB ⊢
      go_wp2_with (first
        | go_skip
        | (go_at_call 91; (refine (eqDr_any _ _ _ _).mono ?_); rintro o w1 ⟨rfl, hb⟩; replace R1 := Go.Lib.hid (row_next hb R1.out); replace R2 := Go.Lib.hid (row_next hb R2.out); replace hB := Go.Lib.hid (below_next hB.out hb); clear hb))
      go_roundw
      case rel => exact ⟨k + 1, by omega, by go_num, R1.out, R2.out, hB.out⟩
      case measure => simp [intOf]; omega
    · obtain rfl : k = n := by omega
      have hd : decide ((k : Int) < (k : Int)) = false := by simp
      go_wp2
      go_ret
      exact ⟨rfl, hB.out⟩
theorem eqD_any (v1 v2 : Value) (L : List (Sp8 × Int)) (B1 B2 : Nat) (w : World) (hn : L.length ≤ 1048576) (h1 : SlD w v1 L B1) (h2 : SlD w v2 L B2) : Calls Tryd.prog 36 #[v1, v2] w fun e w' => e = .returned (.bool true) ∧ Below w.heap.size w w' := by
  obtain ⟨a1, c1, rfl, g1⟩ := h1
  obtain ⟨a2, c2, rfl, g2⟩ := h2
  rcases Nat.eq_zero_or_pos L.length with h0 | hp
  · rw [h0]; exact eqD0_any a1 a2 c1 c2 w
  · obtain ⟨D1, N1, f1, rfl, _, hN1, hr1, hf1⟩ := g1 hp
    obtain ⟨D2, N2, f2, rfl, _, hN2, hr2, hf2⟩ := g2 hp
    exact eqDN_any L D1 D2 L.length c1 c2 N1 N2 f1 f2 w rfl hn hN1 hN2 hf1 hf2 hr1 hr2
/-- the program's slice: of its own from B on -/
def PD (w : World) (v : Value) (L : List (Sp8 × Int)) (B : Nat) : Prop := ∃ ao c, v = .slice ao L.length c ∧ (L.length = 0 ∨ ∃ g N f, ao = some ⟨g, 0, none⟩ ∧ B ≤ g ∧ L.length * 3 ≤ N ∧ w.heap[g]? = some (.cells (vrow N f) 66) ∧ rowD f L)
theorem PD.next {w w' : World} {v : Value} {L : List (Sp8 × Int)} {B : Nat} (h : PD w v L B) (hb : Below w.heap.size w w') : PD w' v L B := by
  obtain ⟨ao, c, rfl, hr⟩ := h
  refine ⟨ao, c, rfl, hr.imp id ?_⟩
  rintro ⟨g, N, f, h1, h2, h3, h4, h5⟩
  exact ⟨g, N, f, h1, h2, h3, row_next hb h4, h5⟩
theorem PD.slp {w : World} {v : Value} {L : List (Sp8 × Int)} {B : Nat} (h : PD w v L B) : SlD w v L w.heap.size := by
  obtain ⟨ao, c, rfl, hr⟩ := h
  refine ⟨ao, c, rfl, fun hn => ?_⟩
  rcases hr with h0 | ⟨g, N, f, h1, h2, h3, h4, h5⟩
  · omega
  · exact ⟨g, N, f, h1, row_lt h4, h3, h4, h5⟩
theorem own_pd {W : World} {base : Nat} {v : Value} {L : List (Sp8 × Int)} (h : W.ownsRow base 66 3 v L.length (dvals L)) : PD W v L base := by
  rcases h.2 with ⟨rfl, h0⟩ | ⟨g, cap, cur, rfl, hg, _, _, _, _, _⟩
  · refine ⟨none, 0, ?_, .inl h0⟩
    rw [h0]
  · obtain ⟨f, h1, h2, h3⟩ := own_row_ofB h
    refine ⟨_, _, rfl, .inr ⟨g, cap * 3, f, rfl, hg, by omega, h1, fun k hk => ?_⟩⟩
    obtain ⟨d0, d1, d2⟩ := dvals_get L k hk
    exact row_dr3 f (k * 3) _ _ _ (h3 _ _ (by omega) d0) (h3 _ _ (by omega) d1) (h3 _ _ (by omega) d2)
def MD (w : World) (v : Value) (n : Nat) : Prop := ∃ ao c, v = .slice ao n c ∧ (n = 0 ∨ ∃ g N f, ao = some ⟨g, 0, none⟩ ∧ n * 3 ≤ N ∧ w.heap[g]? = some (.cells (vrow N (mkD f 1 (n * 3))) 66))
theorem MD.next {w w' : World} {v : Value} {n : Nat} (h : MD w v n) (hb : Below w.heap.size w w') : MD w' v n := by
  obtain ⟨ao, c, rfl, hr⟩ := h
  refine ⟨ao, c, rfl, hr.imp id ?_⟩
  rintro ⟨g, N, f, h1, h3, h4⟩
  exact ⟨g, N, f, h1, h3, row_next hb h4⟩
set_option maxHeartbeats 2000000 in
theorem markD0_any (ao : Option Addr) (c : Nat) (k : Int) (w : World) : Calls Tryd.prog 43 #[.slice ao 0 c, .int .i64 k] w fun e w' => e = .returned (.int .i64 k) ∧ Below w.heap.size w w' := by
  go_enter Tryd.func43, Tryd.ntmps43
  go_wp2
  go_loopw [1, 5] (fun kv iv wr => kv = .int .i64 k ∧ iv = .int .i64 0 ∧ Below w.heap.size w wr) (fun _ _ _ => 0)
  case atStart => exact ⟨rfl, rfl, Below.refl _ _⟩
  case round =>
    obtain ⟨rfl, rfl, hB⟩ := hrel
    go_wp2
    go_ret
    exact ⟨rfl, hB⟩
set_option maxHeartbeats 2000000 in
theorem heldD0_any (ao : Option Addr) (c : Nat) (k : Int) (w : World) : Calls Tryd.prog 44 #[.slice ao 0 c, .int .i64 k] w fun e w' => e = .returned (.int .i64 k) ∧ Below w.heap.size w w' := by
  go_enter Tryd.func44, Tryd.ntmps44
  go_wp2
  go_loopw [1, 5] (fun kv iv wr => kv = .int .i64 k ∧ iv = .int .i64 0 ∧ Below w.heap.size w wr) (fun _ _ _ => 0)
  case atStart => exact ⟨rfl, rfl, Below.refl _ _⟩
  case round =>
    obtain ⟨rfl, rfl, hB⟩ := hrel
    go_wp2
    go_ret
    exact ⟨rfl, hB⟩
theorem markPD (v : Value) (L : List (Sp8 × Int)) (B : Nat) (w : World) (hn : L.length ≤ 1048576) (hB : B ≤ w.heap.size) (h : PD w v L B) : Calls Tryd.prog 43 #[v, .int .i64 1] w fun e w' => e = .returned (.int .i64 (1 + (L.length : Int) * 3)) ∧ MD w' v L.length ∧ Below B w w' := by
  obtain ⟨ao, c, rfl, hr⟩ := h
  rcases hr with h0 | ⟨g, N, f, rfl, hg, hN, hr, _⟩
  · rw [h0]
    refine (markD0_any ao c 1 w).mono ?_
    rintro e w' ⟨rfl, hb⟩
    exact ⟨by simp, ⟨ao, c, rfl, .inl rfl⟩, hb.mono hB⟩
  · refine (markD_any g L.length c N f 1 w hn hN ⟨by omega, by omega⟩ hr).mono ?_
    rintro e w' ⟨rfl, rfl⟩
    exact ⟨rfl, ⟨_, _, rfl, .inr ⟨g, N, f, rfl, hN, row_set hr _⟩⟩, Below_setRow (Below.refl _ _) hg _⟩
theorem heldMD (v : Value) (n : Nat) (w : World) (hn : n ≤ 1048576) (h : MD w v n) : Calls Tryd.prog 44 #[v, .int .i64 1] w fun e w' => e = .returned (.int .i64 (1 + (n : Int) * 3)) ∧ Below w.heap.size w w' := by
  obtain ⟨ao, c, rfl, hr⟩ := h
  rcases hr with rfl | ⟨g, N, f, rfl, hN, hr⟩
  · refine (heldD0_any ao c 1 w).mono ?_
    rintro e w' ⟨rfl, hb⟩
    exact ⟨by simp, hb⟩
  · exact heldD_any g n c N f 1 w hn hN ⟨by omega, by omega⟩ hr
end Go.Proofs.YtfgcpiipndhllaaDoor
namespace Go.Proofs.YtfgcpiipndhllaaDoor
open Go.RowKit
set_option maxRecDepth 100000
set_option linter.unusedVariables false
set_option linter.unusedSimpArgs false
theorem pst_rng {p : Pic} (h : no4 p) (st : Option (Int × Bool)) (hs : ∀ m fr, st = some (m, fr) → 0 ≤ m ∧ m ≤ 3) (q : Sp8) : ∀ m fr, pst p st q = some (m, fr) → 0 ≤ m ∧ m ≤ 3 := by
  intro m fr e
  rcases st with _ | ⟨m0, f0⟩
  · cases e
  · have hf := hs m0 f0 rfl
    have hq : 0 ≤ inkQ p q ∧ inkQ p q ≤ 3 := h (8 * q.1.2 + q.1.1) (by have := q.2.1; have := q.2.2; omega)
    unfold pst at e
    simp only [if_neg (show ¬ inkQ p q = 4 by omega)] at e
    split at e
    · cases e
    · have := Option.some.inj e
      have e1 := congrArg Prod.fst this
      simp only at e1
      omega
theorem pks_rng {p : Pic} (h : no4 p) (L : List Sp8) : ∀ st : Option (Int × Bool), (∀ m fr, st = some (m, fr) → 0 ≤ m ∧ m ≤ 3) → ∀ m fr, L.foldl (pst p) st = some (m, fr) → 0 ≤ m ∧ m ≤ 3 := by
  induction L with
  | nil => intro st hs m fr e; exact hs m fr e
  | cons q L ih => intro st hs; exact ih _ (pst_rng h st hs q)
theorem pink_rng {p : Pic} (h : no4 p) (L : List Sp8) (n : Int) (fr : Bool) (e : pinkO p L = some (n, fr)) : 0 ≤ n ∧ n ≤ 2 := by
  unfold pinkO at e
  cases hp : pks p L with
  | none => rw [hp] at e; cases e
  | some st =>
    obtain ⟨m, f⟩ := st
    rw [hp] at e
    have hf := pks_rng h L (some (0, false)) (fun m fr e => by have e1 := congrArg Prod.fst (Option.some.inj e); simp only at e1; omega) m f hp
    simp only at e
    split at e
    · cases e
    · have e1 := congrArg Prod.fst (Option.some.inj e); simp only at e1; omega
/-- the model's list is the program's -/
theorem nxT_ls {p : Pic} (h : no4 p) (a c : Nat) (q : Sp8) : nxT p (fun _ => false) a c q 3 = lsE p a c q := by
  have e0 := lpP_eq p (cov a c q.1.1 q.1.2) 0 (by omega) (by omega)
  have e1 := lpP_eq p (cov a c q.1.1 q.1.2) 1 (by omega) (by omega)
  have e2 := lpP_eq p (cov a c q.1.1 q.1.2) 2 (by omega) (by omega)
  have hr := fun n fr => pink_rng h (cov a c q.1.1 q.1.2) n fr
  have u : nxT p (fun _ => false) a c q 3 = ((([] ++ (if lpP p 0 (cov a c q.1.1 q.1.2) then [(q, (0 : Int))] else [])) ++ (if lpP p 1 (cov a c q.1.1 q.1.2) then [(q, (1 : Int))] else [])) ++ (if lpP p 2 (cov a c q.1.1 q.1.2) then [(q, (2 : Int))] else [])) := by
    have hc := comb_no p
    simp only [nxT, hc]
    rfl
  rw [u, e0, e1, e2]
  unfold lsE
  cases hp : pinkO p (cov a c q.1.1 q.1.2) with
  | none => rfl
  | some st =>
    obtain ⟨n, fr⟩ := st
    have := hr n fr hp
    have hn : n = 0 ∨ n = 1 ∨ n = 2 := by omega
    rcases hn with rfl | rfl | rfl <;> rfl
theorem nxL_ls {p : Pic} (h : no4 p) (a c : Nat) (l : List Sp8) : nxL p (fun _ => false) a c l = lsL p a c l := by
  induction l with
  | nil => rfl
  | cons q l ih =>
    have h1 : nxL p (fun _ => false) a c (q :: l) = nxT p (fun _ => false) a c q 3 ++ nxL p (fun _ => false) a c l := by simp [nxL]
    have h2 : lsL p a c (q :: l) = lsE p a c q ++ lsL p a c l := by simp [lsL]
    rw [h1, h2, ih, nxT_ls h]
theorem sld_nil (w : World) (ao : Option Addr) (cp B : Nat) : SlD w (.slice ao 0 cp) [] B := ⟨ao, cp, rfl, fun h => absurd h (by simp)⟩
set_option maxHeartbeats 1000000 in
theorem implLd_bad (p : Pic) (hf : p.fit) (h1 : okP p = false) (e : ErrE) (w : World) (hE : Errs e w) : Calls Tryd.prog 42 #[.agg p.row] w fun o w' => o = .returned (.tuple #[.slice none 0 0, .int .i64 1]) ∧ Below w.heap.size w w' := by
  have HC := Go.Lib.hid fun w hE => ckPic_bad p hf h1 e w hE
  have HK := Go.Lib.hid fun w hE => codeOf_1 e w hE
  have P : Hid ((w.alloc (.cells (vrow 66 p.at) 61)).heap[w.heap.size]? = some (.cells (vrow 66 p.at) 61)) := (heap_at _ _ _ (by simp))
  have hB : Hid (Below w.heap.size w (w.alloc (.cells (vrow 66 p.at) 61))) := Go.Lib.hid ((Below.refl w.heap.size w).alloc (by simp <;> omega) _)
  have E : Hid (Errs e (w.alloc (.cells (vrow 66 p.at) 61))) := Go.Lib.hid (hE.alloc _)
  go_enter Tryd.func42, Tryd.ntmps42
  go_wp2_with (first
    | go_skip
    | ((with_reducible refine wlAt 5 rfl ?_); refine wpList_ldm 61 (.tmp 1) rfl (by first | exact want_n rfl | exact want_g _ _ _ rfl rfl rfl) (w.heap.size) _ rfl 66 66 p.at _ rw_pic size_pic P.out (by omega) ?_; rw [pic_row])
    | (go_at_call 98; (refine (HC.out _ E.out).mono ?_); rintro o w1 ⟨rfl, hb⟩; replace P := Go.Lib.hid (row_next hb P.out); replace hB := Go.Lib.hid (below_next hB.out hb); replace E := Go.Lib.hid (E.out.next hb); clear hb)
    | (go_at_call 62; (refine (HK.out _ E.out).mono ?_); rintro o w1 ⟨rfl, hb⟩; replace P := Go.Lib.hid (row_next hb P.out); replace hB := Go.Lib.hid (below_next hB.out hb); replace E := Go.Lib.hid (E.out.next hb); clear hb))
  go_ret2
  exact ⟨rfl, hB.out⟩
set_option maxHeartbeats 1000000 in
theorem implLd_ok (p : Pic) (a c : Nat) (hf : p.fit) (h1 : okP p = true) (ea : p.wide = a) (ec : p.high = c) (ha : a ≤ 8) (hc : c ≤ 8) (e : ErrE) (w : World) (hE : Errs e w) : Calls Tryd.prog 42 #[.agg p.row] w fun o w' => ∃ v, o = .returned (.tuple #[v, .int .i64 0]) ∧ w'.ownsRow w.heap.size 66 3 v (lsL p a c (cellsL a c)).length (dvals (lsL p a c (cellsL a c))) ∧ Below w.heap.size w w' := by
  have HC := Go.Lib.hid fun w hE => ckPic_ok p hf h1 e w hE
  have HL := Go.Lib.hid fun w => lastDrops_any p a c w (okP_no4 hf h1) ea ec ha hc
  generalize lsL p a c (cellsL a c) = L at *
  have P : Hid ((w.alloc (.cells (vrow 66 p.at) 61)).heap[w.heap.size]? = some (.cells (vrow 66 p.at) 61)) := (heap_at _ _ _ (by simp))
  have hB : Hid (Below w.heap.size w (w.alloc (.cells (vrow 66 p.at) 61))) := Go.Lib.hid ((Below.refl w.heap.size w).alloc (by simp <;> omega) _)
  have E : Hid (Errs e (w.alloc (.cells (vrow 66 p.at) 61))) := Go.Lib.hid (hE.alloc _)
  go_enter Tryd.func42, Tryd.ntmps42
  go_wp2_with (first
    | go_skip
    | ((with_reducible refine wlAt 5 rfl ?_); refine wpList_ldm 61 (.tmp 1) rfl (by first | exact want_n rfl | exact want_g _ _ _ rfl rfl rfl) (w.heap.size) _ rfl 66 66 p.at _ rw_pic size_pic P.out (by omega) ?_; rw [pic_row])
    | ((with_reducible refine wlAt 11 rfl ?_); refine wpList_ldm 61 (.tmp 1) rfl (by first | exact want_n rfl | exact want_g _ _ _ rfl rfl rfl) (w.heap.size) _ rfl 66 66 p.at _ rw_pic size_pic P.out (by omega) ?_; rw [pic_row])
    | (go_at_call 98; (refine (HC.out _ E.out).mono ?_); rintro o w1 ⟨rfl, hb⟩; replace P := Go.Lib.hid (row_next hb P.out); replace hB := Go.Lib.hid (below_next hB.out hb); replace E := Go.Lib.hid (E.out.next hb); clear hb)
    | (go_at_call 96; (refine (HL.out _).mono ?_); rintro o w3 ⟨v, rfl, hO, hb⟩; have hbs := hB.out.size; replace hB := Go.Lib.hid (below_next hB.out hb); clear hb))
  go_ret2
  exact ⟨v, rfl, own_mono hbs hO, hB.out⟩
set_option maxHeartbeats 1000000 in
theorem specLd_bad (p : Pic) (hf : p.fit) (h1 : okP p = false) (w : World) : Calls Tryd.prog 41 #[.agg p.row] w fun o w' => ∃ v, o = .returned (.tuple #[v, .int .i64 1]) ∧ SlD w' v [] w'.heap.size ∧ Below w.heap.size w w' := by
  have HO := Go.Lib.hid fun w' h => okP_from w' p w.heap.size w' h hf (Below.refl _ _)
  rw [h1] at HO
  have P : Hid ((w.alloc (.cells (vrow 66 p.at) 61)).heap[w.heap.size]? = some (.cells (vrow 66 p.at) 61)) := (heap_at _ _ _ (by simp))
  have hB : Hid (Below w.heap.size w (w.alloc (.cells (vrow 66 p.at) 61))) := Go.Lib.hid ((Below.refl w.heap.size w).alloc (by simp <;> omega) _)
  go_enter Tryd.func41, Tryd.ntmps41
  go_wp2_with (first
    | go_skip
    | (go_at_call 83; (refine (HO.out _ P.out).mono ?_); rintro o w1 ⟨rfl, hb⟩; replace P := Go.Lib.hid (row_next hb P.out); replace hB := Go.Lib.hid (below_next hB.out hb); clear hb))
  go_ret2
  exact ⟨_, rfl, sld_nil _ _ _ _, hB.out.alloc hB.out.size _⟩
set_option maxHeartbeats 1000000 in
theorem specLd_ok (p : Pic) (a c : Nat) (hf : p.fit) (h1 : okP p = true) (ea : p.wide = a) (ec : p.high = c) (ha : 1 ≤ a ∧ a ≤ 8) (hc : 1 ≤ c ∧ c ≤ 8) (w : World) : Calls Tryd.prog 41 #[.agg p.row] w fun o w' => ∃ v, o = .returned (.tuple #[v, .int .i64 0]) ∧ SlD w' v (lsL p a c (cellsL a c)) w'.heap.size ∧ Below w.heap.size w w' := by
  have HO := Go.Lib.hid fun w' h => okP_from w' p w.heap.size w' h hf (Below.refl _ _)
  rw [h1] at HO
  have HN := Go.Lib.hid fun bo w' hs ho => lnext_any p (fun _ => false) w.heap.size bo a c w' hs ho hf (okP_no4 hf h1) ea ec ha hc
  rw [nxL_ls (okP_no4 hf h1)] at HN
  generalize lsL p a c (cellsL a c) = L at *
  have P : Hid ((w.alloc (.cells (vrow 66 p.at) 61)).heap[w.heap.size]? = some (.cells (vrow 66 p.at) 61)) := (heap_at _ _ _ (by simp))
  have hB : Hid (Below w.heap.size w (w.alloc (.cells (vrow 66 p.at) 61))) := Go.Lib.hid ((Below.refl w.heap.size w).alloc (by simp <;> omega) _)
  go_enter Tryd.func41, Tryd.ntmps41
  go_wp2_with (first
    | go_skip
    | (go_at_call 83; (refine (HO.out _ P.out).mono ?_); rintro o w1 ⟨rfl, hb⟩; replace P := Go.Lib.hid (row_next hb P.out); replace hB := Go.Lib.hid (below_next hB.out hb); clear hb)
    | ((with_reducible refine wlAt 7 rfl ?_); refine wpList_built rfl 153 [] rfl [] (by rfl) _ built_openC ?_)
    | (go_at_call 97; have O := Go.Lib.hid (heap_at w1 (.cells (vrow 64 (offF fun _ => false)) 153) _ rfl); replace P := Go.Lib.hid (heap_past w1 (.cells (vrow 64 (offF fun _ => false)) 153) _ _ (row_lt P.out) P.out); replace hB := Go.Lib.hid (hB.out.alloc hB.out.size (.cells (vrow 64 (offF fun _ => false)) 153)); (refine (HN.out _ _ P.out O.out).mono ?_); rintro o w3 ⟨v, rfl, hO, hb⟩; replace hB := Go.Lib.hid (below_next hB.out hb); clear hb))
  go_ret2
  exact ⟨v, rfl, (own_pd hO).slp, hB.out⟩
end Go.Proofs.YtfgcpiipndhllaaDoor
