import Derived.Test.YtfgcpiipndhllaaDoorDrB
import Derived.Test.YtfgcpiipndhllaaDoorPUnI
import Derived.Test.YtfgcpiipndhllaaDoorSamePic
import Derived.Test.YtfgcpiipndhllaaDoorCodeOf
namespace Go.Proofs.YtfgcpiipndhllaaDoor
open Go.RowKit
set_option maxRecDepth 100000
set_option linter.unusedVariables false
set_option linter.unusedSimpArgs false
attribute [local go_sem] Oper.semAt_some
set_option maxHeartbeats 1000000 in
theorem ck1_any (p : Pic) (b : Nat) (x y n : Int) (w : World) (hs : w.heap[b]? = some (.cells (vrow 66 p.at) 61)) : Calls Tryd.prog 138 #[.agg (vrow 3 (drAt x y n)), .pointer (some ⟨b, 0, none⟩)] w fun e w' => e = .returned (.bool (!canB p x y n)) ∧ Below w.heap.size w w' := by
  have HT := Go.Lib.hid fun w => takes_any p x y n w
  have P : Hid ((w.alloc (.cells (vrow 3 (drAt x y n)) 66)).heap[b]? = some (.cells (vrow 66 p.at) 61)) := heap_past _ _ _ _ (row_lt hs) hs
  have R : Hid ((w.alloc (.cells (vrow 3 (drAt x y n)) 66)).heap[w.heap.size]? = some (.cells (vrow 3 (drAt x y n)) 66)) := (heap_at _ _ _ (by simp))
  have hB : Hid (Below w.heap.size w (w.alloc (.cells (vrow 3 (drAt x y n)) 66))) := Go.Lib.hid ((Below.refl w.heap.size w).alloc (by simp <;> omega) _)
  clear hs
  generalize canB p x y n = v at *
  go_enter Tryd.func138, Tryd.ntmps138
  go_wp2_with (first
    | go_skip
    | ((with_reducible refine wlAt 4 rfl ?_); refine wpList_ldm 61 (.tmp 1) rfl (by first | exact want_n rfl | exact want_g _ _ _ rfl rfl rfl) (b) _ rfl 66 66 p.at _ rw_pic size_pic P.out (by omega) ?_; rw [pic_row])
    | ((with_reducible refine wlAt 5 rfl ?_); refine wpList_ldm 66 (.tmp 2) rfl (by first | exact want_n rfl | exact want_g _ _ _ rfl rfl rfl) (w.heap.size) _ rfl 3 3 (drAt x y n) _ rw_dr size_dr R.out (by omega) ?_; rw [dr_row0])
    | (go_at_call 139; (refine (HT.out _).mono ?_); rintro o w1 ⟨rfl, hb⟩; replace P := Go.Lib.hid (row_next hb P.out); replace R := Go.Lib.hid (row_next hb R.out); replace hB := Go.Lib.hid (below_next hB.out hb); clear hb))
  go_ret
  exact ⟨rfl, hB.out⟩
set_option maxHeartbeats 2000000 in
theorem idx_any (p : Pic) (b D n : Nat) (px py pn : Nat → Int) (w : World) (hs : w.heap[b]? = some (.cells (vrow 66 p.at) 61)) (hd : w.heap[D]? = some (.cells (vrow (n * 3) (drf px py pn)) 66)) (hn : n ≤ 100) : Calls Tryd.prog 175 #[.slice (some ⟨D, 0, none⟩) n n, .func (.func 138) #[] #[.pointer (some ⟨b, 0, none⟩)]] w fun e w' => (∃ r : Int, e = .returned (.int .i64 r) ∧ decide (0 ≤ r) = !canA p px py pn n) ∧ Below w.heap.size w w' := by
  have HC := Go.Lib.hid fun x y m w h => ck1_any p b x y m w h
  have P := Go.Lib.hid hs; have R := Go.Lib.hid hd; have hB := Go.Lib.hid (Below.refl w.heap.size w)
  clear hs hd
  go_enter Tryd.func175, Tryd.ntmps175
  go_wp2
  go_loopw [8] (fun iv wr => ∃ k : Nat, k ≤ n ∧ iv = .int .i64 k ∧ canA p px py pn k = true ∧ wr.heap[b]? = some (.cells (vrow 66 p.at) 61) ∧ wr.heap[D]? = some (.cells (vrow (n * 3) (drf px py pn)) 66) ∧ Below w.heap.size w wr) (fun iv _ => n - (intOf iv).toNat)
  case atStart => exact ⟨0, by omega, rfl, rfl, P.out, R.out, hB.out⟩
  case round =>
    clear P R hB
    obtain ⟨k, hk, rfl, hcA, P, R, hB⟩ := hrel
    by_cases hlt : k < n
    · have hkI : (k : Int) < (n : Int) := by omega
      have hk0 : (0 : Int) ≤ (k : Int) := by omega
      have hnl : (n : Int) ≤ 100 := by omega
      have hkd : decide ((k : Int) < (n : Int)) = true := by simpa using hkI
      replace HC := Go.Lib.hid fun w h => HC.out (px k) (py k) (pn k) w h
      replace P := Go.Lib.hid P; replace R := Go.Lib.hid R; replace hB := Go.Lib.hid hB
      have hst : canA p px py pn (k + 1) = (canA p px py pn k && canB p (px k) (py k) (pn k)) := rfl
      cases hq : canB p (px k) (py k) (pn k)
      · rw [hq] at HC
        have hno := Go.Lib.hid (canA_no hlt hq)
        clear hq hst
        go_wp2_with (first
          | go_skip
          | ((with_reducible refine wlAt 15 rfl ?_); refine wpList_loadmid rfl 66 (.tmp 14) rfl D (k * 3) rfl (n * 3) 3 (drf px py pn) 66 _ Tryd.underlying66 rfl size_dr R.out (by omega) ?_; rw [drf_three])
          | (go_at_call 138; (refine (HC.out _ P.out).mono ?_); rintro o w1 ⟨rfl, hb⟩; replace P := Go.Lib.hid (row_next hb P.out); replace R := Go.Lib.hid (row_next hb R.out); replace hB := Go.Lib.hid (below_next hB.out hb); clear hb))
        go_ret
        exact ⟨⟨_, rfl, by rw [hno.out]; simp⟩, hB.out⟩
      · rw [hq] at HC
        have hyes := Go.Lib.hid (show canA p px py pn (k + 1) = true by rw [hst, hcA, hq]; rfl)
        clear hq hst
        go_wp2_with (first
          | go_skip
          | ((with_reducible refine wlAt 15 rfl ?_); refine wpList_loadmid rfl 66 (.tmp 14) rfl D (k * 3) rfl (n * 3) 3 (drf px py pn) 66 _ Tryd.underlying66 rfl size_dr R.out (by omega) ?_; rw [drf_three])
          | (go_at_call 138; (refine (HC.out _ P.out).mono ?_); rintro o w1 ⟨rfl, hb⟩; replace P := Go.Lib.hid (row_next hb P.out); replace R := Go.Lib.hid (row_next hb R.out); replace hB := Go.Lib.hid (below_next hB.out hb); clear hb))
        go_roundw
        case rel => exact ⟨k + 1, by omega, by go_num, hyes.out, P.out, R.out, hB.out⟩
        case measure => simp [intOf]; omega
    · obtain rfl : k = n := by omega
      have hkd : decide ((k : Int) < (k : Int)) = false := by simp
      replace hcA := Go.Lib.hid hcA; replace hB := Go.Lib.hid hB
      go_wp2
      go_ret
      exact ⟨⟨_, rfl, by rw [hcA.out]; simp⟩, hB.out⟩
set_option maxHeartbeats 1000000 in
theorem con_any (p : Pic) (b D n : Nat) (px py pn : Nat → Int) (w : World) (hs : w.heap[b]? = some (.cells (vrow 66 p.at) 61)) (hd : w.heap[D]? = some (.cells (vrow (n * 3) (drf px py pn)) 66)) (hn : n ≤ 100) : Calls Tryd.prog 137 #[.slice (some ⟨D, 0, none⟩) n n, .func (.func 138) #[] #[.pointer (some ⟨b, 0, none⟩)]] w fun e w' => e = .returned (.bool (!canA p px py pn n)) ∧ Below w.heap.size w w' := by
  have HI := Go.Lib.hid (idx_any p b D n px py pn w hs hd hn)
  have hB := Go.Lib.hid (Below.refl w.heap.size w)
  clear hs hd
  generalize canA p px py pn n = v at *
  go_enter Tryd.func137, Tryd.ntmps137
  go_wp2_with (first
    | go_skip
    | (go_at_call 175; (refine HI.out.mono ?_); rintro o w1 ⟨⟨r, rfl, hr⟩, hb⟩; replace hB := Go.Lib.hid (below_next hB.out hb); clear hb))
  go_ret
  exact ⟨rfl, hB.out⟩
set_option maxHeartbeats 1000000 in
theorem ckAll_bad (p : Pic) (D n : Nat) (px py pn : Nat → Int) (hf : p.fit) (hv : okP p = false) (e : ErrE) (w : World) (hE : Errs e w) (hd : w.heap[D]? = some (.cells (vrow (n * 3) (drf px py pn)) 66)) : Calls Tryd.prog 89 #[.agg p.row, .slice (some ⟨D, 0, none⟩) n n] w fun o w' => o = .returned (errP e 1) ∧ Below w.heap.size w w' := by
  have HV := Go.Lib.hid fun w hE => ckPic_bad p hf hv e w hE
  have P : Hid ((w.alloc (.cells (vrow 66 p.at) 61)).heap[w.heap.size]? = some (.cells (vrow 66 p.at) 61)) := (heap_at _ _ _ (by simp))
  have hB : Hid (Below w.heap.size w (w.alloc (.cells (vrow 66 p.at) 61))) := Go.Lib.hid ((Below.refl w.heap.size w).alloc (by simp <;> omega) _)
  have E : Hid (Errs e (w.alloc (.cells (vrow 66 p.at) 61))) := Go.Lib.hid (hE.alloc _)
  have R : Hid ((w.alloc (.cells (vrow 66 p.at) 61)).heap[D]? = some (.cells (vrow (n * 3) (drf px py pn)) 66)) := heap_past _ _ _ _ (row_lt hd) hd
  clear hd
  go_enter Tryd.func89, Tryd.ntmps89
  go_wp2_with (first
    | go_skip
    | ((with_reducible refine wlAt 6 rfl ?_); refine wpList_ldm 61 (.tmp 2) rfl (by first | exact want_n rfl | exact want_g _ _ _ rfl rfl rfl) (w.heap.size) _ rfl 66 66 p.at _ rw_pic size_pic P.out (by omega) ?_; rw [pic_row])
    | (go_at_call 98; (refine (HV.out _ E.out).mono ?_); rintro o w1 ⟨rfl, hb⟩; replace P := Go.Lib.hid (row_next hb P.out); replace R := Go.Lib.hid (row_next hb R.out); replace hB := Go.Lib.hid (below_next hB.out hb); replace E := Go.Lib.hid (E.out.next hb); clear hb))
  go_ret
  exact ⟨rfl, hB.out⟩
set_option maxHeartbeats 1000000 in
theorem ckAll_lim (p : Pic) (D n : Nat) (px py pn : Nat → Int) (hf : p.fit) (hv : okP p = true) (hn : 100 < n) (e : ErrE) (w : World) (hE : Errs e w) (hd : w.heap[D]? = some (.cells (vrow (n * 3) (drf px py pn)) 66)) : Calls Tryd.prog 89 #[.agg p.row, .slice (some ⟨D, 0, none⟩) n n] w fun o w' => o = .returned (errP e 3) ∧ Below w.heap.size w w' := by
  have HV := Go.Lib.hid fun w hE => ckPic_ok p hf hv e w hE
  have hd1 : decide ((100 : Int) < (n : Int)) = true := by simp; omega
  have P : Hid ((w.alloc (.cells (vrow 66 p.at) 61)).heap[w.heap.size]? = some (.cells (vrow 66 p.at) 61)) := (heap_at _ _ _ (by simp))
  have hB : Hid (Below w.heap.size w (w.alloc (.cells (vrow 66 p.at) 61))) := Go.Lib.hid ((Below.refl w.heap.size w).alloc (by simp <;> omega) _)
  have E : Hid (Errs e (w.alloc (.cells (vrow 66 p.at) 61))) := Go.Lib.hid (hE.alloc _)
  have R : Hid ((w.alloc (.cells (vrow 66 p.at) 61)).heap[D]? = some (.cells (vrow (n * 3) (drf px py pn)) 66)) := heap_past _ _ _ _ (row_lt hd) hd
  clear hd
  go_enter Tryd.func89, Tryd.ntmps89
  go_wp2_with (first
    | go_skip
    | ((with_reducible refine wlAt 6 rfl ?_); refine wpList_ldm 61 (.tmp 2) rfl (by first | exact want_n rfl | exact want_g _ _ _ rfl rfl rfl) (w.heap.size) _ rfl 66 66 p.at _ rw_pic size_pic P.out (by omega) ?_; rw [pic_row])
    | (go_at_call 98; (refine (HV.out _ E.out).mono ?_); rintro o w1 ⟨rfl, hb⟩; replace P := Go.Lib.hid (row_next hb P.out); replace R := Go.Lib.hid (row_next hb R.out); replace hB := Go.Lib.hid (below_next hB.out hb); replace E := Go.Lib.hid (E.out.next hb); clear hb)
    | ((with_reducible refine wlOp (.load 107 (.global 2)) rfl ?_); refine wpList_ld1 107 _ rfl (by first | exact want_n rfl | exact want_g _ _ _ rfl rfl rfl) 2 0 rfl 1 (fun _ => errP e 3) _ rw_err E.out.v3 (by omega) ?_))
  go_ret
  exact ⟨rfl, hB.out⟩
set_option maxHeartbeats 1000000 in
theorem ckAll_rng (p : Pic) (D n : Nat) (px py pn : Nat → Int) (hf : p.fit) (hv : okP p = true) (hn : n ≤ 100) (hcan : canA p px py pn n = false) (e : ErrE) (w : World) (hE : Errs e w) (hd : w.heap[D]? = some (.cells (vrow (n * 3) (drf px py pn)) 66)) : Calls Tryd.prog 89 #[.agg p.row, .slice (some ⟨D, 0, none⟩) n n] w fun o w' => o = .returned (errP e 2) ∧ Below w.heap.size w w' := by
  have HV := Go.Lib.hid fun w hE => ckPic_ok p hf hv e w hE
  have HK := Go.Lib.hid fun W h1 h2 => con_any p w.heap.size D n px py pn W h1 h2 hn
  rw [hcan] at HK
  have hd1 : decide ((100 : Int) < (n : Int)) = false := by simp; omega
  have P : Hid ((w.alloc (.cells (vrow 66 p.at) 61)).heap[w.heap.size]? = some (.cells (vrow 66 p.at) 61)) := (heap_at _ _ _ (by simp))
  have hB : Hid (Below w.heap.size w (w.alloc (.cells (vrow 66 p.at) 61))) := Go.Lib.hid ((Below.refl w.heap.size w).alloc (by simp <;> omega) _)
  have E : Hid (Errs e (w.alloc (.cells (vrow 66 p.at) 61))) := Go.Lib.hid (hE.alloc _)
  have R : Hid ((w.alloc (.cells (vrow 66 p.at) 61)).heap[D]? = some (.cells (vrow (n * 3) (drf px py pn)) 66)) := heap_past _ _ _ _ (row_lt hd) hd
  clear hd
  go_enter Tryd.func89, Tryd.ntmps89
  go_wp2_with (first
    | go_skip
    | ((with_reducible refine wlAt 6 rfl ?_); refine wpList_ldm 61 (.tmp 2) rfl (by first | exact want_n rfl | exact want_g _ _ _ rfl rfl rfl) (w.heap.size) _ rfl 66 66 p.at _ rw_pic size_pic P.out (by omega) ?_; rw [pic_row])
    | (go_at_call 98; (refine (HV.out _ E.out).mono ?_); rintro o w1 ⟨rfl, hb⟩; replace P := Go.Lib.hid (row_next hb P.out); replace R := Go.Lib.hid (row_next hb R.out); replace hB := Go.Lib.hid (below_next hB.out hb); replace E := Go.Lib.hid (E.out.next hb); clear hb)
    | (go_at_call 137; (refine (HK.out _ P.out R.out).mono ?_); rintro o w1 ⟨rfl, hb⟩; replace P := Go.Lib.hid (row_next hb P.out); replace R := Go.Lib.hid (row_next hb R.out); replace hB := Go.Lib.hid (below_next hB.out hb); replace E := Go.Lib.hid (E.out.next hb); clear hb)
    | ((with_reducible refine wlOp (.load 107 (.global 1)) rfl ?_); refine wpList_ld1 107 _ rfl (by first | exact want_n rfl | exact want_g _ _ _ rfl rfl rfl) 1 0 rfl 1 (fun _ => errP e 2) _ rw_err E.out.v2 (by omega) ?_))
  go_ret
  exact ⟨rfl, hB.out⟩
set_option maxHeartbeats 1000000 in
theorem ckAll_ok (p : Pic) (D n : Nat) (px py pn : Nat → Int) (hf : p.fit) (hv : okP p = true) (hn : n ≤ 100) (hcan : canA p px py pn n = true) (e : ErrE) (w : World) (hE : Errs e w) (hd : w.heap[D]? = some (.cells (vrow (n * 3) (drf px py pn)) 66)) : Calls Tryd.prog 89 #[.agg p.row, .slice (some ⟨D, 0, none⟩) n n] w fun o w' => o = .returned .nilIface ∧ Below w.heap.size w w' := by
  have HV := Go.Lib.hid fun w hE => ckPic_ok p hf hv e w hE
  have HK := Go.Lib.hid fun W h1 h2 => con_any p w.heap.size D n px py pn W h1 h2 hn
  rw [hcan] at HK
  have hd1 : decide ((100 : Int) < (n : Int)) = false := by simp; omega
  have P : Hid ((w.alloc (.cells (vrow 66 p.at) 61)).heap[w.heap.size]? = some (.cells (vrow 66 p.at) 61)) := (heap_at _ _ _ (by simp))
  have hB : Hid (Below w.heap.size w (w.alloc (.cells (vrow 66 p.at) 61))) := Go.Lib.hid ((Below.refl w.heap.size w).alloc (by simp <;> omega) _)
  have E : Hid (Errs e (w.alloc (.cells (vrow 66 p.at) 61))) := Go.Lib.hid (hE.alloc _)
  have R : Hid ((w.alloc (.cells (vrow 66 p.at) 61)).heap[D]? = some (.cells (vrow (n * 3) (drf px py pn)) 66)) := heap_past _ _ _ _ (row_lt hd) hd
  clear hd
  go_enter Tryd.func89, Tryd.ntmps89
  go_wp2_with (first
    | go_skip
    | ((with_reducible refine wlAt 6 rfl ?_); refine wpList_ldm 61 (.tmp 2) rfl (by first | exact want_n rfl | exact want_g _ _ _ rfl rfl rfl) (w.heap.size) _ rfl 66 66 p.at _ rw_pic size_pic P.out (by omega) ?_; rw [pic_row])
    | (go_at_call 98; (refine (HV.out _ E.out).mono ?_); rintro o w1 ⟨rfl, hb⟩; replace P := Go.Lib.hid (row_next hb P.out); replace R := Go.Lib.hid (row_next hb R.out); replace hB := Go.Lib.hid (below_next hB.out hb); replace E := Go.Lib.hid (E.out.next hb); clear hb)
    | (go_at_call 137; (refine (HK.out _ P.out R.out).mono ?_); rintro o w1 ⟨rfl, hb⟩; replace P := Go.Lib.hid (row_next hb P.out); replace R := Go.Lib.hid (row_next hb R.out); replace hB := Go.Lib.hid (below_next hB.out hb); replace E := Go.Lib.hid (E.out.next hb); clear hb))
  go_ret
  exact ⟨rfl, hB.out⟩
/-- why drops are refused -/
def badD (p : Pic) (px py pn : Nat → Int) (n : Nat) (k : Int) : Prop := (okP p = false ∧ k = 1) ∨ (okP p = true ∧ 100 < n ∧ k = 3) ∨ (okP p = true ∧ n ≤ 100 ∧ canA p px py pn n = false ∧ k = 2)
theorem ckAll_err (p : Pic) (D n : Nat) (px py pn : Nat → Int) (k : Int) (hf : p.fit) (h : badD p px py pn n k) (e : ErrE) (w : World) (hE : Errs e w) (hd : w.heap[D]? = some (.cells (vrow (n * 3) (drf px py pn)) 66)) : Calls Tryd.prog 89 #[.agg p.row, .slice (some ⟨D, 0, none⟩) n n] w fun o w' => (o = .returned (errP e k.toNat) ∧ (k = 1 ∨ k = 2 ∨ k = 3)) ∧ Below w.heap.size w w' := by
  rcases h with ⟨h1, rfl⟩ | ⟨h1, h2, rfl⟩ | ⟨h1, h2, h3, rfl⟩
  · exact (ckAll_bad p D n px py pn hf h1 e w hE hd).mono fun o w' ⟨g1, g2⟩ => ⟨⟨g1, by simp⟩, g2⟩
  · exact (ckAll_lim p D n px py pn hf h1 h2 e w hE hd).mono fun o w' ⟨g1, g2⟩ => ⟨⟨g1, by simp⟩, g2⟩
  · exact (ckAll_rng p D n px py pn hf h1 h2 h3 e w hE hd).mono fun o w' ⟨g1, g2⟩ => ⟨⟨g1, by simp⟩, g2⟩
theorem codeOf_k (k : Int) (hk : k = 1 ∨ k = 2 ∨ k = 3) (e : ErrE) (w : World) (hE : Errs e w) : Calls Tryd.prog 62 #[errP e k.toNat] w fun o w' => o = .returned (.int .i64 k) ∧ Below w.heap.size w w' := by
  rcases hk with rfl | rfl | rfl
  · exact codeOf_1 e w hE
  · exact codeOf_2 e w hE
  · exact codeOf_3 e w hE
theorem errP_not_nil (e : ErrE) (k : Nat) : errP e k ≠ .nilIface := by unfold errP; simp
theorem pbuilt_zero : Tryd.prog.built 61 [] = some Pic.zero.row := by kernel_rfl
end Go.Proofs.YtfgcpiipndhllaaDoor
