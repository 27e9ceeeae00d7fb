import PyProof.Rows.All
import Wide.All
import OpenK.AllK
import Wide.FinOn
import HandS.Base
import HandS.Call
import HandS.List
import HandS.Comp
import HandS.Ends
import HandS.Words
import HandS.WordsList
import HandS.ForMost
import PyProof.ReprRoads
import HandS.Nested
import HandS.ExcInit
import HandS.ExcValue
import HandS.ExcIs
import HandS.IsInst
import HandS.FStr
import HandS.ClsMeth
import KE.KExcIs
import KE.KExcSuper
import KE.KExcMake
import HandS.ExcField
import HandS.Flow
import KE.KExcLine
import PySem.Challenge.RW_cavesweep_k16_errors
set_option Elab.async false
set_option linter.all false
set_option maxRecDepth 100000
set_option maxHeartbeats 8000000
namespace Cv
open PySem PySem.Spec PyProof.Rows L2
def topS (i : Nat) : Stmt := PySem.Challenge.pw_cavesweep_k16_errors.main.body.getD i (.Pass ⟨0, 0, 0, 0⟩)
abbrev sPen : Stmt := topS 21
abbrev sNext : Stmt := topS 22
abbrev sDraw : Stmt := topS 23
theorem scPen : FnScope ["script"] ["script"] (defScope sPen) := ⟨rfl, rfl, rfl, by decide +kernel, rfl, by decide +kernel, by decide +kernel⟩
theorem scNext : FnScope ["pen", "spot_here", "cell_here", "some", "more", "high"] ["pen"] (defScope sNext) := ⟨rfl, rfl, rfl, by decide +kernel, rfl, by decide +kernel, by decide +kernel⟩
theorem scDraw : FnScope ["pen", "under", "digit"] ["pen", "under"] (defScope sDraw) := ⟨rfl, rfl, rfl, by decide +kernel, rfl, by decide +kernel, by decide +kernel⟩

/-- the pen at p, its list of numbers at l, at most N numbers were asked so far -/
structure PenAt (H : Hp) (p l : Addr) (N : Nat) : Prop where
  ex : ∃ i r : Int, H p = some (.lst [.ref l, .int i, .int r]) ∧ 0 ≤ i ∧ i ≤ (N : Int) ∧ 0 ≤ r
  ls : ∃ ns : List Int, H l = some (.lst (ns.map V.int)) ∧ ns.length ≤ 60
  ne : p ≠ l
theorem same_upd {H : Hp} {p : Addr} {o : HO} (h : H p = none) : Same H (upd H p o) := fun b x e => by
  rw [upd_ne (ne_of_none e h)]
  exact e
/-- all but p stands as it was -/
def But (p : Addr) (H H' : Hp) : Prop := ∀ b o, H b = some o → b ≠ p → H' b = some o
theorem But.refl (p : Addr) (H : Hp) : But p H H := fun _ _ h _ => h
theorem But.trans {p : Addr} {H H1 H2 : Hp} (a : But p H H1) (b : But p H1 H2) : But p H H2 := fun c o h n => b c o (a c o h n) n
theorem Same.but {p : Addr} {H H' : Hp} (a : Same H H') : But p H H' := fun c o h _ => a c o h
theorem But.upd {p : Addr} {H : Hp} {o : HO} : But p H (upd H p o) := fun b x e n => by rw [upd_ne n]; exact e
theorem PenAt.keep {H H' : Hp} {p l : Addr} {N : Nat} (P : PenAt H p l N) (s : Same H H') : PenAt H' p l N := by
  obtain ⟨⟨i, r, e, h⟩, ⟨ns, e2, h2⟩, ne⟩ := P
  exact ⟨⟨i, r, s _ _ e, h⟩, ⟨ns, s _ _ e2, h2⟩, ne⟩
theorem PenAt.more {H : Hp} {p l : Addr} {N M : Nat} (P : PenAt H p l N) (h : N ≤ M) : PenAt H p l M := by
  obtain ⟨⟨i, r, e, h0, h1, h2⟩, q, n⟩ := P
  exact ⟨⟨i, r, e, h0, by omega, h2⟩, q, n⟩
def spPen (K : PySem.W.Frag) : Sp := fun vs H Q _ => ∃ (a : Addr) (ns : List Int), vs = [.ref a] ∧ SqL K H a (ns.map V.int) ∧
  ∀ H' p l, Same H H' → H p = none → H l = none → PenAt H' p l 0 → Q (.ref p) H'
def spNext : Sp := fun vs H Q _ => ∃ (p l : Addr) (N : Nat), vs = [.ref p] ∧ PenAt H p l N ∧ N < 4611686018427387904 ∧
  ∀ H' (v : Int), 0 ≤ v → PenAt H' p l (N + 1) → But p H H' → Q (.int v) H'
def spDraw : Sp := fun vs H Q _ => ∃ (p l : Addr) (N : Nat) (u : Int), vs = [.ref p, .int u] ∧ PenAt H p l N ∧ N < 4611686018427387904 ∧ 0 < u ∧ u < 1073741824 ∧
  ∀ H' (d : Int), 0 ≤ d → d < u → PenAt H' p l (N + 1) → But p H H' → Q (.int d) H'
structure TxtP (mg : Str → Option Value) : Prop where
  len : mg "len" = none
  int : mg "int" = none
  list : mg "list" = none
section
variable {P : Program} {w : World} {K : PySem.W.Frag} {mg : Str → Option Value} {base : Heap}
theorem cut60 (ns : List Int) : ∃ ms : List Int, cutV (ns.map V.int) none (some 60) = ms.map V.int ∧ ms.length ≤ 60 := by
  refine ⟨ns.take 60, ?_, by rw [List.length_take]; omega⟩
  unfold cutV
  rw [HT.sIx_none, show HT.sIx (ns.map V.int).length (ns.map V.int).length (some 60) = min 60 (ns.map V.int).length from HT.sIx_nat _ _ 60, List.drop_zero, Nat.sub_zero, List.map_take]
  rw [List.take_eq_take_iff]
  omega
theorem ok_pen {f : Addr} {fd : FuncData} {k : Nat} (F : Fun K "_law_pen" "_law_pen" sPen f fd) (T : TxtP mg) : FnOk P w K mg base CX0 (k + 1) f fd ["script"] (spPen K) := by
  refine F.ok scPen (fun vs H Q E h => ?_) (fun cdv A outer s H vs Q E hr h => ?_)
  · obtain ⟨a, ns, rfl, _⟩ := h
    rfl
  · obtain ⟨a, ns, rfl, hS, q⟩ := h
    refine ⟨_, pss_one (ps_ret (pe_lst (pa_cons (pe_callTy call_list_of (by rfl) T.list (by decide +kernel) (pa_cons (pe_slice sl_list (pv 0) po_none (po_some pe_int)) pa_nil)) (pa_cons pe_int (pa_cons pe_int pa_nil))))), ?_⟩
    obtain ⟨ms, em, hm⟩ := cut60 ns
    refine ⟨.ref a, rfl, 60, rfl, a, _, rfl, hS, fun c nc => ⟨c, _, rfl, .inl (.inl (.inl upd_same)), fun l nl => ?_⟩⟩
    rw [em] at nl ⊢
    refine ⟨(by show 3 ≤ sizeLine; decide), fun p np => ?_⟩
    have s1 := same_upd (o := .lst (ms.map V.int)) nc
    have s2 := same_upd (o := .lst (ms.map V.int)) nl
    have s3 := same_upd (o := .lst [.ref l, .int 0, .int 0]) np
    have npl : p ≠ l := fun e => by
      rw [e, upd_same] at np
      cases np
    have nl0 : H l = none := s1.free nl
    have np0 : H p = none := s1.free (s2.free np)
    exact q _ p l (s1.trans (s2.trans s3)) np0 nl0 ⟨⟨0, 0, upd_same, by omega, by omega, by omega⟩, ⟨ms, by rw [upd_ne npl.symm, upd_same], hm⟩, npl⟩
theorem lay_ints : ∀ ns : List Int, PyData.canLayAll0 (ns.map PyData.int) = true
  | [] => by simp [PyData.canLayAll0]
  | z :: zs => by simp [PyData.canLayAll0, PyData.canLay0, lay_ints zs]
theorem depth_ints : ∀ ns : List Int, PyData.depthAll (ns.map PyData.int) ≤ 2
  | [] => by simp [PyData.depthAll]
  | z :: zs => by
    have h1 := depth_ints zs
    simp only [List.map_cons, PyData.depthAll, PyData.depth]
    omega
theorem shaped_ints (ns : List Int) : SeqAt.shaped (PyData.list (ns.map PyData.int)) = true := by
  have h1 := depth_ints ns
  have h2 : PyData.depth (.list (ns.map PyData.int)) ≤ 64 := by
    simp only [PyData.depth]
    omega
  show (PyData.canLay0 (.list (ns.map PyData.int)) && decide (PyData.depth (.list (ns.map PyData.int)) ≤ 64)) = true
  rw [Bool.and_eq_true]
  exact ⟨by simp only [PyData.canLay0]; exact lay_ints ns, decide_eq_true h2⟩
theorem dp_ints {H : Hp} : ∀ ns : List Int, DpAll K H (ns.map V.int) (ns.map PyData.int)
  | [] => .nil
  | _ :: r => .cons (.int _) (dp_ints r)
theorem eqv_nil (ns : List Int) : PyData.eqv (.list (ns.map PyData.int)) (.list []) = decide (ns = []) := by
  cases ns with
  | nil => simp [PyData.eqv, PyData.eqvAll]
  | cons x r => simp [PyData.eqv, PyData.eqvAll]
theorem p1 : (0 : Int) < 2147483587 := by decide
theorem p2 : (0 : Int) < 2147483563 := by decide
theorem p3 : (0 : Int) < 2147483549 := by decide
theorem cm {x y m : Int} (h : 0 < m) (h2 : m < 18446744073709551616) : CMul (x % m) y := by
  have h3 := Int.emod_nonneg x (show m ≠ 0 by omega)
  have h4 := Int.emod_lt_of_pos x h
  exact .inl ⟨by omega, by omega⟩
theorem big_nonneg {h b a : Int} (h0 : 0 ≤ h) (b0 : 0 ≤ b) (a0 : 0 ≤ a) : 0 ≤ (h * 2147483587 + b) * 2147483563 + a := by omega
theorem ok_next {f : Addr} {fd : FuncData} {k : Nat} (F : Fun K "_law_next" "_law_next" sNext f fd) (T : TxtP mg) : FnOk P w K mg base CX0 (k + 1) f fd ["pen"] spNext := by
  refine F.ok scNext (fun vs H Q E h => ?_) (fun cdv A outer s H vs Q E hr h => ?_)
  · obtain ⟨p, l, N, rfl, _⟩ := h
    rfl
  · obtain ⟨p, l, N, rfl, ⟨⟨i, r, hp, i0, i1, r0⟩, ⟨ns, hl, hn⟩, npl⟩, hN, q⟩ := h
    refine ⟨_, pss_cons (ps_set (i := 1) scNext.nd rfl (.inl rfl) (pe_ix ix_list (pv 0) pe_int (fun _ _ => rfl)))
      (pss_cons (ps_asg (pe_op op_add (pv 1) pe_int) (pg_sub (pv 0) pe_int set_list))
      (pss_cons (ps_set (i := 2) scNext.nd rfl (.inl rfl) (pe_op op_add (pe_op op_mul (pv 1) pe_int) pe_int))
      (pss_cons (ps_if (pt_cmpR (op_neD hr.units) (pe_ix ix_list (pv 0) pe_int (fun _ _ => rfl)) (pe_lst pa_nil) (nomark _))
        (pss_one (ps_set (i := 2) scNext.nd rfl (.inl rfl) (pe_ix ix_list (pe_ix ix_list (pv 0) pe_int (fun _ _ => rfl))
          (pe_op op_mod (pe_callTy call_int1 (by rfl) T.int (by decide +kernel) (pa_cons (pv 1) pa_nil)) (pe_callB call_len_seq (by rfl) T.len PySem.boot_len (pa_cons (pe_ix ix_list (pv 0) pe_int (fun _ _ => rfl)) pa_nil))) (fun _ _ => rfl))))
        pss_nil)
      (pss_cons (ps_if (PW.pt (pw_and (pt_cmpR op_lt (pv 1) (pe_callB call_len_seq (by rfl) T.len PySem.boot_len (pa_cons (pe_ix ix_list (pv 0) pe_int (fun _ _ => rfl)) pa_nil)) (nomark _))
          (pw_and1 (pt_cmpR op_ge (pv 2) (pe_op op_pow pe_int pe_int) (nomark _)))))
        (pss_one (ps_ret (pv 2))) pss_nil)
      (pss_cons (ps_set (i := 3) scNext.nd rfl (.inl rfl) (pe_op op_mod (pe_callTy call_int1 (by rfl) T.int (by decide +kernel) (pa_cons
          (pe_op op_add (pe_op op_add (pe_op op_mod (pe_callTy call_int1 (by rfl) T.int (by decide +kernel) (pa_cons (pv 2) pa_nil)) pe_int) (pe_op op_mul (pv 1) pe_int)) pe_int) pa_nil)) pe_int))
      (pss_cons (ps_set (i := 4) scNext.nd rfl (.inl rfl) (pe_op op_mod (pe_callTy call_int1 (by rfl) T.int (by decide +kernel) (pa_cons
          (pe_op op_add (pe_op op_add (pe_op op_mul (pv 3) (pv 3)) (pe_op op_mul (pv 1) pe_int)) pe_int) pa_nil)) pe_int))
      (pss_cons (ps_set (i := 5) scNext.nd rfl (.inl rfl) (pe_op op_mod (pe_callTy call_int1 (by rfl) T.int (by decide +kernel) (pa_cons
          (pe_op op_add (pe_op op_add (pe_op op_mul (pv 4) (pv 4)) (pv 3)) (pe_op op_mul (pe_op op_mul (pv 1) (pv 1)) pe_int)) pa_nil)) pe_int))
      (pss_one (ps_ret (pe_op op_add (pe_op op_mul (pe_op op_add (pe_op op_mul (pv 5) pe_int) (pv 4)) pe_int) (pv 3))))))))))), ?_⟩
    -- index = pen[1]; pen[1] = index + 1; cell = index * 1051 + 53
    refine ⟨.ref p, rfl, p, _, 1, .int i, rfl, rfl, SqL.of hp, atI_nat (j := 1) rfl, ?_⟩
    refine ⟨.int i, rfl, i, 1, rfl, rfl, .ref p, rfl, p, _, 1, 1, rfl, rfl, hp, rfl, ?_⟩
    refine ⟨.int i, rfl, i, 1051, rfl, rfl, .inr ⟨by decide, by decide⟩, _, 53, rfl, rfl, ?_⟩
    have hn' : (ns.map V.int).length = ns.length := List.length_map ..
    -- if pen[0] != []
    refine ⟨.ref p, rfl, p, _, 0, .ref l, rfl, rfl, SqL.of upd_same, atI_nat (j := 0) rfl, Nat.zero_le _, fun e ne => ?_⟩
    have s1 := same_upd (o := .lst []) ne
    have np : p ≠ e := ne_of_none (upd_same (H := H)) ne
    have hp1 : (upd (upd H p (.lst [.ref l, .int (i + 1), .int r])) e (.lst [])) p = some (.lst [.ref l, .int (i + 1), .int r]) := s1 _ _ upd_same
    have hl1 : (upd (upd H p (.lst [.ref l, .int (i + 1), .int r])) e (.lst [])) l = some (.lst (ns.map V.int)) := s1 _ _ (by rw [upd_ne npl.symm]; exact hl)
    have bt : But p H (upd (upd H p (.lst [.ref l, .int (i + 1), .int r])) e (.lst [])) := But.upd.trans (Same.but s1)
    have q' : ∀ v : Int, 0 ≤ v → Q (.int v) (upd (upd H p (.lst [.ref l, .int (i + 1), .int r])) e (.lst [])) := fun v hv =>
      q _ v hv ⟨⟨i + 1, r, hp1, by omega, by omega, r0⟩, ⟨ns, hl1, hn⟩, npl⟩ bt
    refine ⟨.list (ns.map .int), .list [], .lst (SqL.of (s1 _ _ (by rw [upd_ne npl.symm]; exact hl))) (dp_ints ns), .lst (SqL.of upd_same) .nil, shaped_ints ns, shaped_ints [], _, rfl, ?_⟩
    rw [eqv_nil]
    refine ite2 (fun hc => ?_) (fun hc => ?_)
    · have ne0 : ns ≠ [] := fun z => by simp [z] at hc
      have lp : 0 < ns.length := List.length_pos_iff.mpr ne0
      have k0 := Int.emod_nonneg i (show ((ns.length : Nat) : Int) ≠ 0 by omega)
      have k1 := Int.emod_lt_of_pos i (show (0 : Int) < ((ns.length : Nat) : Int) by omega)
      refine ⟨.ref p, rfl, p, _, 0, .ref l, rfl, rfl, SqL.of hp1, atI_nat (j := 0) rfl, .int i, rfl, .inl ⟨i, rfl, .ref p, rfl, p, _, 0, .ref l, rfl, rfl, SqL.of hp1, atI_nat (j := 0) rfl, l, _, rfl, .inl (SqL.of hl1), i, _, rfl, rfl, (by rw [hn']; omega), l, _, _, .int ns[(i % ((ns.length : Nat) : Int)).toNat], rfl, rfl, SqL.of hl1, ?_, ?_⟩⟩
      · refine at_of (j := (i % ((ns.length : Nat) : Int)).toNat) (by rw [hn']; omega) ?_
        rw [List.getElem?_map, List.getElem?_eq_getElem (by omega)]
        rfl
      · generalize ns[(i % ((ns.length : Nat) : Int)).toNat] = c
        refine ⟨.int i, rfl, .ref p, rfl, p, _, 0, .ref l, rfl, rfl, SqL.of hp1, atI_nat (j := 0) rfl, l, _, rfl, .inl (SqL.of hl1), _, _, rfl, rfl, _, rfl, ?_⟩
        refine ite2 (fun e1 => ⟨.int c, rfl, 10, 18, rfl, rfl, ⟨by decide, by decide, by decide⟩, _, _, rfl, rfl, _, rfl, ite2 (fun e2 => ⟨.int c, rfl, q' c ?_⟩) (fun e2 => ?_)⟩) (fun e1 => ?_)
        · have z := of_decide_eq_true e2
          exact Int.le_trans (by decide) z
        all_goals
          refine ⟨.int c, rfl, .inl ⟨c, rfl, c, 2147483587, rfl, rfl, p1, .int i, rfl, i, 30103, rfl, rfl, .inr ⟨by decide, by decide⟩, _, _, rfl, rfl, _, _, rfl, rfl, .inl ⟨_, rfl, _, _, rfl, rfl, p1, ?_⟩⟩⟩
          refine ⟨_, rfl, _, rfl, _, _, rfl, rfl, cm (by decide) (by decide), .int i, rfl, i, 70039, rfl, rfl, .inr ⟨by decide, by decide⟩, _, _, rfl, rfl, _, _, rfl, rfl, .inl ⟨_, rfl, _, _, rfl, rfl, p2, ?_⟩⟩
          refine ⟨_, rfl, _, rfl, _, _, rfl, rfl, cm (by decide) (by decide), _, rfl, _, _, rfl, rfl, .int i, rfl, .int i, rfl, i, i, rfl, rfl, .inl ⟨by omega, by omega⟩, _, _, rfl, rfl, .inr ⟨by decide, by decide⟩, _, _, rfl, rfl, .inl ⟨_, rfl, _, _, rfl, rfl, p3, ?_⟩⟩
          refine ⟨_, rfl, _, _, rfl, rfl, cm (by decide) (by decide), _, rfl, _, _, rfl, rfl, _, _, rfl, rfl, .inr ⟨by decide, by decide⟩, _, rfl, _, _, rfl, rfl, ?_⟩
          exact q' _ (big_nonneg (Int.emod_nonneg _ (by decide)) (Int.emod_nonneg _ (by decide)) (Int.emod_nonneg _ (by decide)))
    · refine ⟨.int i, rfl, .ref p, rfl, p, _, 0, .ref l, rfl, rfl, SqL.of hp1, atI_nat (j := 0) rfl, l, _, rfl, .inl (SqL.of hl1), _, _, rfl, rfl, _, rfl, ?_⟩
      refine ite2 (fun e1 => ⟨_, rfl, 10, 18, rfl, rfl, ⟨by decide, by decide, by decide⟩, _, _, rfl, rfl, _, rfl, ite2 (fun e2 => ⟨_, rfl, q' _ ?_⟩) (fun e2 => ?_)⟩) (fun e1 => ?_)
      · have z := of_decide_eq_true e2
        exact Int.le_trans (by decide) z
      all_goals
        refine ⟨_, rfl, .inl ⟨_, rfl, _, 2147483587, rfl, rfl, p1, .int i, rfl, i, 30103, rfl, rfl, .inr ⟨by decide, by decide⟩, _, _, rfl, rfl, _, _, rfl, rfl, .inl ⟨_, rfl, _, _, rfl, rfl, p1, ?_⟩⟩⟩
        refine ⟨_, rfl, _, rfl, _, _, rfl, rfl, cm (by decide) (by decide), .int i, rfl, i, 70039, rfl, rfl, .inr ⟨by decide, by decide⟩, _, _, rfl, rfl, _, _, rfl, rfl, .inl ⟨_, rfl, _, _, rfl, rfl, p2, ?_⟩⟩
        refine ⟨_, rfl, _, rfl, _, _, rfl, rfl, cm (by decide) (by decide), _, rfl, _, _, rfl, rfl, .int i, rfl, .int i, rfl, i, i, rfl, rfl, .inl ⟨by omega, by omega⟩, _, _, rfl, rfl, .inr ⟨by decide, by decide⟩, _, _, rfl, rfl, .inl ⟨_, rfl, _, _, rfl, rfl, p3, ?_⟩⟩
        refine ⟨_, rfl, _, _, rfl, rfl, cm (by decide) (by decide), _, rfl, _, _, rfl, rfl, _, _, rfl, rfl, .inr ⟨by decide, by decide⟩, _, rfl, _, _, rfl, rfl, ?_⟩
        exact q' _ (big_nonneg (Int.emod_nonneg _ (by decide)) (Int.emod_nonneg _ (by decide)) (Int.emod_nonneg _ (by decide)))
theorem ok_draw {f fN : Addr} {fd fdN : FuncData} {k : Nat} (F : Fun K "_law_draw" "_law_draw" sDraw f fd) (T : TxtP mg) (FN : Fun K "_law_next" "_law_next" sNext fN fdN) (bN : Binds K fdN ["pen"] []) (gN : mg "_law_next" = some (.ref fN)) :
    FnOk P w K mg base CX0 (k + 2) f fd ["pen", "under"] spDraw := by
  have GN : FnOk P w K mg base CX0 (k + 1) fN fdN ["pen"] spNext := ok_next FN T
  refine F.ok scDraw (fun vs H Q E h => ?_) (fun cdv A outer s H vs Q E hr h => ?_)
  · obtain ⟨p, l, N, u, rfl, _⟩ := h
    rfl
  · obtain ⟨p, l, N, u, rfl, PA0, hN, u0, u1, q⟩ := h
    refine ⟨_, pss_cons (ps_if (pt_cmpR op_lt (pe_ix ix_list (pv 0) pe_int (fun _ _ => rfl)) (pv 1) (nomark _))
        (pss_one (ps_asg (pe_call GN hr (by rfl) gN FN.kp bN .nil pass0 (pa_cons (pv 0) pa_nil)) (pg_sub (pv 0) pe_int set_list))) pss_nil)
      (pss_cons (ps_set (i := 2) scDraw.nd rfl (.inl rfl) (pe_op op_modN (pe_callTy call_int1 (by rfl) T.int (by decide +kernel) (pa_cons (pe_ix ix_list (pv 0) pe_int (fun _ _ => rfl)) pa_nil)) (pv 1)))
      (pss_cons (ps_asg (pe_op op_fdivN (pe_ix ix_list (pv 0) pe_int (fun _ _ => rfl)) (pv 1)) (pg_sub (pv 0) pe_int set_list))
      (pss_one (ps_ret (pv 2))))), ?_⟩
    have rest : ∀ (H1 : Hp), PenAt H1 p l (N + 1) → But p H H1 → ∃ i x : Int, H1 p = some (.lst [.ref l, .int i, .int x]) ∧ 0 ≤ x ∧ 0 ≤ x.fmod u ∧ x.fmod u < u ∧
        (∀ H3, H3 = upd H1 p (.lst [.ref l, .int i, .int (x.fdiv u)]) → Q (.int (x.fmod u)) H3) := by
      intro H1 PA1 b1
      obtain ⟨⟨i, x, hp, i0, i1, x0⟩, ⟨ns, hl, hn⟩, npl⟩ := PA1
      have m0 : x.fmod u = x % u := Int.fmod_eq_emod_of_nonneg x (by omega)
      have d0 : x.fdiv u = x / u := Int.fdiv_eq_ediv_of_nonneg x (by omega)
      have k0 := Int.emod_nonneg x (show u ≠ 0 by omega)
      have k1 := Int.emod_lt_of_pos x u0
      have k2 : 0 ≤ x / u := Int.ediv_nonneg x0 (by omega)
      refine ⟨i, x, hp, x0, by omega, by omega, fun H3 e3 => ?_⟩
      subst e3
      exact q _ _ (by omega) (by omega) ⟨⟨i, _, upd_same, i0, by omega, by omega⟩, ⟨ns, by rw [upd_ne npl.symm]; exact hl, hn⟩, npl⟩ (b1.trans But.upd)
    have P0 := id PA0
    obtain ⟨⟨i, x, hp, i0, i1, x0⟩, ⟨ns, hl, hn⟩, npl⟩ := P0
    refine ⟨.ref p, rfl, p, _, 2, .int x, rfl, rfl, SqL.of hp, atI_nat (j := 2) rfl, .int u, rfl, _, _, rfl, rfl, _, rfl, ite2 (fun e => ?_) (fun e => ?_)⟩
    · refine ⟨.ref p, rfl, p, l, N, rfl, PA0, hN, fun H1 v v0 PA1 b1 => ?_⟩
      obtain ⟨⟨j, y, hp1, j0, j1, y0⟩, ⟨ms, hl1, hm⟩, _⟩ := id PA1
      have PA2 : PenAt (upd H1 p (.lst [.ref l, .int j, .int v])) p l (N + 1) := ⟨⟨j, v, upd_same, j0, j1, v0⟩, ⟨ms, by rw [upd_ne npl.symm]; exact hl1, hm⟩, npl⟩
      obtain ⟨j2, z, hp2, z0, f0, f1, q2⟩ := rest _ PA2 (b1.trans But.upd)
      refine ⟨.ref p, rfl, p, _, 2, 2, rfl, rfl, hp1, rfl, ?_⟩
      refine ⟨.ref p, rfl, p, _, 2, .int z, rfl, rfl, SqL.of hp2, atI_nat (j := 2) rfl, .inl ⟨z, rfl, .int u, rfl, z, u, rfl, rfl, (by omega), ?_⟩⟩
      refine ⟨.ref p, rfl, p, _, 2, .int z, rfl, rfl, SqL.of hp2, atI_nat (j := 2) rfl, .int u, rfl, z, u, rfl, rfl, ⟨by omega, by omega⟩, .ref p, rfl, p, _, 2, 2, rfl, rfl, hp2, rfl, ?_⟩
      exact ⟨_, rfl, q2 _ rfl⟩
    · obtain ⟨j2, z, hp2, z0, f0, f1, q2⟩ := rest H (PA0.more (by omega)) (But.refl p H)
      refine ⟨.ref p, rfl, p, _, 2, .int z, rfl, rfl, SqL.of hp2, atI_nat (j := 2) rfl, .inl ⟨z, rfl, .int u, rfl, z, u, rfl, rfl, (by omega), ?_⟩⟩
      refine ⟨.ref p, rfl, p, _, 2, .int z, rfl, rfl, SqL.of hp2, atI_nat (j := 2) rfl, .int u, rfl, z, u, rfl, rfl, ⟨by omega, by omega⟩, .ref p, rfl, p, _, 2, 2, rfl, rfl, hp2, rfl, ?_⟩
      exact ⟨_, rfl, q2 _ rfl⟩
end
end Cv

/-! the law's own call, from the caller that stands around it (nothing is being written as a text there), and repr of data -/
namespace CvG
open PySem PySem.Spec PyProof.Rows L2
section
variable {P : Program} {w : World} {K : PySem.W.Frag} {mg : Str → Option Value} {base : Heap}
/-- what a law's def promises when the row's caller calls it -/
def LawRun (P : Program) (w : World) (K : PySem.W.Frag) (mg : Str → Option Value) (base : Heap) (f : Addr) (sp : Sp) : Prop :=
  ∀ (st : Shared) (G : Hp) (a : Addr) (Q : VK), Env0 P w K mg base callerA [] st G → sp [.ref a] G Q (fun _ _ _ => False) →
    codeAny (model P w) callerA (.call (.ref f) ⟨[.ref a], []⟩) (CR CX0 [] P w G st Q (fun _ _ _ => False)) st
theorem law_of {x qual y : Str} {st : Stmt} {f : Addr} {fd : FuncData} {N : List Str} {sp : Sp} {k : Nat} (F : Fun K x qual st f fd) (S : FnScope N [y] (defScope st)) (hr : Room (k + 1) callerA)
    (hb : ∀ (m : Shared) (u : Value), BindsTo m fd ⟨[u], []⟩ [(y, u)])
    (walk : ∀ (cdv : Value) (m : Shared) (G : Hp) (vs : List V) (Q : VK) (E : XK), Room k (callerA.deeper (envOfC qual (defScope st) m.heap.objs.size f cdv)) → sp vs G Q E →
      ∃ t, PSs (cxOf CX0 P w K mg base N qual (defScope st) f cdv callerA [] m G E).nox (defBody st) t ∧ t { nx := fun _ H' => Q .non H', rt := Q } (start N vs) G) : LawRun P w K mg base f sp := by
  intro m G a Q e0 hsp
  obtain ⟨oc, od, kV, doc, pm, an, cdv, ct, osl, efd, lk, hcd⟩ := F.ex
  subst efd
  have inK : K.In m.heap := e0.mod.kin.keeps fun b o z => (e0.bs b o z).1
  have free : m.heap.NoLimit := e0.mod.nolimit.keeps fun b o z => (e0.bs b o z).1
  have names : ∀ z ∈ [(y, Value.ref a)], (defScope st).names.lookup z.1 = some .local ∨ ((defScope st).names.lookup z.1 = some .cell ∧ ((cellsFrom (m.heap.objs.size + 1) (defScope st).names []).lookup z.1).isSome = true) := by
    intro z hz
    obtain rfl := List.mem_singleton.mp hz
    exact (S.par y (by simp)).elim .inl fun c => .inr ⟨c, PySem.W.cellsFrom_some _ _ _ (.inl c)⟩
  refine codeAny_call_function hr.depth (inK _ _ lk) rfl S.co S.gen rfl (PySem.W.codeRec_of inK hcd) ?_
  refine hb m (.ref a) _ _ _ _ ?_
  refine wpAny_newFunctionEnv_cells S.kind names fun env hE m1 C => ?_
  subst hE
  refine ⟨free.keeps C.toInCall.keep, codeAny_func ?_⟩
  obtain ⟨t, ht, q⟩ := walk cdv m G [.ref a] Q (fun _ _ _ => False) (hr.deeper _) hsp
  have J : Inv (cxOf CX0 P w K mg base N qual (defScope st) f cdv callerA [] m G fun _ _ _ => False) [] (start N [.ref a]) G m1 :=
    inv_start S hr.hd e0 rfl (us := [.ref a]) (.cons rfl .nil) C
  refine wpAny_mono (ht.nox.run [] m1 (start N [.ref a]) G _ J q) (fun fl z h => ?_) fun _ _ h => h
  match fl, h with
  | .ret u, ⟨v, s2, G2, J2, rv, q2⟩ => exact ⟨v, G2, J2.os, J2.bare, J2.base, J2.hok, rv, q2⟩
  | .next, ⟨s2, G2, J2, q2⟩ => exact ⟨V.non, G2, J2.os, J2.bare, J2.base, J2.hok, rfl, q2⟩
  | .brk, ⟨_, _, _, no⟩ => exact no.elim
  | .cont, ⟨_, _, _, no⟩ => exact no.elim
/-- from the state behind the top to the call: the script alone may be tracked, as a list that is only read -/
theorem law_goes {l : PySem.W.OpenLaw} {n : Nat} {q : Program} {loose : List Str} {XP : (Str → Option Value) → Heap → Prop} {YP : World → Heap → Prop} {d : DefRec} {K : Params → PySem.W.Frag} {sp : PySem.W.Frag → Sp}
    (hn : l.most = some n) (hn2 : n ≤ sizeLine) (hdf : d.params.defaults = []) (hY : ∀ (w : World) (h : Heap), YP w h → (K w.params).In h)
    (F : ∀ (w : World) (mg : Str → Option Value) (fa : Addr) (h : Heap), (K w.params).In h → h.Ns mainGlobals mg → mg d.name = some (.ref fa) →
      ∀ base : Heap, (K w.params).In base → base.Ns mainGlobals mg → LawRun l.prog w (K w.params) mg base fa (sp (K w.params)))
    (hsp : ∀ (K : PySem.W.Frag) (G : Hp) (a : Addr) (ns : List Int), ns.length ≤ n → SqL K G a (ns.map V.int) → sp K [.ref a] G (fun v _ => v = .bl true) fun _ _ _ => False) :
    PySem.W.WalkO q loose XP YP l.row.toRowW d [] (fun f vs => PySem.call f vs) := by
  refine Att.attach_call hn hdf fun w s0 m mg mb fa o pm cd doc a us ns GR Y _ _ _ hmg hobj hints hlen hg => ?_
  have inK := hY w _ Y
  have go := F w mg fa _ inK GR.T.g hmg
  have lays := vals_ints hints
  have size := hints.length
  -- the tracked heap: empty where the module itself holds the script, else the script
  obtain ⟨G, isG, gK, sq⟩ : ∃ G : Hp, (∀ b u, G b = some u → b = a ∧ u = .frz { cls := .type "list", data := .seq us.toArray } (.lst (ns.map V.int))) ∧ (G a ≠ none → (K w.params).lookup a = none) ∧ SqL (K w.params) G a (ns.map V.int) := by
    cases known : (K w.params).lookup a with
    | some o =>
      have eo := inK a o known
      rw [hobj] at eo
      obtain rfl := Option.some.inj eo
      exact ⟨fun _ => none, (fun _ _ z => nomatch z), (fun z => (z rfl).elim), .inr ⟨_, us.toArray, _, known, rfl, rfl, rfl, by rw [List.size_toArray, size]; exact Nat.le_trans hlen hn2, by simpa using lays⟩⟩
    | none =>
      refine ⟨fun b => if b = a then some (.frz { cls := .type "list", data := .seq us.toArray } (.lst (ns.map V.int))) else none, fun b u z => ?_, fun _ => rfl, .inl (.inr ⟨_, if_pos rfl⟩)⟩
      by_cases e : b = a
      · exact ⟨e, (Option.some.inj ((if_pos e).symm.trans z)).symm⟩
      · exact absurd ((if_neg e).symm.trans z) (by simp)
  have unt : ∀ b, b ≠ a → G b = none := fun b nb => by
    cases z : G b with
    | none => rfl
    | some u => exact absurd (isG b u z).1 nb
  have still : ∀ (b : Addr) (u : Obj) (es : Array DictEntry) (c : Nat), m.heap.get? b = some u → u.data = .dict es c → G b = none := fun b u es c e z => unt b fun y => by
    rw [y, hobj] at e
    obtain rfl := Option.some.inj e
    exact Data.noConfusion z
  have ns' : ∀ {b : Addr} {mm : Str → Option Value}, m.heap.Ns b mm → (hidT m.heap G).Ns b mm := fun {b mm} ⟨u, es, c, e, z, r⟩ => ⟨u, es, c, hidT_get e (still b u es c e z), z, r⟩
  have inB : (K w.params).In (hidT m.heap G) := fun b u e => hidT_get (inK b u e) (by
    by_cases nb : b = a
    · cases z : G b with
      | none => rfl
      | some v =>
        subst nb
        rw [gK (by rw [z]; simp)] at e
        cases e
    · exact unt b nb)
  have heapOk : HOk l.prog w G m.heap := fun b u z => by
    obtain ⟨rfl, rfl⟩ := isG b u z
    exact ⟨hobj, by rw [List.length_map]; exact Nat.le_trans hlen hn2, us, _, lays, hobj⟩
  have envs : Env0 l.prog w (K w.params) mg (hidT m.heap G) callerA [] m G := by
    refine ⟨rfl, ⟨inB, ns' GR.T.g, ⟨mb, ns' GR.T.b, GR.T.builtins⟩, ?_⟩, (fun b u e => of_hidT e), Nat.le_of_eq (hidT_size _ _), trivial, (fun b z => nomatch z), heapOk, AllBare.of_eq hg⟩
    obtain ⟨mc, c1, c2⟩ := GR.T.nolimit
    exact ⟨mc, ns' c1, c2⟩
  refine codeAny_mono (go _ inB (ns' GR.T.g) m G a _ envs (hsp _ G a ns hlen sq)) fun r s2 h => ?_
  match r, h with
  | .error e, h => exact h.elim
  | .ok .next, h => exact h.elim
  | .ok .brk, h => exact h.elim
  | .ok .cont, h => exact h.elim
  | .ok (.ret u), ⟨v, G2, os2, bare2, un2, ok2, rv, ev⟩ =>
    have ev' : v = .bl true := ev
    subst ev'
    obtain rfl : u = Value.bool true := rv
    refine ⟨rfl, OldK.of_keep fun b x e => ?_, os2, bare2⟩
    cases z : G b with
    | none => exact un2.keep b x e z (by intro y; exact nomatch y) (by intro y; exact nomatch y)
    | some y =>
      obtain ⟨rfl, rfl⟩ := isG b y z
      obtain ⟨y2, _⟩ := ok2 b _ (un2.frzs b _ _ z)
      rw [hobj] at e
      rw [← Option.some.inj e]
      exact y2
/-- repr of data: None, bools, ints, texts, lists, tuples of such -/
def rRepr (K : PySem.W.Frag) : List V → Hp → VK → Prop := fun xs H Q => ∃ (x : V) (d : PyData), xs = [x] ∧ Dp K H x d ∧ d.showable = true ∧ d.hasDict = false ∧ d.depth ≤ 30 ∧ d.shown.length ≤ sizeLine ∧ Q (.str d.shown) H
section
variable {X : Cx}
theorem call_repr (hg : X.A.guards = some []) (hu : X.A.units + 64 < cLine) : CallR X (.builtin "repr") (rRepr X.K) := by
  intro pins s σ H xs us Q I r h
  obtain ⟨x, d, rfl, dp, sh, nd, hd, sz, q⟩ := h
  obtain ⟨u, rfl, rx⟩ := vals1 r
  obtain ⟨as, rd⟩ := Dp.reads I d x u dp rx
  have hk : ∀ (h' : Heap) (u : Tok) (tk : Nat), (∀ b o, s.heap.get? b = some o → h'.get? b = some o) → EP X pins σ Q (.str d.shown u) { s with heap := h', toks := tk } :=
    fun h' u tk k => ⟨.str d.shown, H, I.kept (t' := tk) k, ⟨_, rfl⟩, q⟩
  cases d with
  | none =>
    cases dp
    cases rx
    refine PySem.P.repr_of_none ?_
    have z := hk s.heap s.toks (s.toks + 1) fun _ _ e => e
    simpa only [PyData.shown] using z
  | bool b =>
    cases dp
    cases rx
    refine PySem.P.repr_of_bool ?_
    have z := hk s.heap s.toks (s.toks + 1) fun _ _ e => e
    cases b <;> simpa [PyData.shown] using z
  | int i =>
    cases dp
    obtain ⟨t, rfl⟩ := rx
    refine PySem.P.repr_of_int (of_decide_eq_true (by simpa [PyData.showable] using sh)) ?_
    have z := hk s.heap s.toks (s.toks + 1) fun _ _ e => e
    simpa only [PyData.shown] using z
  | str y =>
    cases dp
    obtain ⟨t, rfl⟩ := rx
    have z := hk s.heap s.toks (s.toks + 1) fun _ _ e => e
    simp only [PyData.shown] at z sz
    exact PySem.P.repr_of_str z sz
  | list ds =>
    cases dp with
    | lst e1 e2 =>
      obtain rfl := rx
      exact repr_of_reads' rd sh (fun z => by rw [nd] at z; cases z) hg (by omega) (fun _ _ e => e) hk sz
  | tuple ds =>
    cases dp with
    | tup e1 e2 =>
      obtain rfl := rx
      exact repr_of_reads' rd sh (fun z => by rw [nd] at z; cases z) hg (by omega) (fun _ _ e => e) hk sz
  | dict kvs => cases dp
end
end
end CvG

/-! own errors as values: one whose __init__ says super().__init__(..) and keeps a field; isinstance of them; the field read -/
namespace CvE
open PySem PySem.Spec PyProof.Rows L2
/-- what is asked of the def __init__(self, index) of such an error -/
def isc : Scope := { kind := .function, names := [("self", .local), ("index", .local), ("__class__", .free), ("super", .globalImplicit)], isGenerator := false, isCoroutine := false, more := [] }
structure SupI (P : Program) (K : PySem.W.Frag) (mg : Str → Option Value) (params : Arguments) (body : List Stmt) (qual : Str) (C fI : Addr) (fd : FuncData) : Prop where
  fn : ∃ (oc : Value) (od an : Option Addr) (dV kV doc pm ct : Value) (cda cc : Addr) (osl : Array (Option Value)), fd = PySem.W.ksFn "__init__" qual params body isc dV kV doc pm an (.ref cda) ct cc ∧
    K.lookup fI = some ⟨oc, od, .func fd, osl⟩ ∧ PySem.W.codeIn K (.ref cda) qual = true ∧
    (∃ (x : Value) (y : Option Addr) (z : Array (Option Value)), K.lookup cc = some ⟨x, y, .cell (some (.ref C)), z⟩) ∧
    (∃ (x : Value) (y : Option Addr) (z : Array (Option Value)) (vs : Array Value) (file : Str) (tf : Tok), K.lookup cda = some ⟨x, y, .fields vs, z⟩ ∧ vs[2]? = some (.str file tf) ∧ ((P.main.file : Str) == file) = true)
  sc : NdefX.NScope ["self", "index", "__class__"] ["self", "index"] ["__class__"] isc
  sup : mg "super" = none
  hd : ∃ p an1, (params.posonlyargs ++ params.args).head? = some ⟨"self", an1, p⟩
  top : (P.main.scope.names.lookup ("super" : Str)).isSome = false
  isD : ∃ cd, PySem.W.clsIn K C = some cd
  self_ : PySem.W.mroIn K C (.ref C) = some true
  opq : PySem.W.nsIn K cStatics "thirdparty.any" = some none
  init : PySem.W.ks_superIn K C C "__init__" = some (some (.builtin "ValueError.__init__"))
  sub : PySem.W.subIn K (.ref C) (.type "ValueError") = some true
  ox : OexC K C
  noix : PySem.W.findIn K (.ref C) "index" = some none
/-- the promise of that __init__ -/
def spI (C : Addr) : Sp := fun vs H Q _ => ∃ (a : Addr) (i : Int), vs = [.ref a, .int i] ∧ H a = some (exo a C none) ∧ i.natAbs.log2 < 1000 ∧
  ∀ d, H d = none → d ≠ a → Q .non (upd (upd H d (exd d [("index", .int i)])) a (exo a C (some d)))
section
variable {P : Program} {w : World} {K : PySem.W.Frag} {mg : Str → Option Value} {base : Heap}
/-- the bound __init__ of the built-in base, called -/
theorem call_wrap {A : Around} {h : Heap} {g : Array GenState} {d : Drawn} {t : Nat} {os : OsState} {E : Value → Shared → Prop} {Q : Value → Shared → Prop} {u e t0 C : Addr} {rest : List Value}
    (inK : K.In h) (T : OexC K C) (hu : h.get? u = some (PySem.W.kxs_mw "ValueError.__init__" e)) (he : h.get? e = some (PySem.HandSPX.excO C t0)) (small : rest.length ≤ sizeLine)
    (then_ : ∀ (h2 : Heap) (t1 : Addr), (∀ b o, b ≠ e → h.get? b = some o → h2.get? b = some o) → h2.get? e = some (PySem.HandSPX.excO C t1) → Q .none ⟨h2, g, d, t, os⟩) :
    wpAny (model P w) A (call (.ref u) rest) Q E ⟨h, g, d, t, os⟩ := by
  obtain ⟨nm, q, N, bs, bm, sn, sub, ab, col, dd, k0, k1, k2, k3, k5, hC, hbm⟩ := T.cls
  have FB := F.excBase_ValueError
  refine wpAny_call (codeAny_of_tree ?_)
  change wpAny _ A.in1 (callAny (.ref u) ⟨rest, []⟩) _ _ _
  simp only [callAny]
  refine wpAny_bind (wpAny_load hu ?_)
  simp only [PySem.W.kxs_mw, show (Value.type "method-wrapper" == Value.type "method" || Value.type "method-wrapper" == Value.type "builtin_function_or_method" || Value.type "method-wrapper" == Value.type "method-wrapper") = true from by decide, if_true]
  refine PySem.W.KFB.if_so (by decide) ?_
  refine wpAny_bind (PySem.W.check_bound_init FB.toExcCallFacts (inK _ _ hC) he rfl ?_)
  refine wpAny_bind (wpAny_pure (wpAny_pure ⟨plainId_quiet FB.init.plain _, codeAny_builtin FB.initEntry ?_⟩))
  exact PySem.W.exc_init_tree (cls := .ref C) (t0 := t0) (dv := none) (c2 := .none) (c3 := .none) (b4 := .bool false) he small fun h2 k e2 _ => then_ h2 _ k e2
theorem ok_init {params : Arguments} {body : List Stmt} {qual pre : Str} {C fI : Addr} {fd : FuncData} {j : Tok} {p0 p1 p2 p3 p4 p5 p6 p7 p8 p9 p10 p11 p12 : Pos} (S : SupI P K mg params body qual C fI fd) (hpre : pre.length ≤ 100)
    (hev : ∀ (L f c cc : Addr), ∃ pl : Sem Bool, eval (.Call (.Attribute (.Call (.Name "super" p0) [] [] p1) "__init__" p2) [.JoinedStr [.Constant (.str pre) j p3, .FormattedValue (.Name "index" p4) (-1) none p5] p6] [] p7) (PySem.W.envX qual isc L f (.ref c) [("__class__", cc)]) = (do
      let ov ← attributeBase (.Call (.Name "super" p0) [] [] p1) "__init__" (PySem.W.envX qual isc L f (.ref c) [("__class__", cc)]) (eval (.Call (.Name "super" p0) [] [] p1) (PySem.W.envX qual isc L f (.ref c) [("__class__", cc)]))
      standAt p2.atName
      let (f', first) ← holding [ov] (getMethod ov "__init__" pl)
      callWith p7 f' first (backTo p7 (starEach [.JoinedStr [.Constant (.str pre) j p3, .FormattedValue (.Name "index" p4) (-1) none p5] p6] (PySem.W.envX qual isc L f (.ref c) [("__class__", cc)]))) []))
    (hsw : ∀ (L f c cc : Addr), swapsWith (.Call (.Attribute (.Call (.Name "super" p0) [] [] p1) "__init__" p2) [.JoinedStr [.Constant (.str pre) j p3, .FormattedValue (.Name "index" p4) (-1) none p5] p6] [] p7) none p8.line (PySem.W.envX qual isc L f (.ref c) [("__class__", cc)]) = pure false)
    (hsw2 : ∀ (L f c cc : Addr), swapsWith (.Name "index" p11) (some (.Attribute (.Name "self" p9) "index" p10)) p12.line (PySem.W.envX qual isc L f (.ref c) [("__class__", cc)]) = pure false)
    (hbody : body = [.Expr (.Call (.Attribute (.Call (.Name "super" p0) [] [] p1) "__init__" p2) [.JoinedStr [.Constant (.str pre) j p3, .FormattedValue (.Name "index" p4) (-1) none p5] p6] [] p7) p8,
      .Assign [.Attribute (.Name "self" p9) "index" p10] (.Name "index" p11) p12]) : FnOk P w K mg base CX0 2 fI fd ["self", "index"] (spI C) := by
  refine ⟨fun vs H Q E h => ?_, fun A outer s H args us vs Q E hr e0 hb rv hsp => ?_⟩
  · obtain ⟨a, i, rfl, _⟩ := h
    rfl
  obtain ⟨a, i, rfl, ha, hi, q⟩ := hsp
  obtain ⟨oc, od, an, dV, kV, doc, pm, ct, cda, cc, osl, rfl, lk, hcd, ⟨x1, y1, z1, hcc⟩, ⟨x2, y2, z2, vs2, file, tf, hcda, hvs, hfile⟩⟩ := S.fn
  have inK : K.In s.heap := e0.mod.kin.keeps fun b o z => (e0.bs b o z).1
  have free : s.heap.NoLimit := e0.mod.nolimit.keeps fun b o z => (e0.bs b o z).1
  have cells : NdefX.CellsAt [("__class__", cc)] ["__class__"] [some (V.ref C)] s.heap H := by
    have one : ∀ {y : Str} {c : Addr}, List.lookup y [(("__class__" : Str), cc)] = some c → y = "__class__" ∧ c = cc := fun {y c} z => by
      simp only [List.lookup] at z
      split at z
      · rename_i e
        exact ⟨by simpa using e, (Option.some.inj z).symm⟩
      · cases z
    have isC : s.heap.IsCell cc (some (.ref C)) := ⟨_, inK _ _ hcc, rfl⟩
    refine ⟨rfl, fun y c z => ?_, fun x y c z1 z2 => (one z1).1.trans (one z2).1.symm, fun i y z => ?_⟩
    · obtain ⟨_, rfl⟩ := one z
      exact ⟨(e0.bs _ _ (e0.mod.kin _ _ hcc)).2, _, isC⟩
    · match i, z with
      | 0, z =>
        obtain rfl := Option.some.inj z
        exact ⟨cc, by simp [List.lookup], fun v hv => by cases hv; exact ⟨.ref C, rfl, isC⟩⟩
  refine ks_codeAny_call_defAt (body := body) (binds := ([("self" : Str), "index"] : List Str).zip us) hr.depth (inK _ _ lk) rfl free (PySem.W.codeRec_of inK hcd) rfl hb S.sc.nocell (fun y hy => S.sc.par y.1 (List.of_mem_zip hy).1) (fun h₁ hns kp => ?_) S.sc.co S.sc.gen S.sc.kind
  have I := NdefX.inv_startN (F := ⟨"__init__", qual, params, body, isc, [("__class__", cc)], cda⟩) (f := fI) (CX := CX0) (E := E) (tk := s.toks + (([("self" : Str), "index"] : List Str).zip us).length) S.sc hr.hd e0 rfl rv cells hns kp
  change PySem.wpAt (model P w) (A.deeper (PySem.W.envX qual isc s.heap.objs.size fI (.ref cda) [("__class__", cc)])) (.func body (PySem.W.envX qual isc s.heap.objs.size fI (.ref cda) [("__class__", cc)])) (execs body (PySem.W.envX qual isc s.heap.objs.size fI (.ref cda) [("__class__", cc)])) _ _ _
  obtain ⟨hp1, hp2, hd1⟩ := S.hd
  have one : ∃ X, X = NdefX.ncx CX0 P w K mg base ["self", "index", "__class__"] ⟨"__init__", qual, params, body, isc, [("__class__", cc)], cda⟩ fI A outer s H E := ⟨_, rfl⟩
  rw [hbody]
  obtain ⟨pl, hev⟩ := hev s.heap.objs.size fI cda cc
  refine ks_wpAt_execs_cons (ks_wpAt_Expr_any (ks_wpAt_MethodCall (pl := pl) ?_ hev) (by rfl) (hsw _ _ _ _))
  obtain ⟨h2, e2⟩ : ∃ h2, h2 = h₁ := ⟨_, rfl⟩
  have inK1 : K.In h₁ := fun b o z => kp b o (inK b o z)
  obtain ⟨oD, hD1, cdD, hD2⟩ : ∃ oD, h₁.get? C = some oD ∧ ∃ cdD, oD.data = .cls cdD := by
    obtain ⟨cd, hcd⟩ := S.isD
    unfold PySem.W.clsIn at hcd
    split at hcd
    · rename_i c d cd' sl ho
      cases hcd
      exact ⟨_, inK1 _ _ ho, _, rfl⟩
    · cases hcd
  obtain ⟨t1, ho⟩ := exo_at I.hok ha
  refine ks_wpAt_super_base rfl (S.sc.frk "__class__" (by simp)) (by decide) rfl (inK1 _ _ lk) rfl hd1 rfl (inK1 _ _ hcda) rfl hvs hfile S.top ?_
  obtain ⟨mb, b1, b2⟩ := I.mod.blt
  obtain ⟨u0, u1, rfl, ru0, ti, rfl⟩ := vals2 rv
  obtain rfl : u0 = Value.ref a := ru0
  refine PySem.W.ks_loadName_global S.sc.kind rfl (Calls.loadGlobal_builtin (mg := mg) (by exact I.mod.glob.keeps I.bk) S.sup (b1.keeps I.bk) ((b2 "super" (by decide)).trans (by decide +kernel)) ⟨rfl, ?_⟩)
  refine wpAny_loadName_free S.sc.kind (S.sc.frk "__class__" (by simp)) (by simp [List.lookup]) ⟨_, inK1 _ _ hcc, rfl⟩ ?_
  refine wpAny_loadName_local S.sc.kind (S.sc.par "self" (by simp)) hns (NdefX.zip_look (ps := ["self", "index"]) (i := 0) (by decide +kernel) rfl rfl) ?_
  refine ks_wpAny_isType_cls hD1 hD2 ⟨rfl, ?_⟩
  refine ks_wpAny_call_super hD1 hD2 ho rfl (fun c z => nomatch z) (PySem.W.looks_mroIn inK1 S.self_) (fun h3 e3 k3 => ?_)
  have inK3 : K.In h3 := fun b o z => k3 b o (inK1 b o z)
  have at3 : PySem.W.InstAt h3 a (PySem.HandSPX.excO C t1) C none := ⟨k3 _ _ ho, rfl, rfl, trivial⟩
  obtain ⟨cdM, hcdM⟩ := S.isD
  have along := S.init
  unfold PySem.W.ks_superIn at along
  rw [hcdM] at along
  refine PySem.W.kxs_getMethod PySem.W.kxs_ValueError e3 (PySem.W.looks_opaque inK3 S.opq) (l₀ := cdM.mro) ((PySem.W.looks_clsIn inK3 hcdM).andThen .now) rfl inK3 along (at3.type.andThen (PySem.W.looks_subIn inK3 S.sub)) (PySem.W.ks_ne inK3 at3 hcdM) (by decide) ?_
  have I3 : Inv (NdefX.ncx CX0 P w K mg base ["self", "index", "__class__"] ⟨"__init__", qual, params, body, isc, [("__class__", cc)], cda⟩ fI A outer s H E) [] (NdefX.startF ["self", "index", "__class__"] [.ref a, .int i] [some (.ref C)]) H { s with heap := h3, toks := s.toks + (([("self" : Str), "index"] : List Str).zip [Value.ref a, Value.int i ti]).length } :=
    I.kept (t' := s.toks + (([("self" : Str), "index"] : List Str).zip [Value.ref a, Value.int i ti]).length) k3
  have I4 := ClX.pin_new (o := PySem.W.kxs_mw "ValueError.__init__" a) (h' := h3.push (PySem.W.kxs_mw "ValueError.__init__" a)) (t' := s.toks + (([("self" : Str), "index"] : List Str).zip [Value.ref a, Value.int i ti]).length + 1) I3 (fun _ _ z => Heap.get?_push_of_some _ z) (Nat.le_refl _) (Heap.get?_push_size h3 rfl) (fun v z => nomatch z)
  refine PySem.W.kxs_callWith (i := "ValueError.__init__") (x := a) rfl ?_
  refine Calls.evalArgs_plain ?_
  have text := (pa_cons (pe_joined (X := NdefX.ncx CX0 P w K mg base ["self", "index", "__class__"] ⟨"__init__", qual, params, body, isc, [("__class__", cc)], cda⟩ fI A outer s H E) (pos := p6)
    (.cons (pe_str (x := pre) (j := j) (pos := p3)) (.cons (pe_fmt (pos := p5) (pv 1 (x := "index") (pos := p4))) .nil))) pa_nil).run p7 _ _ _ H (fun vs H1 => H1 = H ∧ vs.length = 1) I4 ?_
  · refine wpAny_mono text (fun vs s5 h5 => ?_) fun _ _ z => z
    obtain ⟨ws, H5, I5, r5, rfl, l5⟩ := h5
    refine ⟨ClX.pin_at I5, ?_⟩
    obtain ⟨t5, ho5⟩ := exo_at I5.hok ha
    obtain ⟨hh5, g5, d5, tk5, os5⟩ := s5
    refine call_wrap I5.kIn S.ox (ClX.pin_at I5) ho5 (by rw [List.nil_append, ← r5.length, l5]; decide) fun h6 t6 k6 e6 => ?_
    have same : upd H5 a (exo a C none) = H5 := by
      funext b
      by_cases hb : b = a
      · rw [hb, upd_same, ha]
      · rw [upd_ne hb]
    have I6 := (ClX.unpin I5).write (t' := tk5) (x := a) (e := a) (o := exo a C none) (by rw [ha]; exact True.intro) (.inl rfl) k6 ⟨_, e6⟩ (exo_ok e6)
    rw [same] at I6
    refine wpAt_of_wpAny ?_
    have store := (pss_one (ps_ost (X := NdefX.ncx CX0 P w K mg base ["self", "index", "__class__"] ⟨"__init__", qual, params, body, isc, [("__class__", cc)], cda⟩ fI A outer s H5 E) (p' := p10) (pos := p12) (pv 0 (x := "self") (pos := p9)) (pv 1 (x := "index") (pos := p11)) (hsw2 _ _ _ _))).run [] _ _ H5
      { nx := fun _ H' => Q .non H', rt := Q } I6 ⟨.int i, rfl, .ref a, rfl, a, C, rfl, S.ox, S.noix, .inl ⟨ha, fun d dn da => q d dn da⟩⟩
    refine wpAny_mono store (fun fl z h => ?_) fun _ _ h => h
    match fl, h with
    | .ret u, ⟨v, s7, G7, J7, rv7, q7⟩ => exact ⟨v, G7, J7.os, J7.bare, J7.base, J7.hok, rv7, q7⟩
    | .next, ⟨s7, G7, J7, q7⟩ => exact ⟨V.non, G7, J7.os, J7.bare, J7.base, J7.hok, rfl, q7⟩
    | .brk, ⟨_, _, _, no⟩ => exact no.elim
    | .cont, ⟨_, _, _, no⟩ => exact no.elim
  · have l1 : (PySem.Str.ofString (toString i)).length ≤ 1921 := int_text_len_1921 (by omega)
    have big : 10000 ≤ sizeLine := by decide
    refine ⟨pre, rfl, ?_, .int i, rfl, .inr ⟨i, rfl, by omega, _, rfl, ?_, rfl, rfl⟩⟩
    · rw [Str.length_append]
      show 0 + pre.length ≤ sizeLine
      omega
    · rw [Str.length_append, Str.length_append]
      show 0 + pre.length + (PySem.Str.ofString (toString i)).length ≤ sizeLine
      omega
end
end CvE

/-! an own error made by a keyword: C(name = value) -/
namespace CvE
open PySem PySem.Spec PyProof.Rows L2
section
variable {prog : Program} {w : World} {A : Around} {E : Value → Shared → Prop} {R : Result → Shared → Prop} {h : Heap} {g : Array GenState} {d : Drawn} {t : Nat} {os : OsState}
variable {nm q : Str} {C N : Addr} {bs bm : List Value} {hdct : Bool} {sn : List Str} {sub : List Value} {ab : Bool} {col : Option Bool} {dd : Option Addr} {k0 k1 k2 k3 k5 : Option Value} {kv : Str × Value}
theorem kw_check {Q : Unit → Shared → Prop} (hbm : PySem.HandSPX.refsVE bm = true) (cls : h.get? C = some (excClassObj nm q C N bs bm hdct sn sub ab col dd k0 k1 k2 k3 k5 "ValueError.__new__")) (then_ : Q () ⟨h, g, d, t, os⟩) :
    wpAny (model prog w) A (checkBuiltinCall "ValueError.__new__" ⟨[.ref C], [kv]⟩) Q E ⟨h, g, d, t, os⟩ := by
  have FB := F.excBase_ValueError
  have isV : (Value.ref C :: bm).contains (.type "ValueError") = true := by
    rw [List.contains_cons, PySem.HandSPX.refsVE_contains "ValueError" bm hbm, FB.hasB, Bool.or_true]
  have star := FB.noStar
  simp only [checkBuiltinCall, FB.newKind, FB.newSplit, FB.newRow]
  repeat (first
    | refine wpAny_loadPart_at cls ?_
    | (refine wpAny_isSubtype_exc cls ?_; rw [isV])
    | refine wpAny_staticBase_exc cls ?_
    | refine wpAny_madeBy_exc cls ?_
    | simp only [bne_self_eq_false, Bool.false_eq_true, if_false]
    | wp_step)
  exact then_
theorem kw_new (hbm : PySem.HandSPX.refsVE bm = true) (cls : h.get? C = some (excClassObj nm q C N bs bm hdct sn sub ab col dd k0 k1 k2 k3 k5 "ValueError.__new__"))
    (then_ : R (.ok (.ret (.ref (h.objs.size + 1)))) ⟨(h.push { cls := .type "tuple", data := .seq #[] }).push (PySem.HandSPX.excO C h.objs.size), g, d, t, os⟩) :
    codeAny (model prog w) A (.builtin "ValueError.__new__" ⟨[.ref C], [kv]⟩) R ⟨h, g, d, t, os⟩ := by
  have FB := F.excBase_ValueError
  have ends := FB.ends
  have has := fun Y => PySem.HandSPX.refsVE_contains Y bm hbm
  have isV : (Value.ref C :: bm).contains (.type "ValueError") = true := by rw [List.contains_cons, has, FB.hasB, Bool.or_true]
  have noA : (Value.ref C :: bm).contains (.type "AttributeError") = false := by rw [List.contains_cons, has, FB.noAttr] <;> rfl
  have noN : (Value.ref C :: bm).contains (.type "NameError") = false := by rw [List.contains_cons, has, FB.noName] <;> rfl
  refine codeAny_builtinAt FB.entry ?_
  unfold Builtin.«BaseException.__new__»
  refine PySem.wpAt_bind ?_
  change PySem.wpAt _ _ _ (stack >>= _) _ _ _
  refine PySem.wpAt_bind (PySem.wpAt_stack fun p below => PySem.wpAt_of_wpAny ?_)
  wp_walk
  refine PySem.wpAt_of_wpAny ?_
  rw [FB.owner]
  repeat (first
    | with_reducible refine wpAny_madeHere_exc FB.canon cls ?_
    | with_reducible refine wpAny_loadPart_at cls ?_
    | (with_reducible refine wpAny_isSubtype_exc cls ?_; first | rw [isV] | rw [noA] | rw [noN])
    | wp_step)
  change R _ _
  rw [Heap.size_push]
  exact then_
/-- C(k = v) with an own __init__ at fI -/
theorem kw_call {fI : Addr} (hbm : PySem.HandSPX.refsVE bm = true) (cls : h.get? C = some (excClassObj nm q C N bs bm hdct sn sub ab col dd k0 k1 k2 k3 k5 "ValueError.__new__"))
    (look : PySem.W.Looks (model prog w) h (typeLookup (.ref C) "__init__") (some (.ref fI))) (bind : ∀ self, PySem.W.Looks (model prog w) h (bindSpecial (.ref fI) self) (.ref fI, [self]))
    (then_ : codeAny (model prog w) (A.under (.builtin "type.__call__" ⟨[.ref C], [kv]⟩)) (.call (.ref fI) ⟨[.ref (h.objs.size + 1)], [kv]⟩) (PySem.W.InitBack (h.objs.size + 1) R)
      ⟨(h.push { cls := .type "tuple", data := .seq #[] }).push (PySem.HandSPX.excO C h.objs.size), g, d, t, os⟩) :
    codeAny (model prog w) A (.call (.ref C) ⟨[], [kv]⟩) R ⟨h, g, d, t, os⟩ := by
  have f1 := tc_lookup
  have f2 := tc_bind (.ref C)
  have isTy : (⟨h, g, d, t, os⟩ : Shared).TypeIs (.ref C) "type" := ⟨_, cls, rfl⟩
  refine codeAny_of_tree ?_
  change wpAny _ _ (callAny (.ref C) _) _ _ _
  repeat (any_goals (first | assumption | with_reducible refine wpAny_loadPart_at cls ?_ | wp_step))
  refine ⟨rfl, codeAny_call_builtin_at (Code.quiet_builtin _ (by decide +kernel)) entry_typeCall ?_⟩
  change wpAny _ A.in1 (checkBuiltinCall "type.__call__" ⟨[.ref C], [kv]⟩) _ _ _
  have f3 := tc_sub
  simp only [checkBuiltinCall, tc_kind, tc_split]
  repeat (any_goals (first | assumption | with_reducible refine wpAny_loadPart_at cls ?_ | with_reducible refine wpAny_onRaise ?_ | with_reducible refine wpAny_map ?_ | wp_step))
  have FB := F.excBase_ValueError
  refine codeAny_call_builtin_code (Code.quiet_builtin _ FB.quiet) (kw_check hbm cls ?_)
  refine kw_new hbm cls ?_
  change wpAny _ _ _ _ _ _
  have keeps : ∀ b o, h.get? b = some o → ((h.push { cls := .type "tuple", data := .seq #[] }).push (PySem.HandSPX.excO C h.objs.size)).get? b = some o := fun b o z => Heap.get?_push_of_some _ (Heap.get?_push_of_some _ z)
  have cls2 := keeps _ _ cls
  have made : ((h.push { cls := .type "tuple", data := .seq #[] }).push (PySem.HandSPX.excO C h.objs.size)).get? (h.objs.size + 1) = some (PySem.HandSPX.excO C h.objs.size) := by heap_get
  have own : (Value.ref C :: bm).contains (.ref C) = true := by simp
  have look2 := look.keeps keeps
  have bind2 := (bind (.ref (h.objs.size + 1))).keeps keeps
  unfold isInstance
  repeat (first | with_reducible refine wpAny_loadPart_at made ?_ | (with_reducible refine wpAny_isSubtype_exc cls2 ?_; rw [own]) | wp_step)
  change wpAny _ _ (typeLookup (.ref C) _) _ _ _
  refine look2.at ?_
  refine wpAny_holding (wpAny_bind (bind2.at ?_))
  refine wpAny_bind (wpAny_call (codeAny_mono then_ fun r s2 z => ?_))
  rcases r with e | (v | _ | _ | _) <;> first | exact z | exact z.elim | skip
  obtain ⟨rfl, z⟩ := z
  first | exact wpAny_pure (wpAny_pure z) | (wp_walk; exact z)
end
end CvE

/-! rules over own errors as values -/
namespace CvE
open PySem PySem.Spec PyProof.Rows L2
/-- an error of the class at D stands at a: without a dict, or with one -/
def ErrAt (H : Hp) (a D : Addr) : Prop := H a = some (ExO (.ref D) a) ∨ ∃ (d : Addr) (fs : List (Str × V)), H a = some (exo a D (some d)) ∧ H d = some (exd d fs)
theorem ErrAt.keep {H H' : Hp} {a D : Addr} (s : Same H H') (h : ErrAt H a D) : ErrAt H' a D := by
  rcases h with h | ⟨d, fs, h1, h2⟩
  · exact .inl (s _ _ h)
  · exact .inr ⟨d, fs, s _ _ h1, s _ _ h2⟩
def rIsO (K : PySem.W.Frag) : List V → Hp → VK → Prop := fun xs H Q => ∃ (a D : Addr) (c : V) (cv : Value) (b : Bool), xs = [.ref a, c] ∧ ErrAt H a D ∧ ExcC K D ∧ (∀ u, RelV c u → u = cv) ∧ PySem.W.kitOne K (.ref D) cv = some b ∧ Q (.bl b) H
section
variable {X : Cx}
theorem err_inst {pins : List (Addr × Obj)} {σ : L2.St} {H : Hp} {s : Shared} {a D : Addr} (I : Inv X pins σ H s) (h : ErrAt H a D) : ∃ (ox : Obj) (od : Option Obj), PySem.W.InstAt s.heap a ox D od := by
  rcases h with h | ⟨d, fs, h1, h2⟩
  · obtain ⟨⟨oe, vs, e, ⟨z1, z2⟩, z3, _⟩, _, _⟩ := I.hok a _ h
    obtain ⟨oc, od, oda, osl⟩ := oe
    dsimp only at z1 z2 z3
    subst z1 z2 z3
    exact ⟨_, none, e, rfl, rfl, trivial⟩
  · obtain ⟨t1, e⟩ := exo_at I.hok h1
    obtain ⟨mA, ⟨o, es, ep, e2, _⟩, _⟩ := exd_at I.hok h2
    exact ⟨_, some o, e, rfl, rfl, e2⟩
theorem call_isO : CallR X (.builtin "isinstance") (rIsO X.K) := by
  intro pins s σ H xs us Q I r h
  obtain ⟨a, D, c, cv, b, rfl, hE, C, hc, hk, q⟩ := h
  obtain ⟨u1, u2, rfl, r1, r2⟩ := vals2 r
  obtain rfl : u1 = Value.ref a := r1
  obtain rfl := hc _ r2
  obtain ⟨ox, od, J⟩ := err_inst I hE
  obtain ⟨cd, hcd, _⟩ := PySem.W.any_some C.hd
  exact PySem.W.kia_one (PySem.W.kitx_exc (by rw [hcd] <;> rfl) C.hg C.hk C.hs C.ha C.hn C.ht C.hm) I.kIn J hk (fun z => nomatch z) fun tk => ⟨.bl b, H, I.tok tk, rfl, q⟩
/-- e.f of such an error -/
def tErf (K : PySem.W.Frag) (f : Str) (te : TE) : TE := fun σ H Q => te σ H fun x H1 => ∃ (a C d : Addr) (fs : List (Str × V)) (v : V), x = .ref a ∧ H1 a = some (exo a C (some d)) ∧ H1 d = some (exd d fs) ∧ XfC K C ∧ PySem.W.findIn K (.ref C) f = some none ∧ fs.lookup f = some v ∧ Q v H1
theorem pe_erf {e : Expr} {te : TE} {pos : Pos} {n : Str} (he : PE X e te) (hb : attributeBase e n X.env (eval e X.env) = eval e X.env := by rfl) : PE X (.Attribute e n pos) (tErf X.K n te) := by
  refine ⟨fun pins s σ H Q I h => attr_of hb (thn (he.run pins s σ H _ I h) fun u s1 hh => ?_)⟩
  obtain ⟨x, H1, I1, rx, a, C, d, fs, v, rfl, ea, ed, T, hno, l, q⟩ := hh
  obtain rfl : u = Value.ref a := rx
  obtain ⟨t1, e1⟩ := exo_at I1.hok ea
  obtain ⟨mA, hns, hr⟩ := exd_at I1.hok ed
  obtain ⟨od, ho, hl⟩ := lookIn_ns hns
  obtain ⟨u, hu, ru⟩ := RelO.some_of (v := v) (o := mA n) (by rw [← l]; exact hr n)
  exact HandSPX.exc_get I1.kIn (⟨e1, rfl, rfl, ho⟩ : PySem.W.InstAt s1.heap a _ C (some od)) T.ga T.gg T.exC (PySem.W.findObj_own T.hdC hno rfl (by rw [hl, hu])) (handed_of ru) ⟨v, H1, I1.tok _, ru, q⟩
end
section
variable {X : Cx} {C fI : Addr} {k : Nat} {fd : FuncData} {ps : List Str} {sp : Sp} {x : Str} {p pos : Pos}
/-- the new object, before its __init__ -/
theorem born {pins : List (Addr × Obj)} {σ : L2.St} {H : Hp} {hp : Heap} {g : Array GenState} {dr : Drawn} {tk : Nat} {os : OsState} {us : List Value} (I : Inv X pins σ H ⟨hp, g, dr, tk, os⟩) :
    H (hp.objs.size + 1) = none ∧ Inv X pins σ (upd H (hp.objs.size + 1) (exo (hp.objs.size + 1) C none)) ⟨(hp.push (PySem.W.kdv_tup us)).push (PySem.HandSPX.excO C hp.objs.size), g, dr, tk, os⟩ := by
  have up : hp.objs.size ≤ hp.objs.size + 1 := Nat.le_succ _
  refine ⟨I.hok.fresh up, I.laid (t' := tk) (fun b o z => Heap.get?_push_of_some _ (Heap.get?_push_of_some _ z)) up (exo_ok (t1 := hp.objs.size) ?_)⟩
  heap_get
/-- C(e, ..) -/
theorem pe_err {e : Expr} {es : List Expr} {ta : TA} (T : OexC X.K C) (iC : PySem.W.findIn X.K (.ref C) "__init__" = some (some (.ref fI))) (tI : PySem.W.typeIn X.K (.ref fI) = some (.type "function")) (G : FnOk X.prog X.w X.K X.mg X.base CX0 k fI fd ps sp) (hr : Room (k + 1) X.A) (hb : Binds X.K fd ps [])
    (hg : Gl X x) (hm : X.mg x = some (.ref C)) (ha : PA X (e :: es) ta) (hdb : (x == ("__debug__" : Str)) = false := by decide) (he : starEach (e :: es) X.env = (false, eval e X.env) :: starEach es X.env := by rfl) (hpl : (backTo pos (starEach es X.env)).any (·.1) = false := by rfl) :
    PE X (.Call (.Name x p) (e :: es) [] pos) (fun σ H Q => ta σ H fun vs H1 => vs.length ≤ 1000 ∧ ∀ a, H1 a = none → sp (.ref a :: vs) (upd H1 a (exo a C none)) (fun v H2 => v = .non ∧ Q (.ref a) H2) E0) := by
  refine ⟨fun pins s σ H Q I h => wpAny_Call_Name_kw (ld_glob I hg hm ?_ hdb)⟩
  obtain ⟨nm, q, N, bs, bm, sn, sub, ab, col, dd, k0, k1, k2, k3, k5, hC, hbm⟩ := T.cls
  refine PySem.W.callWith_K (h₀ := X.base) I.ok.mod.kin T.kC (thn (ha.run pos pins s σ H _ I h) fun us s1 hu => ?_) he hpl
  obtain ⟨vs, H1, I1, r1, hz, q1⟩ := hu
  refine ⟨I1.kIn, ?_⟩
  change wpAny _ _ (call (.ref C) us) _ _ _
  obtain ⟨hp, g, dr, tk, os⟩ := s1
  obtain ⟨hn, I2⟩ := born (C := C) (us := us) I1
  have r2 : Vals (V.ref (hp.objs.size + 1) :: vs) (Value.ref (hp.objs.size + 1) :: us) := .cons rfl r1
  have ask := q1 _ hn
  have hl : (Value.ref (hp.objs.size + 1) :: us).length = ps.length := (Paired.length r2).symm.trans (G.len _ _ _ _ ask)
  have small : us.length ≤ sizeLine := by
    rw [← Paired.length r1, sizeLine_eq]
    omega
  refine wpAny_call (PySem.HandSPX.call_own F.excBase_ValueError (fun Y => PySem.HandSPX.refsVE_contains Y bm hbm) (I1.kIn _ _ hC) (PySem.W.looks_findIn I1.kIn iC) (fun self => PySem.W.bind_fn I1.kIn self tI) small (codeAny_mono
    (G.run _ X.stack _ _ ⟨Value.ref (hp.objs.size + 1) :: us, []⟩ (Value.ref (hp.objs.size + 1) :: us) _ _ E0 (hr.make C us []) (I2.env0.make C us []) (by simpa using hb _ (Value.ref (hp.objs.size + 1) :: us) I2.kIn (by simpa using hl)) r2 ask) fun r s2 back => ?_))
  match r, back with
  | .error e, no => exact no.elim
  | .ok .next, no => exact no.elim
  | .ok .brk, no => exact no.elim
  | .ok .cont, no => exact no.elim
  | .ok (.ret u), ok =>
    obtain ⟨v, H2, J, rv, rfl, q2⟩ := I2.after ok
    exact ⟨rv, .ref (hp.objs.size + 1), H2, J, rfl, q2⟩
/-- C(y = e), the def __init__(self, y) -/
theorem pe_errK {y : Str} {kw : Keyword} {tk : TA} (T : OexC X.K C) (iC : PySem.W.findIn X.K (.ref C) "__init__" = some (some (.ref fI))) (tI : PySem.W.typeIn X.K (.ref fI) = some (.type "function")) (G : FnOk X.prog X.w X.K X.mg X.base CX0 k fI fd ["self", y] sp) (hr : Room (k + 1) X.A)
    (hb : ∀ (m : Shared) (u v : Value), BindsTo m fd ⟨[u], [(y, v)]⟩ [("self", u), (y, v)])
    (hg : Gl X x) (hm : X.mg x = some (.ref C)) (hkw : PK X [kw] tk) (hall : (backToKw pos (keywordEach [kw] X.env)).all (·.1.isSome) = true := by rfl) (hks : (backToKw pos (keywordEach [kw] X.env)).filterMap (·.1) = [y] := by rfl)
    (hdb : (x == ("__debug__" : Str)) = false := by decide) (hpl : ((backTo pos (starEach [] X.env)).any (·.1) || (backToKw pos (keywordEach [kw] X.env)).any (·.1.isNone)) = false := by rfl) :
    PE X (.Call (.Name x p) [] [kw] pos) (fun σ H Q => tk σ H fun zs H1 => ∃ z, zs = [z] ∧ ∀ a, H1 a = none → sp [.ref a, z] (upd H1 a (exo a C none)) (fun v H2 => v = .non ∧ Q (.ref a) H2) E0) := by
  refine ⟨fun pins s σ H Q I h => wpAny_Call_Name_kw (ld_glob I hg hm ?_ hdb)⟩
  obtain ⟨nm, q, N, bs, bm, sn, sub, ab, col, dd, k0, k1, k2, k3, k5, hC, hbm⟩ := T.cls
  refine PySem.W.callWith_KW0 (h₀ := X.base) I.ok.mod.kin T.kC hall (thn (hkw.run pos pins s σ H _ I h) fun ws s1 hu => ?_) hpl
  obtain ⟨zs, H1, I1, r1, z, rfl, q1⟩ := hu
  obtain ⟨uz, rfl, ruz⟩ := vals1 r1
  refine ⟨I1.kIn, ?_⟩
  rw [hks]
  change wpAny _ _ (call (.ref C) [] [(y, uz)]) _ _ _
  obtain ⟨hp, g, dr, tk', os⟩ := s1
  obtain ⟨hn, I2⟩ := born (C := C) (us := []) I1
  have r2 : Vals [V.ref (hp.objs.size + 1), z] [Value.ref (hp.objs.size + 1), uz] := .cons rfl (.cons ruz .nil)
  refine wpAny_call (kw_call hbm (I1.kIn _ _ hC) (PySem.W.looks_findIn I1.kIn iC) (fun self => PySem.W.bind_fn I1.kIn self tI) (codeAny_mono
    (G.run _ X.stack _ _ ⟨[Value.ref (hp.objs.size + 1)], [(y, uz)]⟩ [Value.ref (hp.objs.size + 1), uz] _ _ E0 (hr.make C [] [(y, uz)]) (I2.env0.make C [] [(y, uz)]) (hb _ _ _) r2 (q1 _ hn)) fun r s2 back => ?_))
  match r, back with
  | .error e, no => exact no.elim
  | .ok .next, no => exact no.elim
  | .ok .brk, no => exact no.elim
  | .ok .cont, no => exact no.elim
  | .ok (.ret u), ok =>
    obtain ⟨v, H2, J, rv, rfl, q2⟩ := I2.after ok
    exact ⟨rv, .ref (hp.objs.size + 1), H2, J, rfl, q2⟩
end
end CvE

namespace Cv
open PySem PySem.Spec PyProof.Rows L2 CvE CvG
abbrev sCls : Stmt := topS 24
abbrev sLaw : Stmt := topS 26
theorem scCls : FnScope ["caught", "found"] ["caught"] (defScope sCls) := ⟨rfl, rfl, rfl, by decide +kernel, rfl, by decide +kernel, by decide +kernel⟩
theorem scLaw : FnScope ["script", "pen", "lap", "word", "number_here", "found", "k", "j"] ["script"] (defScope sLaw) := ⟨rfl, rfl, rfl, by decide +kernel, rfl, by decide +kernel, by decide +kernel⟩
abbrev veB : List Value := [.type "ValueError", .type "Exception", .type "BaseException", .type "object"]
structure TxtE (K : PySem.W.Frag) (mg : Str → Option Value) (c : Nat → Addr) (cB : Addr) : Prop where
  n0 : mg "CannotBe" = some (.ref (c 0))
  n1 : mg "DuplicateName" = some (.ref (c 1))
  n2 : mg "InvalidBook" = some (.ref (c 2))
  n3 : mg "InvalidBool" = some (.ref (c 3))
  n4 : mg "InvalidCave" = some (.ref (c 4))
  n5 : mg "InvalidLabel" = some (.ref (c 5))
  n6 : mg "InvalidLine" = some (.ref (c 6))
  n7 : mg "InvalidLot" = some (.ref (c 7))
  n8 : mg "InvalidName" = some (.ref (c 8))
  n9 : mg "InvalidNumber" = some (.ref (c 9))
  n10 : mg "InvalidScript" = some (.ref (c 10))
  n11 : mg "InvalidSweep" = some (.ref (c 11))
  n12 : mg "InvalidTree" = some (.ref (c 12))
  n13 : mg "InvalidWay" = some (.ref (c 13))
  n14 : mg "NothingToUndo" = some (.ref (c 14))
  n15 : mg "ParseError" = some (.ref (c 15))
  n16 : mg "UnknownCave" = some (.ref (c 16))
  n17 : mg "UnknownName" = some (.ref (c 17))
  nB : mg "CaveError" = some (.ref cB)
  is_ : ∀ i, i < 18 → ExcC K (c i)
  isB : ExcC K cB
  made : ∀ i, i < 18 → i ≠ 15 → PySem.W.excIn K (c i) veB "ValueError.__new__" = true
  madeB : PySem.W.excIn K cB veB "ValueError.__new__" = true
  kp : ∀ i, i < 18 → PySem.W.keepIn K (.ref (c i)) = true
  kpB : PySem.W.keepIn K (.ref cB) = true
  kit : ∀ i j, i < 18 → j < 18 → PySem.W.kitOne K (.ref (c i)) (.ref (c j)) = some (decide (j = i))
  kitB : ∀ i, i < 18 → PySem.W.kitOne K (.ref (c i)) (.ref cB) = some true
  kitV : ∀ i, i < 18 → PySem.W.kitOne K (.ref (c i)) (.type "ValueError") = some true
  bk : ∀ j, j < 18 → PySem.W.kitOne K (.ref cB) (.ref (c j)) = some false
  bV : PySem.W.kitOne K (.ref cB) (.type "ValueError") = some true
  isi : mg "isinstance" = none
theorem bi : bootBuiltins "isinstance" = some (.builtin "isinstance") := by decide +kernel
theorem newO {H : Hp} {o : HO} {Q : VK} (k : ∀ p H', Same H H' → H p = none → H' p = some o → Q (.ref p) H') : ∀ p, H p = none → Q (.ref p) (upd H p o) := fun p n => k p _ (same_upd n) n upd_same
theorem sz2 {n m : Nat} (h : n ≤ 100 := by decide) (h2 : m ≤ 100 := by decide) : n + m ≤ sizeLine := by
  have : 200 ≤ sizeLine := by decide
  omega
theorem sz1 {n : Nat} (h : n ≤ 100 := by decide) : n ≤ sizeLine := by
  have : 200 ≤ sizeLine := by decide
  omega
/-- an error with its field -/
theorem newP {H : Hp} {C : Addr} {i : Int} {Q : VK} (hi : i.natAbs.log2 < 1000) (k : ∀ a d H', Same H H' → H a = none → H' a = some (exo a C (some d)) → H' d = some (exd d [("index", .int i)]) → Q (.ref a) H') :
    ∀ a, H a = none → spI C [.ref a, .int i] (upd H a (exo a C none)) (fun v H2 => v = .non ∧ Q (.ref a) H2) E0 := fun a na =>
  ⟨a, i, rfl, upd_same, hi, fun d nd da => ⟨rfl, k a d _ (fun b o e => by
    have nb : b ≠ a := ne_of_none e na
    have nd0 : b ≠ d := fun z => by
      rw [z] at e
      rw [upd_ne da] at nd
      rw [nd] at e
      cases e
    rw [upd_ne nb, upd_ne nd0, upd_ne nb]
    exact e) na upd_same (by rw [upd_ne da, upd_same])⟩⟩
/-- which class it is: the list of the answers -/
def spCls (K : PySem.W.Frag) (c : Nat → Addr) : Sp := fun vs H Q _ => ∃ (a D : Addr) (β : Nat → Bool), vs = [.ref a] ∧ ErrAt H a D ∧ ExcC K D ∧ (∀ j, j < 18 → PySem.W.kitOne K (.ref D) (.ref (c j)) = some (β j)) ∧
  ∀ H' l, Same H H' → H l = none → H' l = some (.lst ((List.range 18).map fun j => V.bl (β j))) → Q (.ref l) H'
section
variable {P : Program} {w : World} {K : PySem.W.Frag} {mg : Str → Option Value} {base : Heap} {c : Nat → Addr} {cB : Addr}
theorem ok_cls {f : Addr} {fd : FuncData} {k : Nat} (F : Fun K "_law_classes" "_law_classes" sCls f fd) (T : TxtE K mg c cB) : FnOk P w K mg base CX0 (k + 1) f fd ["caught"] (spCls K c) := by
  refine F.ok scCls (fun vs H Q E h => ?_) (fun cdv A outer s H vs Q E hr h => ?_)
  · obtain ⟨a, D, β, rfl, _⟩ := h
    rfl
  · obtain ⟨a, D, β, rfl, hE, hX, hk, q⟩ := h
    refine ⟨_, (pss_cons (ps_set (i := 1) scCls.nd rfl (.inl rfl) (pe_lst pa_nil))
      (pss_cons (ps_set (i := 1) scCls.nd rfl (.inl rfl) (pe_op op_cat (pv 1) (pe_lst (pa_cons (pe_callB call_isO (by rfl) T.isi bi (pa_cons (pv 0) (pa_cons (pe_glob (v := .ref (c 0)) (by rfl) T.n0 rfl) pa_nil))) (pa_cons (pe_callB call_isO (by rfl) T.isi bi (pa_cons (pv 0) (pa_cons (pe_glob (v := .ref (c 1)) (by rfl) T.n1 rfl) pa_nil))) pa_nil)))))
      (pss_cons (ps_set (i := 1) scCls.nd rfl (.inl rfl) (pe_op op_cat (pv 1) (pe_lst (pa_cons (pe_callB call_isO (by rfl) T.isi bi (pa_cons (pv 0) (pa_cons (pe_glob (v := .ref (c 2)) (by rfl) T.n2 rfl) pa_nil))) (pa_cons (pe_callB call_isO (by rfl) T.isi bi (pa_cons (pv 0) (pa_cons (pe_glob (v := .ref (c 3)) (by rfl) T.n3 rfl) pa_nil))) pa_nil)))))
      (pss_cons (ps_set (i := 1) scCls.nd rfl (.inl rfl) (pe_op op_cat (pv 1) (pe_lst (pa_cons (pe_callB call_isO (by rfl) T.isi bi (pa_cons (pv 0) (pa_cons (pe_glob (v := .ref (c 4)) (by rfl) T.n4 rfl) pa_nil))) (pa_cons (pe_callB call_isO (by rfl) T.isi bi (pa_cons (pv 0) (pa_cons (pe_glob (v := .ref (c 5)) (by rfl) T.n5 rfl) pa_nil))) pa_nil)))))
      (pss_cons (ps_set (i := 1) scCls.nd rfl (.inl rfl) (pe_op op_cat (pv 1) (pe_lst (pa_cons (pe_callB call_isO (by rfl) T.isi bi (pa_cons (pv 0) (pa_cons (pe_glob (v := .ref (c 6)) (by rfl) T.n6 rfl) pa_nil))) (pa_cons (pe_callB call_isO (by rfl) T.isi bi (pa_cons (pv 0) (pa_cons (pe_glob (v := .ref (c 7)) (by rfl) T.n7 rfl) pa_nil))) pa_nil)))))
      (pss_cons (ps_set (i := 1) scCls.nd rfl (.inl rfl) (pe_op op_cat (pv 1) (pe_lst (pa_cons (pe_callB call_isO (by rfl) T.isi bi (pa_cons (pv 0) (pa_cons (pe_glob (v := .ref (c 8)) (by rfl) T.n8 rfl) pa_nil))) (pa_cons (pe_callB call_isO (by rfl) T.isi bi (pa_cons (pv 0) (pa_cons (pe_glob (v := .ref (c 9)) (by rfl) T.n9 rfl) pa_nil))) pa_nil)))))
      (pss_cons (ps_set (i := 1) scCls.nd rfl (.inl rfl) (pe_op op_cat (pv 1) (pe_lst (pa_cons (pe_callB call_isO (by rfl) T.isi bi (pa_cons (pv 0) (pa_cons (pe_glob (v := .ref (c 10)) (by rfl) T.n10 rfl) pa_nil))) (pa_cons (pe_callB call_isO (by rfl) T.isi bi (pa_cons (pv 0) (pa_cons (pe_glob (v := .ref (c 11)) (by rfl) T.n11 rfl) pa_nil))) pa_nil)))))
      (pss_cons (ps_set (i := 1) scCls.nd rfl (.inl rfl) (pe_op op_cat (pv 1) (pe_lst (pa_cons (pe_callB call_isO (by rfl) T.isi bi (pa_cons (pv 0) (pa_cons (pe_glob (v := .ref (c 12)) (by rfl) T.n12 rfl) pa_nil))) (pa_cons (pe_callB call_isO (by rfl) T.isi bi (pa_cons (pv 0) (pa_cons (pe_glob (v := .ref (c 13)) (by rfl) T.n13 rfl) pa_nil))) pa_nil)))))
      (pss_cons (ps_set (i := 1) scCls.nd rfl (.inl rfl) (pe_op op_cat (pv 1) (pe_lst (pa_cons (pe_callB call_isO (by rfl) T.isi bi (pa_cons (pv 0) (pa_cons (pe_glob (v := .ref (c 14)) (by rfl) T.n14 rfl) pa_nil))) (pa_cons (pe_callB call_isO (by rfl) T.isi bi (pa_cons (pv 0) (pa_cons (pe_glob (v := .ref (c 15)) (by rfl) T.n15 rfl) pa_nil))) pa_nil)))))
      (pss_cons (ps_set (i := 1) scCls.nd rfl (.inl rfl) (pe_op op_cat (pv 1) (pe_lst (pa_cons (pe_callB call_isO (by rfl) T.isi bi (pa_cons (pv 0) (pa_cons (pe_glob (v := .ref (c 16)) (by rfl) T.n16 rfl) pa_nil))) (pa_cons (pe_callB call_isO (by rfl) T.isi bi (pa_cons (pv 0) (pa_cons (pe_glob (v := .ref (c 17)) (by rfl) T.n17 rfl) pa_nil))) pa_nil)))))
      (pss_one (ps_ret (pv 1))))))))))))), ?_⟩
    refine ⟨sz1 (by simp), fun l0 n0 => ?_⟩
    have s0 := same_upd (o := .lst []) n0
    have e0 : (upd H l0 (.lst [])) l0 = some (.lst []) := upd_same
    generalize upd H l0 (HO.lst []) = H0 at s0 e0 ⊢
    refine ⟨.ref l0, rfl, .ref a, rfl, a, D, _, _, _, rfl, hE.keep s0, hX, fun u r => r, hk 0 (by decide), .ref a, rfl, a, D, _, _, _, rfl, hE.keep s0, hX, fun u r => r, hk 1 (by decide), sz1 (by simp), fun b0 m0 => ?_⟩
    have u0 := same_upd (o := .lst [.bl (β 0), .bl (β 1)]) m0
    have f0 : (upd H0 b0 (.lst [.bl (β 0), .bl (β 1)])) b0 = some (.lst [.bl (β 0), .bl (β 1)]) := upd_same
    generalize upd H0 b0 (HO.lst [.bl (β 0), .bl (β 1)]) = G0 at u0 f0 ⊢
    refine ⟨l0, b0, _, _, rfl, rfl, u0 _ _ e0, f0, sz2 (by simp) (by simp), fun l1 x1 => ?_⟩
    have w1 := same_upd (o := .lst ([] ++ [.bl (β 0), .bl (β 1)])) x1
    have e1 : (upd G0 l1 (.lst ([] ++ [.bl (β 0), .bl (β 1)]))) l1 = some (.lst [.bl (β 0), .bl (β 1)]) := upd_same
    generalize upd G0 l1 (HO.lst ([] ++ [.bl (β 0), .bl (β 1)])) = H1 at w1 e1 ⊢
    have s1 := s0.trans (u0.trans w1)
    have n1 : H l1 = none := s0.free (u0.free x1)
    refine ⟨.ref l1, rfl, .ref a, rfl, a, D, _, _, _, rfl, hE.keep s1, hX, fun u r => r, hk 2 (by decide), .ref a, rfl, a, D, _, _, _, rfl, hE.keep s1, hX, fun u r => r, hk 3 (by decide), sz1 (by simp), fun b1 m1 => ?_⟩
    have u1 := same_upd (o := .lst [.bl (β 2), .bl (β 3)]) m1
    have f1 : (upd H1 b1 (.lst [.bl (β 2), .bl (β 3)])) b1 = some (.lst [.bl (β 2), .bl (β 3)]) := upd_same
    generalize upd H1 b1 (HO.lst [.bl (β 2), .bl (β 3)]) = G1 at u1 f1 ⊢
    refine ⟨l1, b1, _, _, rfl, rfl, u1 _ _ e1, f1, sz2 (by simp) (by simp), fun l2 x2 => ?_⟩
    have w2 := same_upd (o := .lst ([.bl (β 0), .bl (β 1)] ++ [.bl (β 2), .bl (β 3)])) x2
    have e2 : (upd G1 l2 (.lst ([.bl (β 0), .bl (β 1)] ++ [.bl (β 2), .bl (β 3)]))) l2 = some (.lst [.bl (β 0), .bl (β 1), .bl (β 2), .bl (β 3)]) := upd_same
    generalize upd G1 l2 (HO.lst ([.bl (β 0), .bl (β 1)] ++ [.bl (β 2), .bl (β 3)])) = H2 at w2 e2 ⊢
    have s2 := s1.trans (u1.trans w2)
    have n2 : H l2 = none := s1.free (u1.free x2)
    refine ⟨.ref l2, rfl, .ref a, rfl, a, D, _, _, _, rfl, hE.keep s2, hX, fun u r => r, hk 4 (by decide), .ref a, rfl, a, D, _, _, _, rfl, hE.keep s2, hX, fun u r => r, hk 5 (by decide), sz1 (by simp), fun b2 m2 => ?_⟩
    have u2 := same_upd (o := .lst [.bl (β 4), .bl (β 5)]) m2
    have f2 : (upd H2 b2 (.lst [.bl (β 4), .bl (β 5)])) b2 = some (.lst [.bl (β 4), .bl (β 5)]) := upd_same
    generalize upd H2 b2 (HO.lst [.bl (β 4), .bl (β 5)]) = G2 at u2 f2 ⊢
    refine ⟨l2, b2, _, _, rfl, rfl, u2 _ _ e2, f2, sz2 (by simp) (by simp), fun l3 x3 => ?_⟩
    have w3 := same_upd (o := .lst ([.bl (β 0), .bl (β 1), .bl (β 2), .bl (β 3)] ++ [.bl (β 4), .bl (β 5)])) x3
    have e3 : (upd G2 l3 (.lst ([.bl (β 0), .bl (β 1), .bl (β 2), .bl (β 3)] ++ [.bl (β 4), .bl (β 5)]))) l3 = some (.lst [.bl (β 0), .bl (β 1), .bl (β 2), .bl (β 3), .bl (β 4), .bl (β 5)]) := upd_same
    generalize upd G2 l3 (HO.lst ([.bl (β 0), .bl (β 1), .bl (β 2), .bl (β 3)] ++ [.bl (β 4), .bl (β 5)])) = H3 at w3 e3 ⊢
    have s3 := s2.trans (u2.trans w3)
    have n3 : H l3 = none := s2.free (u2.free x3)
    refine ⟨.ref l3, rfl, .ref a, rfl, a, D, _, _, _, rfl, hE.keep s3, hX, fun u r => r, hk 6 (by decide), .ref a, rfl, a, D, _, _, _, rfl, hE.keep s3, hX, fun u r => r, hk 7 (by decide), sz1 (by simp), fun b3 m3 => ?_⟩
    have u3 := same_upd (o := .lst [.bl (β 6), .bl (β 7)]) m3
    have f3 : (upd H3 b3 (.lst [.bl (β 6), .bl (β 7)])) b3 = some (.lst [.bl (β 6), .bl (β 7)]) := upd_same
    generalize upd H3 b3 (HO.lst [.bl (β 6), .bl (β 7)]) = G3 at u3 f3 ⊢
    refine ⟨l3, b3, _, _, rfl, rfl, u3 _ _ e3, f3, sz2 (by simp) (by simp), fun l4 x4 => ?_⟩
    have w4 := same_upd (o := .lst ([.bl (β 0), .bl (β 1), .bl (β 2), .bl (β 3), .bl (β 4), .bl (β 5)] ++ [.bl (β 6), .bl (β 7)])) x4
    have e4 : (upd G3 l4 (.lst ([.bl (β 0), .bl (β 1), .bl (β 2), .bl (β 3), .bl (β 4), .bl (β 5)] ++ [.bl (β 6), .bl (β 7)]))) l4 = some (.lst [.bl (β 0), .bl (β 1), .bl (β 2), .bl (β 3), .bl (β 4), .bl (β 5), .bl (β 6), .bl (β 7)]) := upd_same
    generalize upd G3 l4 (HO.lst ([.bl (β 0), .bl (β 1), .bl (β 2), .bl (β 3), .bl (β 4), .bl (β 5)] ++ [.bl (β 6), .bl (β 7)])) = H4 at w4 e4 ⊢
    have s4 := s3.trans (u3.trans w4)
    have n4 : H l4 = none := s3.free (u3.free x4)
    refine ⟨.ref l4, rfl, .ref a, rfl, a, D, _, _, _, rfl, hE.keep s4, hX, fun u r => r, hk 8 (by decide), .ref a, rfl, a, D, _, _, _, rfl, hE.keep s4, hX, fun u r => r, hk 9 (by decide), sz1 (by simp), fun b4 m4 => ?_⟩
    have u4 := same_upd (o := .lst [.bl (β 8), .bl (β 9)]) m4
    have f4 : (upd H4 b4 (.lst [.bl (β 8), .bl (β 9)])) b4 = some (.lst [.bl (β 8), .bl (β 9)]) := upd_same
    generalize upd H4 b4 (HO.lst [.bl (β 8), .bl (β 9)]) = G4 at u4 f4 ⊢
    refine ⟨l4, b4, _, _, rfl, rfl, u4 _ _ e4, f4, sz2 (by simp) (by simp), fun l5 x5 => ?_⟩
    have w5 := same_upd (o := .lst ([.bl (β 0), .bl (β 1), .bl (β 2), .bl (β 3), .bl (β 4), .bl (β 5), .bl (β 6), .bl (β 7)] ++ [.bl (β 8), .bl (β 9)])) x5
    have e5 : (upd G4 l5 (.lst ([.bl (β 0), .bl (β 1), .bl (β 2), .bl (β 3), .bl (β 4), .bl (β 5), .bl (β 6), .bl (β 7)] ++ [.bl (β 8), .bl (β 9)]))) l5 = some (.lst [.bl (β 0), .bl (β 1), .bl (β 2), .bl (β 3), .bl (β 4), .bl (β 5), .bl (β 6), .bl (β 7), .bl (β 8), .bl (β 9)]) := upd_same
    generalize upd G4 l5 (HO.lst ([.bl (β 0), .bl (β 1), .bl (β 2), .bl (β 3), .bl (β 4), .bl (β 5), .bl (β 6), .bl (β 7)] ++ [.bl (β 8), .bl (β 9)])) = H5 at w5 e5 ⊢
    have s5 := s4.trans (u4.trans w5)
    have n5 : H l5 = none := s4.free (u4.free x5)
    refine ⟨.ref l5, rfl, .ref a, rfl, a, D, _, _, _, rfl, hE.keep s5, hX, fun u r => r, hk 10 (by decide), .ref a, rfl, a, D, _, _, _, rfl, hE.keep s5, hX, fun u r => r, hk 11 (by decide), sz1 (by simp), fun b5 m5 => ?_⟩
    have u5 := same_upd (o := .lst [.bl (β 10), .bl (β 11)]) m5
    have f5 : (upd H5 b5 (.lst [.bl (β 10), .bl (β 11)])) b5 = some (.lst [.bl (β 10), .bl (β 11)]) := upd_same
    generalize upd H5 b5 (HO.lst [.bl (β 10), .bl (β 11)]) = G5 at u5 f5 ⊢
    refine ⟨l5, b5, _, _, rfl, rfl, u5 _ _ e5, f5, sz2 (by simp) (by simp), fun l6 x6 => ?_⟩
    have w6 := same_upd (o := .lst ([.bl (β 0), .bl (β 1), .bl (β 2), .bl (β 3), .bl (β 4), .bl (β 5), .bl (β 6), .bl (β 7), .bl (β 8), .bl (β 9)] ++ [.bl (β 10), .bl (β 11)])) x6
    have e6 : (upd G5 l6 (.lst ([.bl (β 0), .bl (β 1), .bl (β 2), .bl (β 3), .bl (β 4), .bl (β 5), .bl (β 6), .bl (β 7), .bl (β 8), .bl (β 9)] ++ [.bl (β 10), .bl (β 11)]))) l6 = some (.lst [.bl (β 0), .bl (β 1), .bl (β 2), .bl (β 3), .bl (β 4), .bl (β 5), .bl (β 6), .bl (β 7), .bl (β 8), .bl (β 9), .bl (β 10), .bl (β 11)]) := upd_same
    generalize upd G5 l6 (HO.lst ([.bl (β 0), .bl (β 1), .bl (β 2), .bl (β 3), .bl (β 4), .bl (β 5), .bl (β 6), .bl (β 7), .bl (β 8), .bl (β 9)] ++ [.bl (β 10), .bl (β 11)])) = H6 at w6 e6 ⊢
    have s6 := s5.trans (u5.trans w6)
    have n6 : H l6 = none := s5.free (u5.free x6)
    refine ⟨.ref l6, rfl, .ref a, rfl, a, D, _, _, _, rfl, hE.keep s6, hX, fun u r => r, hk 12 (by decide), .ref a, rfl, a, D, _, _, _, rfl, hE.keep s6, hX, fun u r => r, hk 13 (by decide), sz1 (by simp), fun b6 m6 => ?_⟩
    have u6 := same_upd (o := .lst [.bl (β 12), .bl (β 13)]) m6
    have f6 : (upd H6 b6 (.lst [.bl (β 12), .bl (β 13)])) b6 = some (.lst [.bl (β 12), .bl (β 13)]) := upd_same
    generalize upd H6 b6 (HO.lst [.bl (β 12), .bl (β 13)]) = G6 at u6 f6 ⊢
    refine ⟨l6, b6, _, _, rfl, rfl, u6 _ _ e6, f6, sz2 (by simp) (by simp), fun l7 x7 => ?_⟩
    have w7 := same_upd (o := .lst ([.bl (β 0), .bl (β 1), .bl (β 2), .bl (β 3), .bl (β 4), .bl (β 5), .bl (β 6), .bl (β 7), .bl (β 8), .bl (β 9), .bl (β 10), .bl (β 11)] ++ [.bl (β 12), .bl (β 13)])) x7
    have e7 : (upd G6 l7 (.lst ([.bl (β 0), .bl (β 1), .bl (β 2), .bl (β 3), .bl (β 4), .bl (β 5), .bl (β 6), .bl (β 7), .bl (β 8), .bl (β 9), .bl (β 10), .bl (β 11)] ++ [.bl (β 12), .bl (β 13)]))) l7 = some (.lst [.bl (β 0), .bl (β 1), .bl (β 2), .bl (β 3), .bl (β 4), .bl (β 5), .bl (β 6), .bl (β 7), .bl (β 8), .bl (β 9), .bl (β 10), .bl (β 11), .bl (β 12), .bl (β 13)]) := upd_same
    generalize upd G6 l7 (HO.lst ([.bl (β 0), .bl (β 1), .bl (β 2), .bl (β 3), .bl (β 4), .bl (β 5), .bl (β 6), .bl (β 7), .bl (β 8), .bl (β 9), .bl (β 10), .bl (β 11)] ++ [.bl (β 12), .bl (β 13)])) = H7 at w7 e7 ⊢
    have s7 := s6.trans (u6.trans w7)
    have n7 : H l7 = none := s6.free (u6.free x7)
    refine ⟨.ref l7, rfl, .ref a, rfl, a, D, _, _, _, rfl, hE.keep s7, hX, fun u r => r, hk 14 (by decide), .ref a, rfl, a, D, _, _, _, rfl, hE.keep s7, hX, fun u r => r, hk 15 (by decide), sz1 (by simp), fun b7 m7 => ?_⟩
    have u7 := same_upd (o := .lst [.bl (β 14), .bl (β 15)]) m7
    have f7 : (upd H7 b7 (.lst [.bl (β 14), .bl (β 15)])) b7 = some (.lst [.bl (β 14), .bl (β 15)]) := upd_same
    generalize upd H7 b7 (HO.lst [.bl (β 14), .bl (β 15)]) = G7 at u7 f7 ⊢
    refine ⟨l7, b7, _, _, rfl, rfl, u7 _ _ e7, f7, sz2 (by simp) (by simp), fun l8 x8 => ?_⟩
    have w8 := same_upd (o := .lst ([.bl (β 0), .bl (β 1), .bl (β 2), .bl (β 3), .bl (β 4), .bl (β 5), .bl (β 6), .bl (β 7), .bl (β 8), .bl (β 9), .bl (β 10), .bl (β 11), .bl (β 12), .bl (β 13)] ++ [.bl (β 14), .bl (β 15)])) x8
    have e8 : (upd G7 l8 (.lst ([.bl (β 0), .bl (β 1), .bl (β 2), .bl (β 3), .bl (β 4), .bl (β 5), .bl (β 6), .bl (β 7), .bl (β 8), .bl (β 9), .bl (β 10), .bl (β 11), .bl (β 12), .bl (β 13)] ++ [.bl (β 14), .bl (β 15)]))) l8 = some (.lst [.bl (β 0), .bl (β 1), .bl (β 2), .bl (β 3), .bl (β 4), .bl (β 5), .bl (β 6), .bl (β 7), .bl (β 8), .bl (β 9), .bl (β 10), .bl (β 11), .bl (β 12), .bl (β 13), .bl (β 14), .bl (β 15)]) := upd_same
    generalize upd G7 l8 (HO.lst ([.bl (β 0), .bl (β 1), .bl (β 2), .bl (β 3), .bl (β 4), .bl (β 5), .bl (β 6), .bl (β 7), .bl (β 8), .bl (β 9), .bl (β 10), .bl (β 11), .bl (β 12), .bl (β 13)] ++ [.bl (β 14), .bl (β 15)])) = H8 at w8 e8 ⊢
    have s8 := s7.trans (u7.trans w8)
    have n8 : H l8 = none := s7.free (u7.free x8)
    refine ⟨.ref l8, rfl, .ref a, rfl, a, D, _, _, _, rfl, hE.keep s8, hX, fun u r => r, hk 16 (by decide), .ref a, rfl, a, D, _, _, _, rfl, hE.keep s8, hX, fun u r => r, hk 17 (by decide), sz1 (by simp), fun b8 m8 => ?_⟩
    have u8 := same_upd (o := .lst [.bl (β 16), .bl (β 17)]) m8
    have f8 : (upd H8 b8 (.lst [.bl (β 16), .bl (β 17)])) b8 = some (.lst [.bl (β 16), .bl (β 17)]) := upd_same
    generalize upd H8 b8 (HO.lst [.bl (β 16), .bl (β 17)]) = G8 at u8 f8 ⊢
    refine ⟨l8, b8, _, _, rfl, rfl, u8 _ _ e8, f8, sz2 (by simp) (by simp), fun l9 x9 => ?_⟩
    have w9 := same_upd (o := .lst ([.bl (β 0), .bl (β 1), .bl (β 2), .bl (β 3), .bl (β 4), .bl (β 5), .bl (β 6), .bl (β 7), .bl (β 8), .bl (β 9), .bl (β 10), .bl (β 11), .bl (β 12), .bl (β 13), .bl (β 14), .bl (β 15)] ++ [.bl (β 16), .bl (β 17)])) x9
    have e9 : (upd G8 l9 (.lst ([.bl (β 0), .bl (β 1), .bl (β 2), .bl (β 3), .bl (β 4), .bl (β 5), .bl (β 6), .bl (β 7), .bl (β 8), .bl (β 9), .bl (β 10), .bl (β 11), .bl (β 12), .bl (β 13), .bl (β 14), .bl (β 15)] ++ [.bl (β 16), .bl (β 17)]))) l9 = some (.lst [.bl (β 0), .bl (β 1), .bl (β 2), .bl (β 3), .bl (β 4), .bl (β 5), .bl (β 6), .bl (β 7), .bl (β 8), .bl (β 9), .bl (β 10), .bl (β 11), .bl (β 12), .bl (β 13), .bl (β 14), .bl (β 15), .bl (β 16), .bl (β 17)]) := upd_same
    generalize upd G8 l9 (HO.lst ([.bl (β 0), .bl (β 1), .bl (β 2), .bl (β 3), .bl (β 4), .bl (β 5), .bl (β 6), .bl (β 7), .bl (β 8), .bl (β 9), .bl (β 10), .bl (β 11), .bl (β 12), .bl (β 13), .bl (β 14), .bl (β 15)] ++ [.bl (β 16), .bl (β 17)])) = H9 at w9 e9 ⊢
    have s9 := s8.trans (u8.trans w9)
    have n9 : H l9 = none := s8.free (u8.free x9)
    exact ⟨.ref l9, rfl, q H9 l9 s9 n9 e9⟩
end
end Cv

namespace Cv
open PySem PySem.Spec PyProof.Rows L2 CvE CvG
structure TxtF (K : PySem.W.Frag) (mg : Str → Option Value) (c : Nat → Addr) (fI : Addr) (fdI : FuncData) : Prop where
  ox : OexC K (c 15)
  iC : PySem.W.findIn K (.ref (c 15)) "__init__" = some (some (.ref fI))
  tI : PySem.W.typeIn K (.ref fI) = some (.type "function")
  bI : Binds K fdI ["self", "index"] []
  bK : ∀ (m : Shared) (u v : Value), BindsTo m fdI ⟨[u], [("index", v)]⟩ [("self", u), ("index", v)]
  xf : XfC K (c 15)
  noix : PySem.W.findIn K (.ref (c 15)) "index" = some none
  rng : mg "range" = none
  rep : mg "repr" = none
  any_ : mg "any" = none
  ve : mg "ValueError" = none
/-- the errors with the addresses as stand in the list at l, each of its own class -/
structure MadeAt (c : Nat → Addr) (H : Hp) (l : Addr) (as : List Addr) : Prop where
  lst : H l = some (.lst (as.map V.ref))
  err : ∀ j a, as[j]? = some a → ErrAt H a (c j)
theorem MadeAt.keep {c : Nat → Addr} {H H' : Hp} {l : Addr} {as : List Addr} (M : MadeAt c H l as) (s : Same H H') : MadeAt c H' l as := ⟨s _ _ M.lst, fun j a h => (M.err j a h).keep s⟩
theorem MadeAt.add {c : Nat → Addr} {H H' : Hp} {l l' : Addr} {as bs : List Addr} (M : MadeAt c H l as) (s : Same H H') (hb : ∀ j b, bs[j]? = some b → ErrAt H' b (c (as.length + j))) (el : H' l' = some (.lst (as.map V.ref ++ bs.map V.ref))) : MadeAt c H' l' (as ++ bs) := by
  refine ⟨by rw [List.map_append]; exact el, fun j a h => ?_⟩
  by_cases hj : j < as.length
  · rw [List.getElem?_append_left hj] at h
    exact (M.err j a h).keep s
  · rw [List.getElem?_append_right (by omega)] at h
    have := hb _ a h
    rwa [show as.length + (j - as.length) = j by omega] at this
/-- s * n of a text of one sign -/
theorem op_smul {X : Cx} : OpR X (binaryOp .Mult) (fun x y H Q => ∃ (z : Str) (i : Int), x = .str z ∧ y = .int i ∧ z.length ≤ 16 ∧ 0 ≤ i ∧ i ≤ 1048576 ∧ Q (.str (Txt.mul z i)) H) := by
  intro pins s σ H x y v u Q I rx ry h
  obtain ⟨z, i, rfl, rfl, h1, h2, h3, q⟩ := h
  obtain ⟨t, rfl⟩ := rx
  obtain ⟨t', rfl⟩ := ry
  exact SB.mul (mulOk_of 16 1048576 h1 (by omega) (by omega) (by decide) (by decide)) fun t2 k => ⟨.str _, H, I.tok k, ⟨t2, rfl⟩, q⟩
theorem lay_bools : ∀ bs : List Bool, PyData.canLayAll0 (bs.map PyData.bool) = true
  | [] => by simp [PyData.canLayAll0]
  | _ :: r => by simp [PyData.canLayAll0, PyData.canLay0, lay_bools r]
theorem depth_bools : ∀ bs : List Bool, PyData.depthAll (bs.map PyData.bool) ≤ 2
  | [] => by simp [PyData.depthAll]
  | z :: r => by
    have h1 := depth_bools r
    simp only [List.map_cons, PyData.depthAll, PyData.depth]
    omega
theorem shaped_bools (bs : List Bool) : SeqAt.shaped (PyData.list (bs.map PyData.bool)) = true := by
  have h1 := depth_bools bs
  have h2 : PyData.depth (.list (bs.map PyData.bool)) ≤ 64 := by
    simp only [PyData.depth]
    omega
  show (PyData.canLay0 (.list (bs.map PyData.bool)) && decide (PyData.depth (.list (bs.map PyData.bool)) ≤ 64)) = true
  rw [Bool.and_eq_true]
  exact ⟨by simp only [PyData.canLay0]; exact lay_bools bs, decide_eq_true h2⟩
theorem dp_bools {K : PySem.W.Frag} {H : Hp} : ∀ bs : List Bool, DpAll K H (bs.map V.bl) (bs.map PyData.bool)
  | [] => .nil
  | _ :: r => .cons (.bl _) (dp_bools r)
section
variable {P : Program} {w : World} {K : PySem.W.Frag} {mg : Str → Option Value} {base : Heap} {c : Nat → Addr} {cB : Addr}
theorem newPs {H : Hp} {C a d : Addr} {i : Int} (na : H a = none) (nd : (upd H a (exo a C none)) d = none) (da : d ≠ a) :
    Same H (upd (upd (upd H a (exo a C none)) d (exd d [("index", .int i)])) a (exo a C (some d))) ∧ (upd (upd (upd H a (exo a C none)) d (exd d [("index", .int i)])) a (exo a C (some d))) a = some (exo a C (some d)) ∧
      (upd (upd (upd H a (exo a C none)) d (exd d [("index", .int i)])) a (exo a C (some d))) d = some (exd d [("index", .int i)]) := by
  refine ⟨fun b o e => ?_, upd_same, by rw [upd_ne da, upd_same]⟩
  have nb : b ≠ a := ne_of_none e na
  have nb2 : b ≠ d := fun z => by
    rw [z] at e
    rw [upd_ne da] at nd
    rw [nd] at e
    cases e
  rw [upd_ne nb, upd_ne nb2, upd_ne nb]
  exact e
/-- an item of a made error -/
theorem newE {H : Hp} {C : Addr} {Q : VK} (k : ∀ a H', Same H H' → ErrAt H' a C → Q (.ref a) H') : ∀ a, H a = none → Q (.ref a) (upd H a (ExO (.ref C) a)) := fun a n => k a _ (same_upd n) (.inl upd_same)
def spMade (c : Nat → Addr) : Sp := fun vs H Q _ => ∃ (z : Str) (i : Int), vs = [.str z, .int i] ∧ i.natAbs.log2 < 1000 ∧
  ∀ H' l as a d, Same H H' → MadeAt c H' l as → as.length = 18 → as[15]? = some a → H' a = some (exo a (c 15) (some d)) → H' d = some (exd d [("index", .int i)]) → Q (.ref l) H'

abbrev sMade : Stmt := topS 25
theorem scMade : FnScope ["word", "number_here", "found"] ["word", "number_here"] (defScope sMade) := ⟨rfl, rfl, rfl, by decide +kernel, rfl, by decide +kernel, by decide +kernel⟩
theorem ok_made {f fI : Addr} {fd fdI : FuncData} {k : Nat} (F : Fun K "_law_made_errors" "_law_made_errors" sMade f fd) (T : TxtE K mg c cB) (Z : TxtF K mg c fI fdI) (GI : FnOk P w K mg base CX0 2 fI fdI ["self", "index"] (spI (c 15))) :
    FnOk P w K mg base CX0 4 f fd ["word", "number_here"] (spMade c) := by
  refine F.ok scMade (fun vs H Q E h => ?_) (fun cdv A outer s H vs Q E hr h => ?_)
  · obtain ⟨z, i, rfl, _⟩ := h
    rfl
  · obtain ⟨z, i, rfl, hi, q⟩ := h
    refine ⟨_, (pss_cons (ps_set (i := 2) scMade.nd rfl (.inl rfl) (pe_lst pa_nil))
      (pss_cons (ps_set (i := 2) scMade.nd rfl (.inl rfl) (pe_op op_cat (pv 2) (pe_lst (pa_cons (pe_exc1 PySem.F.excBase_ValueError (T.made 0 (by decide) (by decide)) T.n0 (T.kp 0 (by decide)) (by rfl) (pv 0)) (pa_cons (pe_exc1 PySem.F.excBase_ValueError (T.made 1 (by decide) (by decide)) T.n1 (T.kp 1 (by decide)) (by rfl) (pv 0)) pa_nil)))))
      (pss_cons (ps_set (i := 2) scMade.nd rfl (.inl rfl) (pe_op op_cat (pv 2) (pe_lst (pa_cons (pe_exc1 PySem.F.excBase_ValueError (T.made 2 (by decide) (by decide)) T.n2 (T.kp 2 (by decide)) (by rfl) (pv 0)) (pa_cons (pe_exc1 PySem.F.excBase_ValueError (T.made 3 (by decide) (by decide)) T.n3 (T.kp 3 (by decide)) (by rfl) (pv 0)) pa_nil)))))
      (pss_cons (ps_set (i := 2) scMade.nd rfl (.inl rfl) (pe_op op_cat (pv 2) (pe_lst (pa_cons (pe_exc1 PySem.F.excBase_ValueError (T.made 4 (by decide) (by decide)) T.n4 (T.kp 4 (by decide)) (by rfl) (pv 0)) (pa_cons (pe_exc1 PySem.F.excBase_ValueError (T.made 5 (by decide) (by decide)) T.n5 (T.kp 5 (by decide)) (by rfl) (pv 0)) pa_nil)))))
      (pss_cons (ps_set (i := 2) scMade.nd rfl (.inl rfl) (pe_op op_cat (pv 2) (pe_lst (pa_cons (pe_exc1 PySem.F.excBase_ValueError (T.made 6 (by decide) (by decide)) T.n6 (T.kp 6 (by decide)) (by rfl) (pv 0)) (pa_cons (pe_exc1 PySem.F.excBase_ValueError (T.made 7 (by decide) (by decide)) T.n7 (T.kp 7 (by decide)) (by rfl) (pv 0)) pa_nil)))))
      (pss_cons (ps_set (i := 2) scMade.nd rfl (.inl rfl) (pe_op op_cat (pv 2) (pe_lst (pa_cons (pe_exc1 PySem.F.excBase_ValueError (T.made 8 (by decide) (by decide)) T.n8 (T.kp 8 (by decide)) (by rfl) (pv 0)) (pa_cons (pe_exc1 PySem.F.excBase_ValueError (T.made 9 (by decide) (by decide)) T.n9 (T.kp 9 (by decide)) (by rfl) (pv 0)) pa_nil)))))
      (pss_cons (ps_set (i := 2) scMade.nd rfl (.inl rfl) (pe_op op_cat (pv 2) (pe_lst (pa_cons (pe_exc1 PySem.F.excBase_ValueError (T.made 10 (by decide) (by decide)) T.n10 (T.kp 10 (by decide)) (by rfl) (pv 0)) (pa_cons (pe_exc1 PySem.F.excBase_ValueError (T.made 11 (by decide) (by decide)) T.n11 (T.kp 11 (by decide)) (by rfl) (pv 0)) pa_nil)))))
      (pss_cons (ps_set (i := 2) scMade.nd rfl (.inl rfl) (pe_op op_cat (pv 2) (pe_lst (pa_cons (pe_exc1 PySem.F.excBase_ValueError (T.made 12 (by decide) (by decide)) T.n12 (T.kp 12 (by decide)) (by rfl) (pv 0)) (pa_cons (pe_exc1 PySem.F.excBase_ValueError (T.made 13 (by decide) (by decide)) T.n13 (T.kp 13 (by decide)) (by rfl) (pv 0)) pa_nil)))))
      (pss_cons (ps_set (i := 2) scMade.nd rfl (.inl rfl) (pe_op op_cat (pv 2) (pe_lst (pa_cons (pe_exc1 PySem.F.excBase_ValueError (T.made 14 (by decide) (by decide)) T.n14 (T.kp 14 (by decide)) (by rfl) (pv 0)) (pa_cons (pe_err Z.ox Z.iC Z.tI GI (hr) Z.bI (by rfl) T.n15 (pa_cons (pv 1) pa_nil)) pa_nil)))))
      (pss_cons (ps_set (i := 2) scMade.nd rfl (.inl rfl) (pe_op op_cat (pv 2) (pe_lst (pa_cons (pe_exc1 PySem.F.excBase_ValueError (T.made 16 (by decide) (by decide)) T.n16 (T.kp 16 (by decide)) (by rfl) (pv 0)) (pa_cons (pe_exc1 PySem.F.excBase_ValueError (T.made 17 (by decide) (by decide)) T.n17 (T.kp 17 (by decide)) (by rfl) (pv 0)) pa_nil)))))
      (pss_one (ps_ret (pv 2))))))))))))), ?_⟩
    refine ⟨sz1 (by simp), fun l0 n0 => ?_⟩
    have s0 := same_upd (o := .lst []) n0
    have M0 : MadeAt c (upd H l0 (.lst [])) l0 [] := ⟨upd_same, fun j a h => by simp at h⟩
    have len0 : ([] : List Addr).length = 0 := rfl
    generalize upd H l0 (HO.lst []) = H0 at s0 M0 ⊢
    -- CannotBe, DuplicateName
    refine ⟨.ref l0, rfl, .str z, rfl, fun a0 na0 => ?_⟩
    have sa0 := same_upd (o := ExO (.ref (c 0)) a0) na0
    have ea0 : ErrAt (upd H0 a0 (ExO (.ref (c 0)) a0)) a0 (c 0) := .inl upd_same
    generalize upd H0 a0 (ExO (.ref (c 0)) a0) = A0 at sa0 ea0 ⊢
    refine ⟨.str z, rfl, fun a1 nb0 => ?_⟩
    have sb0 := same_upd (o := ExO (.ref (c 1)) a1) nb0
    have eb0 : ErrAt (upd A0 a1 (ExO (.ref (c 1)) a1)) a1 (c 1) := .inl upd_same
    generalize upd A0 a1 (ExO (.ref (c 1)) a1) = B0 at sb0 eb0 ⊢
    refine ⟨sz1 (by simp), fun b0 m0 => ?_⟩
    have u0 := same_upd (o := .lst [.ref a0, .ref a1]) m0
    have f0 : (upd B0 b0 (.lst [.ref a0, .ref a1])) b0 = some (.lst [.ref a0, .ref a1]) := upd_same
    generalize upd B0 b0 (HO.lst [V.ref a0, V.ref a1]) = G0 at u0 f0 ⊢
    have v0 := sa0.trans (sb0.trans u0)
    refine ⟨l0, b0, _, _, rfl, rfl, v0 _ _ M0.lst, f0, sz2 (by simp) (by simp), fun l1 x1 => ?_⟩
    have w1 := same_upd (o := .lst ((([] : List Addr).map V.ref) ++ [.ref a0, .ref a1])) x1
    have M1 : MadeAt c (upd G0 l1 (.lst ((([] : List Addr).map V.ref) ++ [.ref a0, .ref a1]))) l1 [a0, a1] := M0.add (bs := [a0, a1]) (v0.trans w1) (fun j b h => match j, h with | 0, h => (by cases h; exact (ea0.keep (sb0.trans u0)).keep w1) | 1, h => (by cases h; exact (eb0.keep u0).keep w1)) upd_same
    generalize upd G0 l1 (HO.lst ((([] : List Addr).map V.ref) ++ [V.ref a0, V.ref a1])) = H1 at w1 M1 ⊢
    have s1 := s0.trans (v0.trans w1)
    -- InvalidBook, InvalidBool
    refine ⟨.ref l1, rfl, .str z, rfl, fun a2 na2 => ?_⟩
    have sa1 := same_upd (o := ExO (.ref (c 2)) a2) na2
    have ea1 : ErrAt (upd H1 a2 (ExO (.ref (c 2)) a2)) a2 (c 2) := .inl upd_same
    generalize upd H1 a2 (ExO (.ref (c 2)) a2) = A1 at sa1 ea1 ⊢
    refine ⟨.str z, rfl, fun a3 nb1 => ?_⟩
    have sb1 := same_upd (o := ExO (.ref (c 3)) a3) nb1
    have eb1 : ErrAt (upd A1 a3 (ExO (.ref (c 3)) a3)) a3 (c 3) := .inl upd_same
    generalize upd A1 a3 (ExO (.ref (c 3)) a3) = B1 at sb1 eb1 ⊢
    refine ⟨sz1 (by simp), fun b1 m1 => ?_⟩
    have u1 := same_upd (o := .lst [.ref a2, .ref a3]) m1
    have f1 : (upd B1 b1 (.lst [.ref a2, .ref a3])) b1 = some (.lst [.ref a2, .ref a3]) := upd_same
    generalize upd B1 b1 (HO.lst [V.ref a2, V.ref a3]) = G1 at u1 f1 ⊢
    have v1 := sa1.trans (sb1.trans u1)
    refine ⟨l1, b1, _, _, rfl, rfl, v1 _ _ M1.lst, f1, sz2 (by simp) (by simp), fun l2 x2 => ?_⟩
    have w2 := same_upd (o := .lst (([a0, a1].map V.ref) ++ [.ref a2, .ref a3])) x2
    have M2 : MadeAt c (upd G1 l2 (.lst (([a0, a1].map V.ref) ++ [.ref a2, .ref a3]))) l2 [a0, a1, a2, a3] := M1.add (bs := [a2, a3]) (v1.trans w2) (fun j b h => match j, h with | 0, h => (by cases h; exact (ea1.keep (sb1.trans u1)).keep w2) | 1, h => (by cases h; exact (eb1.keep u1).keep w2)) upd_same
    generalize upd G1 l2 (HO.lst (([a0, a1].map V.ref) ++ [V.ref a2, V.ref a3])) = H2 at w2 M2 ⊢
    have s2 := s1.trans (v1.trans w2)
    -- InvalidCave, InvalidLabel
    refine ⟨.ref l2, rfl, .str z, rfl, fun a4 na4 => ?_⟩
    have sa2 := same_upd (o := ExO (.ref (c 4)) a4) na4
    have ea2 : ErrAt (upd H2 a4 (ExO (.ref (c 4)) a4)) a4 (c 4) := .inl upd_same
    generalize upd H2 a4 (ExO (.ref (c 4)) a4) = A2 at sa2 ea2 ⊢
    refine ⟨.str z, rfl, fun a5 nb2 => ?_⟩
    have sb2 := same_upd (o := ExO (.ref (c 5)) a5) nb2
    have eb2 : ErrAt (upd A2 a5 (ExO (.ref (c 5)) a5)) a5 (c 5) := .inl upd_same
    generalize upd A2 a5 (ExO (.ref (c 5)) a5) = B2 at sb2 eb2 ⊢
    refine ⟨sz1 (by simp), fun b2 m2 => ?_⟩
    have u2 := same_upd (o := .lst [.ref a4, .ref a5]) m2
    have f2 : (upd B2 b2 (.lst [.ref a4, .ref a5])) b2 = some (.lst [.ref a4, .ref a5]) := upd_same
    generalize upd B2 b2 (HO.lst [V.ref a4, V.ref a5]) = G2 at u2 f2 ⊢
    have v2 := sa2.trans (sb2.trans u2)
    refine ⟨l2, b2, _, _, rfl, rfl, v2 _ _ M2.lst, f2, sz2 (by simp) (by simp), fun l3 x3 => ?_⟩
    have w3 := same_upd (o := .lst (([a0, a1, a2, a3].map V.ref) ++ [.ref a4, .ref a5])) x3
    have M3 : MadeAt c (upd G2 l3 (.lst (([a0, a1, a2, a3].map V.ref) ++ [.ref a4, .ref a5]))) l3 [a0, a1, a2, a3, a4, a5] := M2.add (bs := [a4, a5]) (v2.trans w3) (fun j b h => match j, h with | 0, h => (by cases h; exact (ea2.keep (sb2.trans u2)).keep w3) | 1, h => (by cases h; exact (eb2.keep u2).keep w3)) upd_same
    generalize upd G2 l3 (HO.lst (([a0, a1, a2, a3].map V.ref) ++ [V.ref a4, V.ref a5])) = H3 at w3 M3 ⊢
    have s3 := s2.trans (v2.trans w3)
    -- InvalidLine, InvalidLot
    refine ⟨.ref l3, rfl, .str z, rfl, fun a6 na6 => ?_⟩
    have sa3 := same_upd (o := ExO (.ref (c 6)) a6) na6
    have ea3 : ErrAt (upd H3 a6 (ExO (.ref (c 6)) a6)) a6 (c 6) := .inl upd_same
    generalize upd H3 a6 (ExO (.ref (c 6)) a6) = A3 at sa3 ea3 ⊢
    refine ⟨.str z, rfl, fun a7 nb3 => ?_⟩
    have sb3 := same_upd (o := ExO (.ref (c 7)) a7) nb3
    have eb3 : ErrAt (upd A3 a7 (ExO (.ref (c 7)) a7)) a7 (c 7) := .inl upd_same
    generalize upd A3 a7 (ExO (.ref (c 7)) a7) = B3 at sb3 eb3 ⊢
    refine ⟨sz1 (by simp), fun b3 m3 => ?_⟩
    have u3 := same_upd (o := .lst [.ref a6, .ref a7]) m3
    have f3 : (upd B3 b3 (.lst [.ref a6, .ref a7])) b3 = some (.lst [.ref a6, .ref a7]) := upd_same
    generalize upd B3 b3 (HO.lst [V.ref a6, V.ref a7]) = G3 at u3 f3 ⊢
    have v3 := sa3.trans (sb3.trans u3)
    refine ⟨l3, b3, _, _, rfl, rfl, v3 _ _ M3.lst, f3, sz2 (by simp) (by simp), fun l4 x4 => ?_⟩
    have w4 := same_upd (o := .lst (([a0, a1, a2, a3, a4, a5].map V.ref) ++ [.ref a6, .ref a7])) x4
    have M4 : MadeAt c (upd G3 l4 (.lst (([a0, a1, a2, a3, a4, a5].map V.ref) ++ [.ref a6, .ref a7]))) l4 [a0, a1, a2, a3, a4, a5, a6, a7] := M3.add (bs := [a6, a7]) (v3.trans w4) (fun j b h => match j, h with | 0, h => (by cases h; exact (ea3.keep (sb3.trans u3)).keep w4) | 1, h => (by cases h; exact (eb3.keep u3).keep w4)) upd_same
    generalize upd G3 l4 (HO.lst (([a0, a1, a2, a3, a4, a5].map V.ref) ++ [V.ref a6, V.ref a7])) = H4 at w4 M4 ⊢
    have s4 := s3.trans (v3.trans w4)
    -- InvalidName, InvalidNumber
    refine ⟨.ref l4, rfl, .str z, rfl, fun a8 na8 => ?_⟩
    have sa4 := same_upd (o := ExO (.ref (c 8)) a8) na8
    have ea4 : ErrAt (upd H4 a8 (ExO (.ref (c 8)) a8)) a8 (c 8) := .inl upd_same
    generalize upd H4 a8 (ExO (.ref (c 8)) a8) = A4 at sa4 ea4 ⊢
    refine ⟨.str z, rfl, fun a9 nb4 => ?_⟩
    have sb4 := same_upd (o := ExO (.ref (c 9)) a9) nb4
    have eb4 : ErrAt (upd A4 a9 (ExO (.ref (c 9)) a9)) a9 (c 9) := .inl upd_same
    generalize upd A4 a9 (ExO (.ref (c 9)) a9) = B4 at sb4 eb4 ⊢
    refine ⟨sz1 (by simp), fun b4 m4 => ?_⟩
    have u4 := same_upd (o := .lst [.ref a8, .ref a9]) m4
    have f4 : (upd B4 b4 (.lst [.ref a8, .ref a9])) b4 = some (.lst [.ref a8, .ref a9]) := upd_same
    generalize upd B4 b4 (HO.lst [V.ref a8, V.ref a9]) = G4 at u4 f4 ⊢
    have v4 := sa4.trans (sb4.trans u4)
    refine ⟨l4, b4, _, _, rfl, rfl, v4 _ _ M4.lst, f4, sz2 (by simp) (by simp), fun l5 x5 => ?_⟩
    have w5 := same_upd (o := .lst (([a0, a1, a2, a3, a4, a5, a6, a7].map V.ref) ++ [.ref a8, .ref a9])) x5
    have M5 : MadeAt c (upd G4 l5 (.lst (([a0, a1, a2, a3, a4, a5, a6, a7].map V.ref) ++ [.ref a8, .ref a9]))) l5 [a0, a1, a2, a3, a4, a5, a6, a7, a8, a9] := M4.add (bs := [a8, a9]) (v4.trans w5) (fun j b h => match j, h with | 0, h => (by cases h; exact (ea4.keep (sb4.trans u4)).keep w5) | 1, h => (by cases h; exact (eb4.keep u4).keep w5)) upd_same
    generalize upd G4 l5 (HO.lst (([a0, a1, a2, a3, a4, a5, a6, a7].map V.ref) ++ [V.ref a8, V.ref a9])) = H5 at w5 M5 ⊢
    have s5 := s4.trans (v4.trans w5)
    -- InvalidScript, InvalidSweep
    refine ⟨.ref l5, rfl, .str z, rfl, fun a10 na10 => ?_⟩
    have sa5 := same_upd (o := ExO (.ref (c 10)) a10) na10
    have ea5 : ErrAt (upd H5 a10 (ExO (.ref (c 10)) a10)) a10 (c 10) := .inl upd_same
    generalize upd H5 a10 (ExO (.ref (c 10)) a10) = A5 at sa5 ea5 ⊢
    refine ⟨.str z, rfl, fun a11 nb5 => ?_⟩
    have sb5 := same_upd (o := ExO (.ref (c 11)) a11) nb5
    have eb5 : ErrAt (upd A5 a11 (ExO (.ref (c 11)) a11)) a11 (c 11) := .inl upd_same
    generalize upd A5 a11 (ExO (.ref (c 11)) a11) = B5 at sb5 eb5 ⊢
    refine ⟨sz1 (by simp), fun b5 m5 => ?_⟩
    have u5 := same_upd (o := .lst [.ref a10, .ref a11]) m5
    have f5 : (upd B5 b5 (.lst [.ref a10, .ref a11])) b5 = some (.lst [.ref a10, .ref a11]) := upd_same
    generalize upd B5 b5 (HO.lst [V.ref a10, V.ref a11]) = G5 at u5 f5 ⊢
    have v5 := sa5.trans (sb5.trans u5)
    refine ⟨l5, b5, _, _, rfl, rfl, v5 _ _ M5.lst, f5, sz2 (by simp) (by simp), fun l6 x6 => ?_⟩
    have w6 := same_upd (o := .lst (([a0, a1, a2, a3, a4, a5, a6, a7, a8, a9].map V.ref) ++ [.ref a10, .ref a11])) x6
    have M6 : MadeAt c (upd G5 l6 (.lst (([a0, a1, a2, a3, a4, a5, a6, a7, a8, a9].map V.ref) ++ [.ref a10, .ref a11]))) l6 [a0, a1, a2, a3, a4, a5, a6, a7, a8, a9, a10, a11] := M5.add (bs := [a10, a11]) (v5.trans w6) (fun j b h => match j, h with | 0, h => (by cases h; exact (ea5.keep (sb5.trans u5)).keep w6) | 1, h => (by cases h; exact (eb5.keep u5).keep w6)) upd_same
    generalize upd G5 l6 (HO.lst (([a0, a1, a2, a3, a4, a5, a6, a7, a8, a9].map V.ref) ++ [V.ref a10, V.ref a11])) = H6 at w6 M6 ⊢
    have s6 := s5.trans (v5.trans w6)
    -- InvalidTree, InvalidWay
    refine ⟨.ref l6, rfl, .str z, rfl, fun a12 na12 => ?_⟩
    have sa6 := same_upd (o := ExO (.ref (c 12)) a12) na12
    have ea6 : ErrAt (upd H6 a12 (ExO (.ref (c 12)) a12)) a12 (c 12) := .inl upd_same
    generalize upd H6 a12 (ExO (.ref (c 12)) a12) = A6 at sa6 ea6 ⊢
    refine ⟨.str z, rfl, fun a13 nb6 => ?_⟩
    have sb6 := same_upd (o := ExO (.ref (c 13)) a13) nb6
    have eb6 : ErrAt (upd A6 a13 (ExO (.ref (c 13)) a13)) a13 (c 13) := .inl upd_same
    generalize upd A6 a13 (ExO (.ref (c 13)) a13) = B6 at sb6 eb6 ⊢
    refine ⟨sz1 (by simp), fun b6 m6 => ?_⟩
    have u6 := same_upd (o := .lst [.ref a12, .ref a13]) m6
    have f6 : (upd B6 b6 (.lst [.ref a12, .ref a13])) b6 = some (.lst [.ref a12, .ref a13]) := upd_same
    generalize upd B6 b6 (HO.lst [V.ref a12, V.ref a13]) = G6 at u6 f6 ⊢
    have v6 := sa6.trans (sb6.trans u6)
    refine ⟨l6, b6, _, _, rfl, rfl, v6 _ _ M6.lst, f6, sz2 (by simp) (by simp), fun l7 x7 => ?_⟩
    have w7 := same_upd (o := .lst (([a0, a1, a2, a3, a4, a5, a6, a7, a8, a9, a10, a11].map V.ref) ++ [.ref a12, .ref a13])) x7
    have M7 : MadeAt c (upd G6 l7 (.lst (([a0, a1, a2, a3, a4, a5, a6, a7, a8, a9, a10, a11].map V.ref) ++ [.ref a12, .ref a13]))) l7 [a0, a1, a2, a3, a4, a5, a6, a7, a8, a9, a10, a11, a12, a13] := M6.add (bs := [a12, a13]) (v6.trans w7) (fun j b h => match j, h with | 0, h => (by cases h; exact (ea6.keep (sb6.trans u6)).keep w7) | 1, h => (by cases h; exact (eb6.keep u6).keep w7)) upd_same
    generalize upd G6 l7 (HO.lst (([a0, a1, a2, a3, a4, a5, a6, a7, a8, a9, a10, a11].map V.ref) ++ [V.ref a12, V.ref a13])) = H7 at w7 M7 ⊢
    have s7 := s6.trans (v6.trans w7)
    -- NothingToUndo, ParseError
    refine ⟨.ref l7, rfl, .str z, rfl, fun a14 na14 => ?_⟩
    have sa7 := same_upd (o := ExO (.ref (c 14)) a14) na14
    have ea7 : ErrAt (upd H7 a14 (ExO (.ref (c 14)) a14)) a14 (c 14) := .inl upd_same
    generalize upd H7 a14 (ExO (.ref (c 14)) a14) = A7 at sa7 ea7 ⊢
    refine ⟨.int i, rfl, (by show 1 ≤ 1000; decide), fun a15 na15 => ⟨a15, i, rfl, upd_same, hi, fun dI nd da => ⟨rfl, ?_⟩⟩⟩
    obtain ⟨sb7, xP, yP⟩ := newPs (i := i) (C := c 15) na15 nd da
    generalize upd (upd (upd A7 a15 (exo a15 (c 15) none)) dI (exd dI [("index", V.int i)])) a15 (exo a15 (c 15) (some dI)) = B7 at sb7 xP yP ⊢
    have eb7 : ErrAt B7 a15 (c 15) := .inr ⟨dI, _, xP, yP⟩
    refine ⟨sz1 (by simp), fun b7 m7 => ?_⟩
    have u7 := same_upd (o := .lst [.ref a14, .ref a15]) m7
    have f7 : (upd B7 b7 (.lst [.ref a14, .ref a15])) b7 = some (.lst [.ref a14, .ref a15]) := upd_same
    generalize upd B7 b7 (HO.lst [V.ref a14, V.ref a15]) = G7 at u7 f7 ⊢
    have v7 := sa7.trans (sb7.trans u7)
    refine ⟨l7, b7, _, _, rfl, rfl, v7 _ _ M7.lst, f7, sz2 (by simp) (by simp), fun l8 x8 => ?_⟩
    have w8 := same_upd (o := .lst (([a0, a1, a2, a3, a4, a5, a6, a7, a8, a9, a10, a11, a12, a13].map V.ref) ++ [.ref a14, .ref a15])) x8
    have M8 : MadeAt c (upd G7 l8 (.lst (([a0, a1, a2, a3, a4, a5, a6, a7, a8, a9, a10, a11, a12, a13].map V.ref) ++ [.ref a14, .ref a15]))) l8 [a0, a1, a2, a3, a4, a5, a6, a7, a8, a9, a10, a11, a12, a13, a14, a15] := M7.add (bs := [a14, a15]) (v7.trans w8) (fun j b h => match j, h with | 0, h => (by cases h; exact (ea7.keep (sb7.trans u7)).keep w8) | 1, h => (by cases h; exact (eb7.keep u7).keep w8)) upd_same
    have xQ := w8 _ _ (u7 _ _ xP)
    have yQ := w8 _ _ (u7 _ _ yP)
    generalize upd G7 l8 (HO.lst (([a0, a1, a2, a3, a4, a5, a6, a7, a8, a9, a10, a11, a12, a13].map V.ref) ++ [V.ref a14, V.ref a15])) = H8 at w8 M8 xQ yQ ⊢
    have s8 := s7.trans (v7.trans w8)
    -- UnknownCave, UnknownName
    refine ⟨.ref l8, rfl, .str z, rfl, fun a16 na16 => ?_⟩
    have sa8 := same_upd (o := ExO (.ref (c 16)) a16) na16
    have ea8 : ErrAt (upd H8 a16 (ExO (.ref (c 16)) a16)) a16 (c 16) := .inl upd_same
    generalize upd H8 a16 (ExO (.ref (c 16)) a16) = A8 at sa8 ea8 ⊢
    refine ⟨.str z, rfl, fun a17 nb8 => ?_⟩
    have sb8 := same_upd (o := ExO (.ref (c 17)) a17) nb8
    have eb8 : ErrAt (upd A8 a17 (ExO (.ref (c 17)) a17)) a17 (c 17) := .inl upd_same
    generalize upd A8 a17 (ExO (.ref (c 17)) a17) = B8 at sb8 eb8 ⊢
    refine ⟨sz1 (by simp), fun b8 m8 => ?_⟩
    have u8 := same_upd (o := .lst [.ref a16, .ref a17]) m8
    have f8 : (upd B8 b8 (.lst [.ref a16, .ref a17])) b8 = some (.lst [.ref a16, .ref a17]) := upd_same
    generalize upd B8 b8 (HO.lst [V.ref a16, V.ref a17]) = G8 at u8 f8 ⊢
    have v8 := sa8.trans (sb8.trans u8)
    refine ⟨l8, b8, _, _, rfl, rfl, v8 _ _ M8.lst, f8, sz2 (by simp) (by simp), fun l9 x9 => ?_⟩
    have w9 := same_upd (o := .lst (([a0, a1, a2, a3, a4, a5, a6, a7, a8, a9, a10, a11, a12, a13, a14, a15].map V.ref) ++ [.ref a16, .ref a17])) x9
    have M9 : MadeAt c (upd G8 l9 (.lst (([a0, a1, a2, a3, a4, a5, a6, a7, a8, a9, a10, a11, a12, a13, a14, a15].map V.ref) ++ [.ref a16, .ref a17]))) l9 [a0, a1, a2, a3, a4, a5, a6, a7, a8, a9, a10, a11, a12, a13, a14, a15, a16, a17] := M8.add (bs := [a16, a17]) (v8.trans w9) (fun j b h => match j, h with | 0, h => (by cases h; exact (ea8.keep (sb8.trans u8)).keep w9) | 1, h => (by cases h; exact (eb8.keep u8).keep w9)) upd_same
    generalize upd G8 l9 (HO.lst (([a0, a1, a2, a3, a4, a5, a6, a7, a8, a9, a10, a11, a12, a13, a14, a15].map V.ref) ++ [V.ref a16, V.ref a17])) = H9 at w9 M9 ⊢
    replace xQ := (v8.trans w9) _ _ xQ
    replace yQ := (v8.trans w9) _ _ yQ
    have s9 := s8.trans (v8.trans w9)
    exact ⟨.ref l9, rfl, q H9 l9 _ a15 dI s9 M9 rfl rfl xQ yQ⟩
end
end Cv

namespace Cv
open PySem PySem.Spec PyProof.Rows L2 CvE CvG
def spLaw (K : PySem.W.Frag) : Sp := fun vs H Q _ => ∃ (a : Addr) (ns : List Int), vs = [.ref a] ∧ SqL K H a (ns.map V.int) ∧ ∀ H', Q (.bl true) H'
/-- a small number's size -/
theorem size_of (d : Nat) (h : d < 6) : ∃ n : Int, ([V.int 0, V.int 1, V.int 7, V.int (10 ^ (39 : Int).toNat), V.int (-1), V.int (-(10 ^ (39 : Int).toNat))] : List V)[d]? = some (.int n) ∧ n.natAbs.log2 < 1000 := by
  match d, h with
  | 0, _ => exact ⟨_, rfl, by decide +kernel⟩
  | 1, _ => exact ⟨_, rfl, by decide +kernel⟩
  | 2, _ => exact ⟨_, rfl, by decide +kernel⟩
  | 3, _ => exact ⟨_, rfl, by decide +kernel⟩
  | 4, _ => exact ⟨_, rfl, by decide +kernel⟩
  | 5, _ => exact ⟨_, rfl, by decide +kernel⟩
theorem word_of {x y z u : Str} (d : Nat) (h : d < 4) : ∃ n : Str, ([V.str x, V.str y, V.str z, V.str u] : List V)[d]? = some (.str n) := by
  match d, h with
  | 0, _ => exact ⟨_, rfl⟩
  | 1, _ => exact ⟨_, rfl⟩
  | 2, _ => exact ⟨_, rfl⟩
  | 3, _ => exact ⟨_, rfl⟩
section
variable {P : Program} {w : World} {K : PySem.W.Frag} {mg : Str → Option Value} {base : Heap} {c : Nat → Addr} {cB : Addr}
theorem ok_law {f fP fN fD fC fM fI : Addr} {fd fdP fdN fdD fdC fdM fdI : FuncData} (F : Fun K "law" "law" sLaw f fd) (bL : ∀ (m : Shared) (u : Value), BindsTo m fd ⟨[u], []⟩ [("script", u)]) (T : TxtE K mg c cB) (TP : TxtP mg) (Z : TxtF K mg c fI fdI)
    (FP : Fun K "_law_pen" "_law_pen" sPen fP fdP) (bP : Binds K fdP ["script"] []) (gP : mg "_law_pen" = some (.ref fP))
    (FN : Fun K "_law_next" "_law_next" sNext fN fdN) (bN : Binds K fdN ["pen"] []) (gN : mg "_law_next" = some (.ref fN))
    (FD : Fun K "_law_draw" "_law_draw" sDraw fD fdD) (bD : Binds K fdD ["pen", "under"] []) (gD : mg "_law_draw" = some (.ref fD))
    (FC : Fun K "_law_classes" "_law_classes" sCls fC fdC) (bC : Binds K fdC ["caught"] []) (gC : mg "_law_classes" = some (.ref fC))
    (FM : Fun K "_law_made_errors" "_law_made_errors" sMade fM fdM) (bM : Binds K fdM ["word", "number_here"] []) (gM : mg "_law_made_errors" = some (.ref fM))
    (GI : FnOk P w K mg base CX0 2 fI fdI ["self", "index"] (spI (c 15))) : LawRun P w K mg base f (spLaw K) := by
  have GP : FnOk P w K mg base CX0 4 fP fdP ["script"] (spPen K) := ok_pen FP TP
  have GD : FnOk P w K mg base CX0 4 fD fdD ["pen", "under"] spDraw := ok_draw FD TP FN bN gN
  have GC : FnOk P w K mg base CX0 4 fC fdC ["caught"] (spCls K c) := ok_cls FC T
  have GM : FnOk P w K mg base CX0 4 fM fdM ["word", "number_here"] (spMade c) := ok_made (k := 0) FM T Z GI
  refine law_of F scLaw (k := 4) ⟨rfl, by decide, by decide⟩ bL (fun cdv m H vs Q E hr h => ?_)
  obtain ⟨a, ns, rfl, hS, q⟩ := h
  have hr3 : Room 3 _ := hr.mono (by decide)
  refine ⟨_, pss_cons (ps_set (i := 1) scLaw.nd rfl (.inl rfl) (pe_call GP hr (by rfl) gP FP.kp bP .nil pass0 (pa_cons (pv 0) pa_nil)))
    (pss_cons (ps_for PassesOwn.never rfl (pi_range1 (by rfl) Z.rng (pa_cons pe_int pa_nil)) (pg_name (i := 2) scLaw.nd rfl (.inl rfl))
      (pss_cons (ps_set (i := 3) scLaw.nd rfl (.inl rfl) (pe_ix ix_list (pe_lst (pa_cons pe_str (pa_cons pe_str (pa_cons pe_str (pa_cons (pe_op op_smul pe_str pe_int) pa_nil))))) (pe_call GD hr (by rfl) gD FD.kp bD .nil pass0 (pa_cons (pv 1) (pa_cons pe_int pa_nil))) (fun _ _ => rfl)))
      (pss_cons (ps_set (i := 4) scLaw.nd rfl (.inl rfl) (pe_ix ix_list (pe_lst (pa_cons pe_int (pa_cons pe_int (pa_cons pe_int (pa_cons (pe_op op_pow pe_int pe_int) (pa_cons (pe_un un_neg pe_int) (pa_cons (pe_un un_neg (pe_op op_pow pe_int pe_int)) pa_nil))))))) (pe_call GD hr (by rfl) gD FD.kp bD .nil pass0 (pa_cons (pv 1) (pa_cons pe_int pa_nil))) (fun _ _ => rfl)))
      (pss_cons (ps_set (i := 5) scLaw.nd rfl (.inl rfl) (pe_call GM hr (by rfl) gM FM.kp bM .nil pass0 (pa_cons (pv 3) (pa_cons (pv 4) pa_nil))))
      (pss_cons (ps_for PassesOwn.never rfl (pi_range1 (by rfl) Z.rng (pa_cons (pe_callB call_len_seq (by rfl) TP.len PySem.boot_len (pa_cons (pv 5) pa_nil)) pa_nil)) (pg_name (i := 6) scLaw.nd rfl (.inr rfl))
        (pss_cons (ps_if (pt_cmpR (op_neD hr.units) (pe_call GC hr (by rfl) gC FC.kp bC .nil pass0 (pa_cons (pe_ix ix_list (pv 5) (pv 6) (fun _ _ => rfl)) pa_nil))
            (pe_lc (own := [("j", 7)]) (g := gName 7) (tt := tYes) rfl scLaw.nd (pi_range1 (by rfl) Z.rng (pa_cons (pe_callB call_len_seq (by rfl) TP.len PySem.boot_len (pa_cons (pv 5) pa_nil)) pa_nil))
              (blkOk_by (N := ["script", "pen", "lap", "word", "number_here", "found", "k", "j"]) (sc := defScope sLaw) (by decide +kernel)) (fun _ _ _ _ _ => pg_name (i := 7) scLaw.nd rfl (Or.inl rfl)) (fun _ _ _ _ _ => pts_nil) (fun _ _ _ _ _ => pe_cmpR op_eq (pv 7) (pv 6) (nomark _))) (nomark _))
          (pss_one (ps_ret pe_bl)) pss_nil)
        (pss_one (ps_if (PW.pt (pw_or (pt_not (pt_val (pe_callB call_isO (by rfl) T.isi bi (pa_cons (pe_ix ix_list (pv 5) (pv 6) (fun _ _ => rfl)) (pa_cons (pe_glob (v := .ref cB) (by rfl) T.nB rfl) pa_nil)))))
            (pw_or1 (pt_not (pt_val (pe_callB call_isO (by rfl) T.isi bi (pa_cons (pe_ix ix_list (pv 5) (pv 6) (fun _ _ => rfl)) (pa_cons (pe_bltn (v := .ty "ValueError") (by rfl) Z.ve PyProof.Rows.Boot.«ValueError» rfl) pa_nil))))))))
          (pss_one (ps_ret pe_bl)) pss_nil))))
      (pss_cons (ps_if (pt_cmpR op_ne
          (pe_callB (call_repr rfl hr.units) (by rfl) Z.rep boot_repr (pa_cons (pe_lst (pa_cons (pe_erf (pe_ix ix_list (pv 5) pe_int (fun _ _ => rfl))) (pa_cons (pe_erf (pe_errK Z.ox Z.iC Z.tI GI hr3 Z.bK (by rfl) T.n15 (pk_cons (pv 4) pk_nil))) pa_nil))) pa_nil))
          (pe_callB (call_repr rfl hr.units) (by rfl) Z.rep boot_repr (pa_cons (pe_lst (pa_cons (pv 4) (pa_cons (pv 4) pa_nil))) pa_nil)) (nomark _))
        (pss_one (ps_ret pe_bl)) pss_nil)
      (pss_one (ps_if (PW.pt (pw_or (pt_not (pt_val (pe_callB call_isO (by rfl) T.isi bi (pa_cons (pe_exc1 PySem.F.excBase_ValueError T.madeB T.nB T.kpB (by rfl) (pv 3)) (pa_cons (pe_bltn (v := .ty "ValueError") (by rfl) Z.ve PyProof.Rows.Boot.«ValueError» rfl) pa_nil)))))
          (pw_or1 (pt_val (pe_callB (cr_any rfl) (by rfl) Z.any_ boot_any (pa_cons (pe_call GC hr (by rfl) gC FC.kp bC .nil pass0 (pa_cons (pe_exc1 PySem.F.excBase_ValueError T.madeB T.nB T.kpB (by rfl) (pv 3)) pa_nil)) pa_nil))))))
        (pss_one (ps_ret pe_bl)) pss_nil))))))))
    (pss_one (ps_ret pe_bl))), ?_⟩
  -- pen = _law_pen(script); for lap in range(3)
  refine ⟨.ref a, rfl, a, ns, rfl, hS, fun H1 p l s1 np nl PA => ?_⟩
  refine ⟨3, rfl, by decide, by decide, for_range (lo := 0) (n := 3) (fun i σ H' => ∃ v2 v3 v4 v5 v6 v7, σ = [some (.ref a), some (.ref p), v2, v3, v4, v5, v6, v7] ∧ PenAt H' p l (2 * i)) ⟨_, _, _, _, _, _, rfl, PA⟩ ?_ ?_⟩
  · rintro i σ H2 hi ⟨v2, v3, v4, v5, v6, v7, rfl, PA2⟩
    -- word
    refine ⟨"x", 300, rfl, rfl, by decide +kernel, by decide, by decide, sz1 (by simp), fun lw nw => ?_⟩
    have sw := same_upd (o := .lst [.str "", .str "a", .str "it can not be", .str (Txt.mul "x" 300)]) nw
    have ew : (upd H2 lw (.lst [.str "", .str "a", .str "it can not be", .str (Txt.mul "x" 300)])) lw = some (.lst [.str "", .str "a", .str "it can not be", .str (Txt.mul "x" 300)]) := upd_same
    have nwp : lw ≠ p := (ne_of_none PA2.ex.choose_spec.choose_spec.1 nw).symm
    generalize upd H2 lw (HO.lst [V.str "", V.str "a", V.str "it can not be", V.str (Txt.mul "x" 300)]) = H3 at sw ew ⊢
    refine ⟨.ref p, rfl, p, l, 2 * i, 4, rfl, PA2.keep sw, by omega, by decide, by decide, fun H4 d d0 d1 PA4 bt4 => ?_⟩
    obtain ⟨wd, hw⟩ := word_of (x := "") (y := "a") (z := "it can not be") (u := Txt.mul "x" 300) d.toNat (by omega)
    refine ⟨lw, _, d, .str wd, rfl, rfl, SqL.of (bt4 _ _ ew nwp), at_of (j := d.toNat) (by omega) hw, ?_⟩
    -- number_here
    refine ⟨10, 39, rfl, rfl, ⟨by decide, by decide, by decide⟩, 1, rfl, 10, 39, rfl, rfl, ⟨by decide, by decide, by decide⟩, _, rfl, sz1 (by simp), fun lz nz => ?_⟩
    have sz := same_upd (o := .lst [.int 0, .int 1, .int 7, .int (10 ^ (39 : Int).toNat), .int (-1), .int (-(10 ^ (39 : Int).toNat))]) nz
    have ez : (upd H4 lz (.lst [.int 0, .int 1, .int 7, .int (10 ^ (39 : Int).toNat), .int (-1), .int (-(10 ^ (39 : Int).toNat))])) lz = some (.lst [.int 0, .int 1, .int 7, .int (10 ^ (39 : Int).toNat), .int (-1), .int (-(10 ^ (39 : Int).toNat))]) := upd_same
    have nzp : lz ≠ p := (ne_of_none PA4.ex.choose_spec.choose_spec.1 nz).symm
    refine ⟨.ref p, rfl, p, l, 2 * i + 1, 6, rfl, PA4.keep sz, by omega, by decide, by decide, fun H6 e e0 e1 PA6 bt6 => ?_⟩
    obtain ⟨nu, hn, hlog⟩ := size_of e.toNat (by omega)
    refine ⟨lz, _, e, .int nu, rfl, rfl, SqL.of (bt6 _ _ ez nzp), at_of (j := e.toNat) (by omega) hn, ?_⟩
    -- found
    refine ⟨.str wd, rfl, .int nu, rfl, wd, nu, rfl, hlog, fun H7 lf as aP dP s7 M len iP xP yP => ?_⟩
    have PA7 := PA6.keep s7
    have len' : (as.map V.ref).length = 18 := by rw [List.length_map, len]
    have b0 : (-(2 ^ 62) : Int) ≤ (((as.map V.ref).length : Nat) : Int) := by rw [len']; decide
    have b1 : (((as.map V.ref).length : Nat) : Int) < 2 ^ 62 := by rw [len']; decide
    have tn : (((as.map V.ref).length : Nat) : Int).toNat = 18 := by rw [len']; rfl
    refine ⟨.ref lf, rfl, lf, _, rfl, .inl (SqL.of M.lst), _, rfl, b0, b1, for_range (lo := 0) (n := (((as.map V.ref).length : Nat) : Int).toNat) (fun k σ H' => ∃ v6 v7, σ = [some (.ref a), some (.ref p), some (.int (0 + (i : Int))), some (.str wd), some (.int nu), some (.ref lf), v6, v7] ∧ Same H7 H') ⟨_, _, rfl, Same.refl H7⟩ ?_ ?_⟩
    · rintro k σ H8 hk ⟨v6, v7, rfl, s8⟩
      rw [tn] at hk
      have M8 := M.keep s8
      obtain ⟨ak, hak⟩ : ∃ ak, as[k]? = some ak := ⟨as[k], List.getElem?_eq_getElem (by omega)⟩
      have ixk : atI (as.map V.ref) (0 + (k : Int)) = some (.ref ak) := at_of (j := k) (by omega) (by rw [List.getElem?_map, hak]; rfl)
      refine ⟨.ref lf, rfl, .int (0 + (k : Int)), rfl, lf, _, _, _, rfl, rfl, SqL.of M8.lst, ixk, ak, c k, (fun j => decide (j = k)), rfl, M8.err k ak hak, T.is_ k hk, (fun j hj => T.kit k j hk hj), fun H9 lc s9 n9 e9 => ?_⟩
      refine ⟨.ref lf, rfl, lf, _, rfl, .inl (SqL.of (s9 _ _ M8.lst)), _, rfl, b0, b1, fun Dd nD => lc_range (lo := 0) (n := (((as.map V.ref).length : Nat) : Int).toNat) (fun j H' => Same H9 H' ∧ H' Dd = some (.lst ((List.range j).map fun t => V.bl (decide (t = k))))) ⟨same_upd nD, upd_same⟩ ?_ ?_⟩
      · rintro j H10 hj ⟨s10, e10⟩
        rw [tn] at hj
        refine ⟨rfl, .int (0 + (j : Int)), rfl, .int (0 + (k : Int)), rfl, rfl, _, e10, ?_, ?_, ?_⟩
        · rw [List.length_map, List.length_range]
          exact Nat.lt_of_lt_of_le hj (sz1 (n := 18))
        · exact fun b o z => by
            rw [upd_ne (ne_of_none z nD)]
            exact s10 _ _ z
        · rw [upd_same, List.range_succ, List.map_append]
          have ed : decide (V.int (0 + (j : Int)) = V.int (0 + (k : Int))) = decide (j = k) := by
            by_cases h : j = k
            · rw [h, decide_eq_true rfl, decide_eq_true rfl]
            · rw [decide_eq_false h, decide_eq_false (fun z => h (by have := V.int.inj z; omega))]
          rw [ed]
          rfl
      · rintro H11 ⟨s11, e11⟩
        rw [tn] at e11
        have eb : ((List.range 18).map fun j => V.bl (decide (j = k))) = ((List.range 18).map fun j => decide (j = k)).map V.bl := by
          rw [List.map_map]
          rfl
        rw [eb] at e9 e11
        refine ⟨.list (((List.range 18).map fun j => decide (j = k)).map PyData.bool), _, .lst (SqL.of (s11 _ _ e9)) (dp_bools _), .lst (SqL.of e11) (dp_bools _), shaped_bools _, shaped_bools _, _, rfl, ?_⟩
        rw [SeqAt.eqv_refl _ (SeqAt.canLay_of_shaped (shaped_bools _))]
        refine iteF ?_
        have M11 := (M8.keep s9).keep s11
        have E11 := M11.err k ak hak
        refine ⟨.ref lf, rfl, .int (0 + (k : Int)), rfl, lf, _, _, _, rfl, rfl, SqL.of M11.lst, ixk, ak, c k, .ref cB, .ref cB, true, rfl, E11, T.is_ k hk, (fun u r => r), T.kitB k hk, true, rfl, iteF ?_⟩
        refine ⟨.ref lf, rfl, .int (0 + (k : Int)), rfl, lf, _, _, _, rfl, rfl, SqL.of M11.lst, ixk, ak, c k, .ty "ValueError", .type "ValueError", true, rfl, E11, T.is_ k hk, (fun u r => r), T.kitV k hk, true, rfl, iteF ?_⟩
        exact ⟨_, _, rfl, s8.trans (s9.trans s11)⟩
    · rintro σ H12 ⟨v6, v7, rfl, s12⟩
      -- repr of the fields
      have lt1 : (PySem.Str.ofString (toString nu)).length ≤ 1921 := int_text_len_1921 (by omega)
      have shown : PyData.shown (.list [.int nu, .int nu]) = ((("[" : Str) ++ ("" : String) ++ (toString nu : String)) ++ (", " : String) ++ (toString nu : String)) ++ "]" := by
        simp only [PyData.shown, PyData.shownAll]
        rfl
      have small : (PyData.shown (.list [.int nu, .int nu])).length ≤ sizeLine := by
        have big : 10000 ≤ sizeLine := by decide
        rw [shown, Str.length_append, Str.length_append, Str.length_append, Str.length_append, Str.length_append]
        show 1 + 0 + (PySem.Str.ofString (toString nu)).length + 2 + (PySem.Str.ofString (toString nu)).length + 1 ≤ sizeLine
        omega
      have sh : PyData.showable (.list [.int nu, .int nu]) = true := by
        simp only [PyData.showable, PyData.showableAll, Bool.and_true, Bool.and_self]
        exact decide_eq_true (by omega)
      have hd : PyData.hasDict (.list [.int nu, .int nu]) = false := by simp [PyData.hasDict, PyData.hasDictAll]
      have dp : PyData.depth (.list [.int nu, .int nu]) ≤ 30 := by simp [PyData.depth, PyData.depthAll]
      refine ⟨.ref lf, rfl, lf, _, 15, .ref aP, rfl, rfl, SqL.of (s12 _ _ M.lst), atI_nat (j := 15) (by rw [List.getElem?_map, iP]; rfl), aP, c 15, dP, _, .int nu, rfl, s12 _ _ xP, s12 _ _ yP, Z.xf, Z.noix, rfl, ?_⟩
      refine ⟨.int nu, rfl, .int nu, rfl, fun a2 na2 => ⟨a2, nu, rfl, upd_same, hlog, fun d2 nd2 da2 => ⟨rfl, ?_⟩⟩⟩
      obtain ⟨s13, x13, y13⟩ := newPs (i := nu) (C := c 15) na2 nd2 da2
      generalize upd (upd (upd H12 a2 (exo a2 (c 15) none)) d2 (exd d2 [("index", V.int nu)])) a2 (exo a2 (c 15) (some d2)) = H13 at s13 x13 y13 ⊢
      refine ⟨a2, c 15, d2, _, .int nu, rfl, x13, y13, Z.xf, Z.noix, rfl, sz1 (by simp), fun lr nr => ?_⟩
      have s14 := same_upd (o := .lst [.int nu, .int nu]) nr
      refine ⟨.ref lr, .list [.int nu, .int nu], rfl, .lst (SqL.of upd_same) (.cons (.int _) (.cons (.int _) .nil)), sh, hd, dp, small, ?_⟩
      refine ⟨.int nu, rfl, .int nu, rfl, sz1 (by simp), fun lr2 nr2 => ?_⟩
      have s15 := same_upd (o := .lst [.int nu, .int nu]) nr2
      refine ⟨.ref lr2, .list [.int nu, .int nu], rfl, .lst (SqL.of upd_same) (.cons (.int _) (.cons (.int _) .nil)), sh, hd, dp, small, rfl, _, rfl, iteNS rfl ?_⟩
      have s16 := (s12.trans s13).trans (s14.trans s15)
      generalize upd (upd H13 lr (HO.lst [V.int nu, V.int nu])) lr2 (HO.lst [V.int nu, V.int nu]) = H16 at s16 ⊢
      -- the base of all
      refine ⟨.str wd, rfl, fun a3 na3 => ?_⟩
      have s17 := same_upd (o := ExO (.ref cB) a3) na3
      refine ⟨a3, cB, .ty "ValueError", .type "ValueError", true, rfl, .inl upd_same, T.isB, (fun u r => r), T.bV, true, rfl, iteF ?_⟩
      refine ⟨.str wd, rfl, fun a4 na4 => ?_⟩
      have s18 := same_upd (o := ExO (.ref cB) a4) na4
      refine ⟨a4, cB, (fun _ => false), rfl, .inl upd_same, T.isB, (fun j hj => T.bk j hj), fun H19 lc s19 n19 e19 => ?_⟩
      refine ⟨lc, (List.range 18).map fun _ => false, rfl, SqL.of (by rw [List.map_map]; exact e19), false, rfl, iteF ?_⟩
      exact ⟨_, _, _, _, _, _, rfl, (PA7.keep (s16.trans (s17.trans (s18.trans s19)))).more (by omega)⟩
  · rintro σ H2 ⟨v2, v3, v4, v5, v6, v7, rfl, PA2⟩
    exact q _
end
end Cv

namespace Cv
open PySem PySem.Spec PyProof.Rows L2 CvE CvG
/-- how the classes stand to one another -/
def matB (K : PySem.W.Frag) (c : Nat → Addr) (cB : Addr) (n : Nat) : Bool := (List.range n).all fun i => (match PySem.W.mroIn K (c i) (.ref cB) with | some r => r | none => false) && (match PySem.W.mroIn K cB (.ref (c i)) with | some r => !r | none => false) && !Nat.beq cB (c i) &&
  (List.range n).all fun j => (match PySem.W.mroIn K (c i) (.ref (c j)) with | some r => r == Nat.beq j i | none => false) && (Nat.beq (c i) (c j) == Nat.beq j i)
structure Mat (K : PySem.W.Frag) (c : Nat → Addr) (cB : Addr) (n : Nat) : Prop where
  up : ∀ i, i < n → PySem.W.mroIn K (c i) (.ref cB) = some true
  dn : ∀ i, i < n → PySem.W.mroIn K cB (.ref (c i)) = some false
  ne : ∀ i, i < n → cB ≠ c i
  eq : ∀ i j, i < n → j < n → PySem.W.mroIn K (c i) (.ref (c j)) = some (decide (j = i))
  nq : ∀ i j, i < n → j < n → c i = c j → j = i
theorem mat_of {K : PySem.W.Frag} {c : Nat → Addr} {cB : Addr} {n : Nat} (h : matB K c cB n = true) : Mat K c cB n := by
  have bd : ∀ i j : Nat, Nat.beq j i = decide (j = i) := fun i j => by
    by_cases e : j = i
    · subst e
      simp
    · rw [decide_eq_false e]
      exact Bool.eq_false_iff.mpr fun z => e (Nat.eq_of_beq_eq_true z)
  have row : ∀ i, i < n → PySem.W.mroIn K (c i) (.ref cB) = some true ∧ PySem.W.mroIn K cB (.ref (c i)) = some false ∧ cB ≠ c i ∧ ∀ j, j < n → PySem.W.mroIn K (c i) (.ref (c j)) = some (decide (j = i)) ∧ (c i = c j → j = i) := fun i hi => by
    have z := List.all_eq_true.mp h i (List.mem_range.mpr hi)
    rw [Bool.and_eq_true, Bool.and_eq_true, Bool.and_eq_true] at z
    obtain ⟨⟨⟨z1, z2⟩, z3⟩, z4⟩ := z
    refine ⟨?_, ?_, fun e => ?_, fun j hj => ?_⟩
    · split at z1
      · rename_i r e
        rw [e, z1]
      · cases z1
    · split at z2
      · rename_i r e
        rw [e]
        cases r
        · rfl
        · cases z2
      · cases z2
    · rw [← e] at z3
      simp at z3
    · have y := List.all_eq_true.mp z4 j (List.mem_range.mpr hj)
      rw [Bool.and_eq_true] at y
      obtain ⟨y1, y2⟩ := y
      refine ⟨?_, fun e => ?_⟩
      · split at y1
        · rename_i r e
          rw [e, ← bd, beq_iff_eq.mp y1]
        · cases y1
      · rw [beq_iff_eq, e, bd, bd] at y2
        simpa using y2
  exact ⟨fun i hi => (row i hi).1, fun i hi => (row i hi).2.1, fun i hi => (row i hi).2.2.1, fun i j hi hj => ((row i hi).2.2.2 j hj).1, fun i j hi hj => ((row i hi).2.2.2 j hj).2⟩
theorem kit_ref {K : PySem.W.Frag} {a b : Addr} {r : Bool} (ht : PySem.W.typeIn K (.ref b) = some (.type "type")) (hb : PySem.W.mroIn K b (.type "object") = some true) (hm : PySem.W.mroIn K a (.ref b) = some r) (he : a = b → r = true) : PySem.W.kitOne K (.ref a) (.ref b) = some r := by
  unfold PySem.W.kitOne
  by_cases e : a = b
  · rw [he e, e]
    simp
  · rw [if_neg (by simp [e])]
    have isC : (PySem.W.clsIn K b).isSome = true := by
      unfold PySem.W.mroIn at hb
      cases q : PySem.W.clsIn K b with
      | none => rw [q] at hb; cases hb
      | some _ => rfl
    show (if ((PySem.W.clsIn K b).isSome && PySem.W.typeIn K (.ref b) == some (.type "type")) = true then PySem.W.subIn K (.ref a) (.ref b) else none) = some r
    rw [isC, ht, if_pos (by simp)]
    exact hm
theorem kit_val {K : PySem.W.Frag} {a : Addr} (hm : PySem.W.mroIn K a (.type "ValueError") = some true) : PySem.W.kitOne K (.ref a) (.type "ValueError") = some true := by
  unfold PySem.W.kitOne
  rw [if_neg (by simp)]
  show (if PySem.W.kitMeta "ValueError" = true then PySem.W.subIn K (.ref a) (.type "ValueError") else none) = some true
  rw [if_pos (by decide +kernel)]
  exact hm
theorem all_mk {l : PySem.W.OpenLaw} {w : World} {K : PySem.W.Frag} {h : Heap} {mg : Str → Option Value} {fa : Addr} (X : K.In h) (G : h.Ns mainGlobals mg) (hfa : mg "law" = some (.ref fa))
    {odP : Option Addr} {anP : Option Addr} {slP : Array (Option Value)} {ocP kVP dcP pmP cdP ctP : Value} {fP : Addr} {odN : Option Addr} {anN : Option Addr} {slN : Array (Option Value)} {ocN kVN dcN pmN cdN ctN : Value} {fN : Addr} {odD : Option Addr} {anD : Option Addr} {slD : Array (Option Value)} {ocD kVD dcD pmD cdD ctD : Value} {fD : Addr} {odC : Option Addr} {anC : Option Addr} {slC : Array (Option Value)} {ocC kVC dcC pmC cdC ctC : Value} {fC : Addr} {odM : Option Addr} {anM : Option Addr} {slM : Array (Option Value)} {ocM kVM dcM pmM cdM ctM : Value} {fM : Addr} {odL : Option Addr} {anL : Option Addr} {slL : Array (Option Value)} {ocL kVL dcL pmL cdL ctL : Value} {fL : Addr} {c0 c1 c2 c3 c4 c5 c6 c7 c8 c9 c10 c11 c12 c13 c14 c15 c16 c17 cB : Addr} {nm q : Str} {N : Addr} {bs bm : List Value} {sn : List Str} {sub : List Value} {ab : Bool} {col : Option Bool} {dd : Option Addr} {k0 k1 k2 k3 k5 : Option Value} {fI cc cda : Addr} {ocI kVI dcI pmI ctI : Value} {odI anI : Option Addr} {slI : Array (Option Value)} {y1 y4 : Value} {y2 y5 : Option Addr} {y3 y6 : Array (Option Value)} {vsI : Array Value} {file : Str} {tf : Tok}
    (aP : PySem.W.nsIn K mainGlobals "_law_pen" = some (some (.ref fP)))
    (lP : K.lookup fP = some ⟨ocP, odP, .func (PySem.W.fnOf "_law_pen" "_law_pen" (defArgs sPen) (defBody sPen) (defScope sPen) .none kVP dcP pmP anP cdP ctP), slP⟩)
    (eP : PySem.W.codeIn K cdP "_law_pen" = true)
    (kP : PySem.W.keepIn K (.ref fP) = true)
    (aN : PySem.W.nsIn K mainGlobals "_law_next" = some (some (.ref fN)))
    (lN : K.lookup fN = some ⟨ocN, odN, .func (PySem.W.fnOf "_law_next" "_law_next" (defArgs sNext) (defBody sNext) (defScope sNext) .none kVN dcN pmN anN cdN ctN), slN⟩)
    (eN : PySem.W.codeIn K cdN "_law_next" = true)
    (kN : PySem.W.keepIn K (.ref fN) = true)
    (aD : PySem.W.nsIn K mainGlobals "_law_draw" = some (some (.ref fD)))
    (lD : K.lookup fD = some ⟨ocD, odD, .func (PySem.W.fnOf "_law_draw" "_law_draw" (defArgs sDraw) (defBody sDraw) (defScope sDraw) .none kVD dcD pmD anD cdD ctD), slD⟩)
    (eD : PySem.W.codeIn K cdD "_law_draw" = true)
    (kD : PySem.W.keepIn K (.ref fD) = true)
    (aC : PySem.W.nsIn K mainGlobals "_law_classes" = some (some (.ref fC)))
    (lC : K.lookup fC = some ⟨ocC, odC, .func (PySem.W.fnOf "_law_classes" "_law_classes" (defArgs sCls) (defBody sCls) (defScope sCls) .none kVC dcC pmC anC cdC ctC), slC⟩)
    (eC : PySem.W.codeIn K cdC "_law_classes" = true)
    (kC : PySem.W.keepIn K (.ref fC) = true)
    (aM : PySem.W.nsIn K mainGlobals "_law_made_errors" = some (some (.ref fM)))
    (lM : K.lookup fM = some ⟨ocM, odM, .func (PySem.W.fnOf "_law_made_errors" "_law_made_errors" (defArgs sMade) (defBody sMade) (defScope sMade) .none kVM dcM pmM anM cdM ctM), slM⟩)
    (eM : PySem.W.codeIn K cdM "_law_made_errors" = true)
    (kM : PySem.W.keepIn K (.ref fM) = true)
    (aL : PySem.W.nsIn K mainGlobals "law" = some (some (.ref fL)))
    (lL : K.lookup fL = some ⟨ocL, odL, .func (PySem.W.fnOf "law" "law" (defArgs sLaw) (defBody sLaw) (defScope sLaw) .none kVL dcL pmL anL cdL ctL), slL⟩)
    (eL : PySem.W.codeIn K cdL "law" = true)
    (kL : PySem.W.keepIn K (.ref fL) = true)
    (x0n : PySem.W.nsIn K mainGlobals "CannotBe" = some (some (.ref c0)))
    (x0q : PySem.W.excIn K c0 veB "ValueError.__new__" = true)
    (x0k : PySem.W.keepIn K (.ref c0) = true)
    (x0g : PySem.W.findIn K (.ref c0) "__getattribute__" = some (some (.builtin "BaseException.__getattribute__")))
    (x0h : PySem.W.findIn K (.ref c0) "__getattr__" = some none)
    (x0s : PySem.W.subIn K (.ref c0) (.type "BaseException") = some true)
    (x0d : PySem.W.hasDictIn K c0 = true)
    (x0a : PySem.W.findIn K (.ref c0) "__class__" = some (some (.builtin "object.__class__")))
    (x0m : PySem.W.mroIn K c0 (.type "object") = some true)
    (x0v : PySem.W.mroIn K c0 (.type "ValueError") = some true)
    (x0t : PySem.W.typeIn K (.ref c0) = some (.type "type"))
    (x1n : PySem.W.nsIn K mainGlobals "DuplicateName" = some (some (.ref c1)))
    (x1q : PySem.W.excIn K c1 veB "ValueError.__new__" = true)
    (x1k : PySem.W.keepIn K (.ref c1) = true)
    (x1g : PySem.W.findIn K (.ref c1) "__getattribute__" = some (some (.builtin "BaseException.__getattribute__")))
    (x1h : PySem.W.findIn K (.ref c1) "__getattr__" = some none)
    (x1s : PySem.W.subIn K (.ref c1) (.type "BaseException") = some true)
    (x1d : PySem.W.hasDictIn K c1 = true)
    (x1a : PySem.W.findIn K (.ref c1) "__class__" = some (some (.builtin "object.__class__")))
    (x1m : PySem.W.mroIn K c1 (.type "object") = some true)
    (x1v : PySem.W.mroIn K c1 (.type "ValueError") = some true)
    (x1t : PySem.W.typeIn K (.ref c1) = some (.type "type"))
    (x2n : PySem.W.nsIn K mainGlobals "InvalidBook" = some (some (.ref c2)))
    (x2q : PySem.W.excIn K c2 veB "ValueError.__new__" = true)
    (x2k : PySem.W.keepIn K (.ref c2) = true)
    (x2g : PySem.W.findIn K (.ref c2) "__getattribute__" = some (some (.builtin "BaseException.__getattribute__")))
    (x2h : PySem.W.findIn K (.ref c2) "__getattr__" = some none)
    (x2s : PySem.W.subIn K (.ref c2) (.type "BaseException") = some true)
    (x2d : PySem.W.hasDictIn K c2 = true)
    (x2a : PySem.W.findIn K (.ref c2) "__class__" = some (some (.builtin "object.__class__")))
    (x2m : PySem.W.mroIn K c2 (.type "object") = some true)
    (x2v : PySem.W.mroIn K c2 (.type "ValueError") = some true)
    (x2t : PySem.W.typeIn K (.ref c2) = some (.type "type"))
    (x3n : PySem.W.nsIn K mainGlobals "InvalidBool" = some (some (.ref c3)))
    (x3q : PySem.W.excIn K c3 veB "ValueError.__new__" = true)
    (x3k : PySem.W.keepIn K (.ref c3) = true)
    (x3g : PySem.W.findIn K (.ref c3) "__getattribute__" = some (some (.builtin "BaseException.__getattribute__")))
    (x3h : PySem.W.findIn K (.ref c3) "__getattr__" = some none)
    (x3s : PySem.W.subIn K (.ref c3) (.type "BaseException") = some true)
    (x3d : PySem.W.hasDictIn K c3 = true)
    (x3a : PySem.W.findIn K (.ref c3) "__class__" = some (some (.builtin "object.__class__")))
    (x3m : PySem.W.mroIn K c3 (.type "object") = some true)
    (x3v : PySem.W.mroIn K c3 (.type "ValueError") = some true)
    (x3t : PySem.W.typeIn K (.ref c3) = some (.type "type"))
    (x4n : PySem.W.nsIn K mainGlobals "InvalidCave" = some (some (.ref c4)))
    (x4q : PySem.W.excIn K c4 veB "ValueError.__new__" = true)
    (x4k : PySem.W.keepIn K (.ref c4) = true)
    (x4g : PySem.W.findIn K (.ref c4) "__getattribute__" = some (some (.builtin "BaseException.__getattribute__")))
    (x4h : PySem.W.findIn K (.ref c4) "__getattr__" = some none)
    (x4s : PySem.W.subIn K (.ref c4) (.type "BaseException") = some true)
    (x4d : PySem.W.hasDictIn K c4 = true)
    (x4a : PySem.W.findIn K (.ref c4) "__class__" = some (some (.builtin "object.__class__")))
    (x4m : PySem.W.mroIn K c4 (.type "object") = some true)
    (x4v : PySem.W.mroIn K c4 (.type "ValueError") = some true)
    (x4t : PySem.W.typeIn K (.ref c4) = some (.type "type"))
    (x5n : PySem.W.nsIn K mainGlobals "InvalidLabel" = some (some (.ref c5)))
    (x5q : PySem.W.excIn K c5 veB "ValueError.__new__" = true)
    (x5k : PySem.W.keepIn K (.ref c5) = true)
    (x5g : PySem.W.findIn K (.ref c5) "__getattribute__" = some (some (.builtin "BaseException.__getattribute__")))
    (x5h : PySem.W.findIn K (.ref c5) "__getattr__" = some none)
    (x5s : PySem.W.subIn K (.ref c5) (.type "BaseException") = some true)
    (x5d : PySem.W.hasDictIn K c5 = true)
    (x5a : PySem.W.findIn K (.ref c5) "__class__" = some (some (.builtin "object.__class__")))
    (x5m : PySem.W.mroIn K c5 (.type "object") = some true)
    (x5v : PySem.W.mroIn K c5 (.type "ValueError") = some true)
    (x5t : PySem.W.typeIn K (.ref c5) = some (.type "type"))
    (x6n : PySem.W.nsIn K mainGlobals "InvalidLine" = some (some (.ref c6)))
    (x6q : PySem.W.excIn K c6 veB "ValueError.__new__" = true)
    (x6k : PySem.W.keepIn K (.ref c6) = true)
    (x6g : PySem.W.findIn K (.ref c6) "__getattribute__" = some (some (.builtin "BaseException.__getattribute__")))
    (x6h : PySem.W.findIn K (.ref c6) "__getattr__" = some none)
    (x6s : PySem.W.subIn K (.ref c6) (.type "BaseException") = some true)
    (x6d : PySem.W.hasDictIn K c6 = true)
    (x6a : PySem.W.findIn K (.ref c6) "__class__" = some (some (.builtin "object.__class__")))
    (x6m : PySem.W.mroIn K c6 (.type "object") = some true)
    (x6v : PySem.W.mroIn K c6 (.type "ValueError") = some true)
    (x6t : PySem.W.typeIn K (.ref c6) = some (.type "type"))
    (x7n : PySem.W.nsIn K mainGlobals "InvalidLot" = some (some (.ref c7)))
    (x7q : PySem.W.excIn K c7 veB "ValueError.__new__" = true)
    (x7k : PySem.W.keepIn K (.ref c7) = true)
    (x7g : PySem.W.findIn K (.ref c7) "__getattribute__" = some (some (.builtin "BaseException.__getattribute__")))
    (x7h : PySem.W.findIn K (.ref c7) "__getattr__" = some none)
    (x7s : PySem.W.subIn K (.ref c7) (.type "BaseException") = some true)
    (x7d : PySem.W.hasDictIn K c7 = true)
    (x7a : PySem.W.findIn K (.ref c7) "__class__" = some (some (.builtin "object.__class__")))
    (x7m : PySem.W.mroIn K c7 (.type "object") = some true)
    (x7v : PySem.W.mroIn K c7 (.type "ValueError") = some true)
    (x7t : PySem.W.typeIn K (.ref c7) = some (.type "type"))
    (x8n : PySem.W.nsIn K mainGlobals "InvalidName" = some (some (.ref c8)))
    (x8q : PySem.W.excIn K c8 veB "ValueError.__new__" = true)
    (x8k : PySem.W.keepIn K (.ref c8) = true)
    (x8g : PySem.W.findIn K (.ref c8) "__getattribute__" = some (some (.builtin "BaseException.__getattribute__")))
    (x8h : PySem.W.findIn K (.ref c8) "__getattr__" = some none)
    (x8s : PySem.W.subIn K (.ref c8) (.type "BaseException") = some true)
    (x8d : PySem.W.hasDictIn K c8 = true)
    (x8a : PySem.W.findIn K (.ref c8) "__class__" = some (some (.builtin "object.__class__")))
    (x8m : PySem.W.mroIn K c8 (.type "object") = some true)
    (x8v : PySem.W.mroIn K c8 (.type "ValueError") = some true)
    (x8t : PySem.W.typeIn K (.ref c8) = some (.type "type"))
    (x9n : PySem.W.nsIn K mainGlobals "InvalidNumber" = some (some (.ref c9)))
    (x9q : PySem.W.excIn K c9 veB "ValueError.__new__" = true)
    (x9k : PySem.W.keepIn K (.ref c9) = true)
    (x9g : PySem.W.findIn K (.ref c9) "__getattribute__" = some (some (.builtin "BaseException.__getattribute__")))
    (x9h : PySem.W.findIn K (.ref c9) "__getattr__" = some none)
    (x9s : PySem.W.subIn K (.ref c9) (.type "BaseException") = some true)
    (x9d : PySem.W.hasDictIn K c9 = true)
    (x9a : PySem.W.findIn K (.ref c9) "__class__" = some (some (.builtin "object.__class__")))
    (x9m : PySem.W.mroIn K c9 (.type "object") = some true)
    (x9v : PySem.W.mroIn K c9 (.type "ValueError") = some true)
    (x9t : PySem.W.typeIn K (.ref c9) = some (.type "type"))
    (x10n : PySem.W.nsIn K mainGlobals "InvalidScript" = some (some (.ref c10)))
    (x10q : PySem.W.excIn K c10 veB "ValueError.__new__" = true)
    (x10k : PySem.W.keepIn K (.ref c10) = true)
    (x10g : PySem.W.findIn K (.ref c10) "__getattribute__" = some (some (.builtin "BaseException.__getattribute__")))
    (x10h : PySem.W.findIn K (.ref c10) "__getattr__" = some none)
    (x10s : PySem.W.subIn K (.ref c10) (.type "BaseException") = some true)
    (x10d : PySem.W.hasDictIn K c10 = true)
    (x10a : PySem.W.findIn K (.ref c10) "__class__" = some (some (.builtin "object.__class__")))
    (x10m : PySem.W.mroIn K c10 (.type "object") = some true)
    (x10v : PySem.W.mroIn K c10 (.type "ValueError") = some true)
    (x10t : PySem.W.typeIn K (.ref c10) = some (.type "type"))
    (x11n : PySem.W.nsIn K mainGlobals "InvalidSweep" = some (some (.ref c11)))
    (x11q : PySem.W.excIn K c11 veB "ValueError.__new__" = true)
    (x11k : PySem.W.keepIn K (.ref c11) = true)
    (x11g : PySem.W.findIn K (.ref c11) "__getattribute__" = some (some (.builtin "BaseException.__getattribute__")))
    (x11h : PySem.W.findIn K (.ref c11) "__getattr__" = some none)
    (x11s : PySem.W.subIn K (.ref c11) (.type "BaseException") = some true)
    (x11d : PySem.W.hasDictIn K c11 = true)
    (x11a : PySem.W.findIn K (.ref c11) "__class__" = some (some (.builtin "object.__class__")))
    (x11m : PySem.W.mroIn K c11 (.type "object") = some true)
    (x11v : PySem.W.mroIn K c11 (.type "ValueError") = some true)
    (x11t : PySem.W.typeIn K (.ref c11) = some (.type "type"))
    (x12n : PySem.W.nsIn K mainGlobals "InvalidTree" = some (some (.ref c12)))
    (x12q : PySem.W.excIn K c12 veB "ValueError.__new__" = true)
    (x12k : PySem.W.keepIn K (.ref c12) = true)
    (x12g : PySem.W.findIn K (.ref c12) "__getattribute__" = some (some (.builtin "BaseException.__getattribute__")))
    (x12h : PySem.W.findIn K (.ref c12) "__getattr__" = some none)
    (x12s : PySem.W.subIn K (.ref c12) (.type "BaseException") = some true)
    (x12d : PySem.W.hasDictIn K c12 = true)
    (x12a : PySem.W.findIn K (.ref c12) "__class__" = some (some (.builtin "object.__class__")))
    (x12m : PySem.W.mroIn K c12 (.type "object") = some true)
    (x12v : PySem.W.mroIn K c12 (.type "ValueError") = some true)
    (x12t : PySem.W.typeIn K (.ref c12) = some (.type "type"))
    (x13n : PySem.W.nsIn K mainGlobals "InvalidWay" = some (some (.ref c13)))
    (x13q : PySem.W.excIn K c13 veB "ValueError.__new__" = true)
    (x13k : PySem.W.keepIn K (.ref c13) = true)
    (x13g : PySem.W.findIn K (.ref c13) "__getattribute__" = some (some (.builtin "BaseException.__getattribute__")))
    (x13h : PySem.W.findIn K (.ref c13) "__getattr__" = some none)
    (x13s : PySem.W.subIn K (.ref c13) (.type "BaseException") = some true)
    (x13d : PySem.W.hasDictIn K c13 = true)
    (x13a : PySem.W.findIn K (.ref c13) "__class__" = some (some (.builtin "object.__class__")))
    (x13m : PySem.W.mroIn K c13 (.type "object") = some true)
    (x13v : PySem.W.mroIn K c13 (.type "ValueError") = some true)
    (x13t : PySem.W.typeIn K (.ref c13) = some (.type "type"))
    (x14n : PySem.W.nsIn K mainGlobals "NothingToUndo" = some (some (.ref c14)))
    (x14q : PySem.W.excIn K c14 veB "ValueError.__new__" = true)
    (x14k : PySem.W.keepIn K (.ref c14) = true)
    (x14g : PySem.W.findIn K (.ref c14) "__getattribute__" = some (some (.builtin "BaseException.__getattribute__")))
    (x14h : PySem.W.findIn K (.ref c14) "__getattr__" = some none)
    (x14s : PySem.W.subIn K (.ref c14) (.type "BaseException") = some true)
    (x14d : PySem.W.hasDictIn K c14 = true)
    (x14a : PySem.W.findIn K (.ref c14) "__class__" = some (some (.builtin "object.__class__")))
    (x14m : PySem.W.mroIn K c14 (.type "object") = some true)
    (x14v : PySem.W.mroIn K c14 (.type "ValueError") = some true)
    (x14t : PySem.W.typeIn K (.ref c14) = some (.type "type"))
    (x15n : PySem.W.nsIn K mainGlobals "ParseError" = some (some (.ref c15)))
    (x15k : PySem.W.keepIn K (.ref c15) = true)
    (x15g : PySem.W.findIn K (.ref c15) "__getattribute__" = some (some (.builtin "BaseException.__getattribute__")))
    (x15h : PySem.W.findIn K (.ref c15) "__getattr__" = some none)
    (x15s : PySem.W.subIn K (.ref c15) (.type "BaseException") = some true)
    (x15d : PySem.W.hasDictIn K c15 = true)
    (x15a : PySem.W.findIn K (.ref c15) "__class__" = some (some (.builtin "object.__class__")))
    (x15m : PySem.W.mroIn K c15 (.type "object") = some true)
    (x15v : PySem.W.mroIn K c15 (.type "ValueError") = some true)
    (x15t : PySem.W.typeIn K (.ref c15) = some (.type "type"))
    (x16n : PySem.W.nsIn K mainGlobals "UnknownCave" = some (some (.ref c16)))
    (x16q : PySem.W.excIn K c16 veB "ValueError.__new__" = true)
    (x16k : PySem.W.keepIn K (.ref c16) = true)
    (x16g : PySem.W.findIn K (.ref c16) "__getattribute__" = some (some (.builtin "BaseException.__getattribute__")))
    (x16h : PySem.W.findIn K (.ref c16) "__getattr__" = some none)
    (x16s : PySem.W.subIn K (.ref c16) (.type "BaseException") = some true)
    (x16d : PySem.W.hasDictIn K c16 = true)
    (x16a : PySem.W.findIn K (.ref c16) "__class__" = some (some (.builtin "object.__class__")))
    (x16m : PySem.W.mroIn K c16 (.type "object") = some true)
    (x16v : PySem.W.mroIn K c16 (.type "ValueError") = some true)
    (x16t : PySem.W.typeIn K (.ref c16) = some (.type "type"))
    (x17n : PySem.W.nsIn K mainGlobals "UnknownName" = some (some (.ref c17)))
    (x17q : PySem.W.excIn K c17 veB "ValueError.__new__" = true)
    (x17k : PySem.W.keepIn K (.ref c17) = true)
    (x17g : PySem.W.findIn K (.ref c17) "__getattribute__" = some (some (.builtin "BaseException.__getattribute__")))
    (x17h : PySem.W.findIn K (.ref c17) "__getattr__" = some none)
    (x17s : PySem.W.subIn K (.ref c17) (.type "BaseException") = some true)
    (x17d : PySem.W.hasDictIn K c17 = true)
    (x17a : PySem.W.findIn K (.ref c17) "__class__" = some (some (.builtin "object.__class__")))
    (x17m : PySem.W.mroIn K c17 (.type "object") = some true)
    (x17v : PySem.W.mroIn K c17 (.type "ValueError") = some true)
    (x17t : PySem.W.typeIn K (.ref c17) = some (.type "type"))
    (x18n : PySem.W.nsIn K mainGlobals "CaveError" = some (some (.ref cB)))
    (x18q : PySem.W.excIn K cB veB "ValueError.__new__" = true)
    (x18k : PySem.W.keepIn K (.ref cB) = true)
    (x18g : PySem.W.findIn K (.ref cB) "__getattribute__" = some (some (.builtin "BaseException.__getattribute__")))
    (x18h : PySem.W.findIn K (.ref cB) "__getattr__" = some none)
    (x18s : PySem.W.subIn K (.ref cB) (.type "BaseException") = some true)
    (x18d : PySem.W.hasDictIn K cB = true)
    (x18a : PySem.W.findIn K (.ref cB) "__class__" = some (some (.builtin "object.__class__")))
    (x18m : PySem.W.mroIn K cB (.type "object") = some true)
    (x18v : PySem.W.mroIn K cB (.type "ValueError") = some true)
    (x18t : PySem.W.typeIn K (.ref cB) = some (.type "type"))
    (gn : PySem.W.specialIn K (.builtin "object.__class__") "__get__" = some (some (.builtin "getset_descriptor.__get__")))
    (gt : PySem.W.takesIn K (.builtin "object.__class__") = some true)
    (mat : matB K (fun i => [c0, c1, c2, c3, c4, c5, c6, c7, c8, c9, c10, c11, c12, c13, c14, c15, c16, c17].getD i 0) cB 18 = true)
    (zi : PySem.W.nsIn K mainGlobals "isinstance" = some none)
    (zl : PySem.W.nsIn K mainGlobals "len" = some none)
    (zt : PySem.W.nsIn K mainGlobals "int" = some none)
    (zs : PySem.W.nsIn K mainGlobals "list" = some none)
    (zr : PySem.W.nsIn K mainGlobals "range" = some none)
    (zp : PySem.W.nsIn K mainGlobals "repr" = some none)
    (za : PySem.W.nsIn K mainGlobals "any" = some none)
    (zv : PySem.W.nsIn K mainGlobals "ValueError" = some none)
    (zu : PySem.W.nsIn K mainGlobals "super" = some none)
    (pl : K.lookup c15 = some (excClassObj nm q c15 N bs bm true sn sub ab col dd k0 k1 k2 k3 k5 "ValueError.__new__"))
    (pm_ : PySem.HandSPX.refsVE bm = true)
    (ps : PySem.W.findIn K (.ref c15) "__setattr__" = some (some (.builtin "object.__setattr__")))
    (pi_ : PySem.W.findIn K (.ref c15) "__init__" = some (some (.ref fI)))
    (pf : K.lookup fI = some ⟨ocI, odI, .func (PySem.W.ksFn "__init__" "ParseError.__init__" (defArgs (inClass (topS 2) 0)) (defBody (inClass (topS 2) 0)) isc .none kVI dcI pmI anI (.ref cda) ctI cc), slI⟩)
    (pc : PySem.W.codeIn K (.ref cda) "ParseError.__init__" = true)
    (pd : K.lookup cc = some ⟨y1, y2, .cell (some (.ref c15)), y3⟩)
    (pe : K.lookup cda = some ⟨y4, y5, .fields vsI, y6⟩)
    (pg : vsI[2]? = some (.str file tf))
    (ph : ((l.prog.main.file : Str) == file) = true)
    (pj : (l.prog.main.scope.names.lookup ("super" : Str)).isSome = false)
    (pt : PySem.W.typeIn K (.ref fI) = some (.type "function"))
    (po : PySem.W.nsIn K cStatics "thirdparty.any" = some none)
    (pr : PySem.W.ks_superIn K c15 c15 "__init__" = some (some (.builtin "ValueError.__init__")))
    (pself : PySem.W.mroIn K c15 (.ref c15) = some true)
    (pn : PySem.W.findIn K (.ref c15) "index" = some none)
    : ∀ base : Heap, K.In base → base.Ns mainGlobals mg → LawRun l.prog w K mg base fa (spLaw K) := by
  intro base _ _
  obtain rfl : fL = fa := by
    have e := hfa.symm.trans (PySem.W.mg_of X G aL)
    cases e
    rfl
  have M := mat_of mat
  have tyA : ∀ i, i < 18 → PySem.W.typeIn K (.ref ((fun i => [c0, c1, c2, c3, c4, c5, c6, c7, c8, c9, c10, c11, c12, c13, c14, c15, c16, c17].getD i 0) i)) = some (.type "type") := (fun i hi => match i, hi with | 0, _ => x0t | 1, _ => x1t | 2, _ => x2t | 3, _ => x3t | 4, _ => x4t | 5, _ => x5t | 6, _ => x6t | 7, _ => x7t | 8, _ => x8t | 9, _ => x9t | 10, _ => x10t | 11, _ => x11t | 12, _ => x12t | 13, _ => x13t | 14, _ => x14t | 15, _ => x15t | 16, _ => x16t | 17, _ => x17t | _ + 18, h => absurd h (by omega))
  have obA : ∀ i, i < 18 → PySem.W.mroIn K ((fun i => [c0, c1, c2, c3, c4, c5, c6, c7, c8, c9, c10, c11, c12, c13, c14, c15, c16, c17].getD i 0) i) (.type "object") = some true := (fun i hi => match i, hi with | 0, _ => x0m | 1, _ => x1m | 2, _ => x2m | 3, _ => x3m | 4, _ => x4m | 5, _ => x5m | 6, _ => x6m | 7, _ => x7m | 8, _ => x8m | 9, _ => x9m | 10, _ => x10m | 11, _ => x11m | 12, _ => x12m | 13, _ => x13m | 14, _ => x14m | 15, _ => x15m | 16, _ => x16m | 17, _ => x17m | _ + 18, h => absurd h (by omega))
  have vaA : ∀ i, i < 18 → PySem.W.mroIn K ((fun i => [c0, c1, c2, c3, c4, c5, c6, c7, c8, c9, c10, c11, c12, c13, c14, c15, c16, c17].getD i 0) i) (.type "ValueError") = some true := (fun i hi => match i, hi with | 0, _ => x0v | 1, _ => x1v | 2, _ => x2v | 3, _ => x3v | 4, _ => x4v | 5, _ => x5v | 6, _ => x6v | 7, _ => x7v | 8, _ => x8v | 9, _ => x9v | 10, _ => x10v | 11, _ => x11v | 12, _ => x12v | 13, _ => x13v | 14, _ => x14v | 15, _ => x15v | 16, _ => x16v | 17, _ => x17v | _ + 18, h => absurd h (by omega))
  have exA : ∀ i, i < 18 → ExcC K ((fun i => [c0, c1, c2, c3, c4, c5, c6, c7, c8, c9, c10, c11, c12, c13, c14, c15, c16, c17].getD i 0) i) := (fun i hi => match i, hi with | 0, _ => ⟨x0g, x0h, x0s, x0d, x0a, gn, gt, x0m⟩ | 1, _ => ⟨x1g, x1h, x1s, x1d, x1a, gn, gt, x1m⟩ | 2, _ => ⟨x2g, x2h, x2s, x2d, x2a, gn, gt, x2m⟩ | 3, _ => ⟨x3g, x3h, x3s, x3d, x3a, gn, gt, x3m⟩ | 4, _ => ⟨x4g, x4h, x4s, x4d, x4a, gn, gt, x4m⟩ | 5, _ => ⟨x5g, x5h, x5s, x5d, x5a, gn, gt, x5m⟩ | 6, _ => ⟨x6g, x6h, x6s, x6d, x6a, gn, gt, x6m⟩ | 7, _ => ⟨x7g, x7h, x7s, x7d, x7a, gn, gt, x7m⟩ | 8, _ => ⟨x8g, x8h, x8s, x8d, x8a, gn, gt, x8m⟩ | 9, _ => ⟨x9g, x9h, x9s, x9d, x9a, gn, gt, x9m⟩ | 10, _ => ⟨x10g, x10h, x10s, x10d, x10a, gn, gt, x10m⟩ | 11, _ => ⟨x11g, x11h, x11s, x11d, x11a, gn, gt, x11m⟩ | 12, _ => ⟨x12g, x12h, x12s, x12d, x12a, gn, gt, x12m⟩ | 13, _ => ⟨x13g, x13h, x13s, x13d, x13a, gn, gt, x13m⟩ | 14, _ => ⟨x14g, x14h, x14s, x14d, x14a, gn, gt, x14m⟩ | 15, _ => ⟨x15g, x15h, x15s, x15d, x15a, gn, gt, x15m⟩ | 16, _ => ⟨x16g, x16h, x16s, x16d, x16a, gn, gt, x16m⟩ | 17, _ => ⟨x17g, x17h, x17s, x17d, x17a, gn, gt, x17m⟩ | _ + 18, h => absurd h (by omega))
  have mkA : ∀ i, i < 18 → i ≠ 15 → PySem.W.excIn K ((fun i => [c0, c1, c2, c3, c4, c5, c6, c7, c8, c9, c10, c11, c12, c13, c14, c15, c16, c17].getD i 0) i) veB "ValueError.__new__" = true := (fun i hi ne => match i, hi, ne with | 0, _, _ => x0q | 1, _, _ => x1q | 2, _, _ => x2q | 3, _, _ => x3q | 4, _, _ => x4q | 5, _, _ => x5q | 6, _, _ => x6q | 7, _, _ => x7q | 8, _, _ => x8q | 9, _, _ => x9q | 10, _, _ => x10q | 11, _, _ => x11q | 12, _, _ => x12q | 13, _, _ => x13q | 14, _, _ => x14q | 15, _, ne => absurd rfl ne | 16, _, _ => x16q | 17, _, _ => x17q | _ + 18, h, _ => absurd h (by omega))
  have kpA : ∀ i, i < 18 → PySem.W.keepIn K (.ref ((fun i => [c0, c1, c2, c3, c4, c5, c6, c7, c8, c9, c10, c11, c12, c13, c14, c15, c16, c17].getD i 0) i)) = true := (fun i hi => match i, hi with | 0, _ => x0k | 1, _ => x1k | 2, _ => x2k | 3, _ => x3k | 4, _ => x4k | 5, _ => x5k | 6, _ => x6k | 7, _ => x7k | 8, _ => x8k | 9, _ => x9k | 10, _ => x10k | 11, _ => x11k | 12, _ => x12k | 13, _ => x13k | 14, _ => x14k | 15, _ => x15k | 16, _ => x16k | 17, _ => x17k | _ + 18, h => absurd h (by omega))
  have T : TxtE K mg (fun i => [c0, c1, c2, c3, c4, c5, c6, c7, c8, c9, c10, c11, c12, c13, c14, c15, c16, c17].getD i 0) cB := ⟨PySem.W.mg_of X G x0n, PySem.W.mg_of X G x1n, PySem.W.mg_of X G x2n, PySem.W.mg_of X G x3n, PySem.W.mg_of X G x4n, PySem.W.mg_of X G x5n, PySem.W.mg_of X G x6n, PySem.W.mg_of X G x7n, PySem.W.mg_of X G x8n, PySem.W.mg_of X G x9n, PySem.W.mg_of X G x10n, PySem.W.mg_of X G x11n, PySem.W.mg_of X G x12n, PySem.W.mg_of X G x13n, PySem.W.mg_of X G x14n, PySem.W.mg_of X G x15n, PySem.W.mg_of X G x16n, PySem.W.mg_of X G x17n, PySem.W.mg_of X G x18n, exA, ⟨x18g, x18h, x18s, x18d, x18a, gn, gt, x18m⟩, mkA, x18q, kpA, x18k, (fun i j hi hj => kit_ref (tyA j hj) (obA j hj) (M.eq i j hi hj) fun e => decide_eq_true (M.nq i j hi hj e)), (fun i hi => kit_ref x18t x18m (M.up i hi) fun _ => rfl), (fun i hi => kit_val (vaA i hi)), (fun j hj => kit_ref (tyA j hj) (obA j hj) (M.dn j hj) fun e => absurd e (M.ne j hj)), kit_val x18v, PySem.W.mg_none_of X G zi⟩
  have TP : TxtP mg := ⟨PySem.W.mg_none_of X G zl, PySem.W.mg_none_of X G zt, PySem.W.mg_none_of X G zs⟩
  have ox : OexC K c15 := ⟨⟨_, _, _, _, _, _, _, _, _, _, _, _, _, _, _, pl, pm_⟩, ps, x15s, x15t, x15k⟩
  have isD : ∃ cd, PySem.W.clsIn K c15 = some cd := by
    unfold PySem.W.clsIn
    rw [pl]
    exact ⟨_, rfl⟩
  have S : SupI l.prog K mg (defArgs (inClass (topS 2) 0)) (defBody (inClass (topS 2) 0)) "ParseError.__init__" c15 fI (PySem.W.ksFn "__init__" "ParseError.__init__" (defArgs (inClass (topS 2) 0)) (defBody (inClass (topS 2) 0)) isc .none kVI dcI pmI anI (.ref cda) ctI cc) :=
    ⟨⟨_, _, _, _, _, _, _, _, _, _, _, rfl, pf, pc, ⟨_, _, _, pd⟩, ⟨_, _, _, _, _, _, pe, pg, ph⟩⟩, NdefX.nscope_by (by decide +kernel), PySem.W.mg_none_of X G zu, ⟨_, _, rfl⟩, pj, isD, pself, po, pr, x15v, ox, pn⟩
  have Z : TxtF K mg (fun i => [c0, c1, c2, c3, c4, c5, c6, c7, c8, c9, c10, c11, c12, c13, c14, c15, c16, c17].getD i 0) fI (PySem.W.ksFn "__init__" "ParseError.__init__" (defArgs (inClass (topS 2) 0)) (defBody (inClass (topS 2) 0)) isc .none kVI dcI pmI anI (.ref cda) ctI cc) :=
    ⟨ox, pi_, pt, Binds.all fun us hl => (match us, hl with | [_, _], _ => by kernel_rfl), (fun m u v => BindsTo.of_eq (by kernel_rfl)), ⟨x15g, x15h, x15s, x15d⟩, pn, PySem.W.mg_none_of X G zr, PySem.W.mg_none_of X G zp, PySem.W.mg_none_of X G za, PySem.W.mg_none_of X G zv⟩
  have GI : FnOk l.prog w K mg base CX0 2 fI _ ["self", "index"] (spI c15) := ok_init (pre := "wrong at index ") S (by decide +kernel) (fun _ _ _ _ => ⟨_, rfl⟩) (fun _ _ _ _ => rfl) (fun _ _ _ _ => rfl) rfl
  have FP := fun_mk (st := sPen) lP eP kP
  have FN := fun_mk (st := sNext) lN eN kN
  have FD := fun_mk (st := sDraw) lD eD kD
  have FC := fun_mk (st := sCls) lC eC kC
  have FM := fun_mk (st := sMade) lM eM kM
  have FL := fun_mk (st := sLaw) lL eL kL
  have bP := FP.binds (ps := ["script"]) fun _ _ _ _ _ _ us hl => match us, hl with | [_], _ => rfl
  have bN := FN.binds (ps := ["pen"]) fun _ _ _ _ _ _ us hl => match us, hl with | [_], _ => rfl
  have bD := FD.binds (ps := ["pen", "under"]) fun _ _ _ _ _ _ us hl => match us, hl with | [_, _], _ => rfl
  have bC := FC.binds (ps := ["caught"]) fun _ _ _ _ _ _ us hl => match us, hl with | [_], _ => rfl
  have bM := FM.binds (ps := ["word", "number_here"]) fun _ _ _ _ _ _ us hl => match us, hl with | [_, _], _ => rfl
  exact ok_law FL (fun m u => BindsTo.of_eq rfl) T TP Z FP bP (PySem.W.mg_of X G aP) FN bN (PySem.W.mg_of X G aN) FD bD (PySem.W.mg_of X G aD) FC bC (PySem.W.mg_of X G aC) FM bM (PySem.W.mg_of X G aM) GI
end Cv
open PySem PySem.W PyProof.Rows in
set_option maxRecDepth 100000 in
set_option maxHeartbeats 0 in
theorem PySem.Challenge.cw_cavesweep_k16_errors_holds : PySem.Challenge.rw_cavesweep_k16_errors.Holds := by
  w_on; o_law; k_head; (case hw => w_witness2)
  k_fill
  refine CvG.law_goes (l := PySem.Challenge.rw_cavesweep_k16_errors) (n := 63) (sp := Cv.spLaw) rfl (by decide) rfl (fun w h Y => PySem.W.kIn_of Y) ?F (fun K G a ns _ hS => ⟨a, ns, rfl, hS, fun _ => rfl⟩)
  case F =>
    intro w mg fa h KX G hmg
    refine' Cv.all_mk KX G hmg ?aP ?lP ?eP ?kP ?aN ?lN ?eN ?kN ?aD ?lD ?eD ?kD ?aC ?lC ?eC ?kC ?aM ?lM ?eM ?kM ?aL ?lL ?eL ?kL ?x0n ?x0q ?x0k ?x0g ?x0h ?x0s ?x0d ?x0a ?x0m ?x0v ?x0t ?x1n ?x1q ?x1k ?x1g ?x1h ?x1s ?x1d ?x1a ?x1m ?x1v ?x1t ?x2n ?x2q ?x2k ?x2g ?x2h ?x2s ?x2d ?x2a ?x2m ?x2v ?x2t ?x3n ?x3q ?x3k ?x3g ?x3h ?x3s ?x3d ?x3a ?x3m ?x3v ?x3t ?x4n ?x4q ?x4k ?x4g ?x4h ?x4s ?x4d ?x4a ?x4m ?x4v ?x4t ?x5n ?x5q ?x5k ?x5g ?x5h ?x5s ?x5d ?x5a ?x5m ?x5v ?x5t ?x6n ?x6q ?x6k ?x6g ?x6h ?x6s ?x6d ?x6a ?x6m ?x6v ?x6t ?x7n ?x7q ?x7k ?x7g ?x7h ?x7s ?x7d ?x7a ?x7m ?x7v ?x7t ?x8n ?x8q ?x8k ?x8g ?x8h ?x8s ?x8d ?x8a ?x8m ?x8v ?x8t ?x9n ?x9q ?x9k ?x9g ?x9h ?x9s ?x9d ?x9a ?x9m ?x9v ?x9t ?x10n ?x10q ?x10k ?x10g ?x10h ?x10s ?x10d ?x10a ?x10m ?x10v ?x10t ?x11n ?x11q ?x11k ?x11g ?x11h ?x11s ?x11d ?x11a ?x11m ?x11v ?x11t ?x12n ?x12q ?x12k ?x12g ?x12h ?x12s ?x12d ?x12a ?x12m ?x12v ?x12t ?x13n ?x13q ?x13k ?x13g ?x13h ?x13s ?x13d ?x13a ?x13m ?x13v ?x13t ?x14n ?x14q ?x14k ?x14g ?x14h ?x14s ?x14d ?x14a ?x14m ?x14v ?x14t ?x15n ?x15k ?x15g ?x15h ?x15s ?x15d ?x15a ?x15m ?x15v ?x15t ?x16n ?x16q ?x16k ?x16g ?x16h ?x16s ?x16d ?x16a ?x16m ?x16v ?x16t ?x17n ?x17q ?x17k ?x17g ?x17h ?x17s ?x17d ?x17a ?x17m ?x17v ?x17t ?x18n ?x18q ?x18k ?x18g ?x18h ?x18s ?x18d ?x18a ?x18m ?x18v ?x18t ?gn ?gt ?mat ?zi ?zl ?zt ?zs ?zr ?zp ?za ?zv ?zu ?pl ?pm_ ?ps ?pi_ ?pf ?pc ?pd ?pe ?pg ?ph ?pj ?pt ?po ?pr ?pself ?pn
    (case aP => k_is)
    (case lP => k_is)
    (case eP => k_is)
    (case kP => k_is)
    (case aN => k_is)
    (case lN => k_is)
    (case eN => k_is)
    (case kN => k_is)
    (case aD => k_is)
    (case lD => k_is)
    (case eD => k_is)
    (case kD => k_is)
    (case aC => k_is)
    (case lC => k_is)
    (case eC => k_is)
    (case kC => k_is)
    (case aM => k_is)
    (case lM => k_is)
    (case eM => k_is)
    (case kM => k_is)
    (case aL => k_is)
    (case lL => k_is)
    (case eL => k_is)
    (case kL => k_is)
    (case x0n => k_is)
    (case x0q => k_exc)
    (case x0k => k_is)
    (case x0g => k_is)
    (case x0h => k_is)
    (case x0s => k_is)
    (case x0d => k_is)
    (case x0a => k_is)
    (case x0m => k_is)
    (case x0v => k_is)
    (case x0t => k_is)
    (case x1n => k_is)
    (case x1q => k_exc)
    (case x1k => k_is)
    (case x1g => k_is)
    (case x1h => k_is)
    (case x1s => k_is)
    (case x1d => k_is)
    (case x1a => k_is)
    (case x1m => k_is)
    (case x1v => k_is)
    (case x1t => k_is)
    (case x2n => k_is)
    (case x2q => k_exc)
    (case x2k => k_is)
    (case x2g => k_is)
    (case x2h => k_is)
    (case x2s => k_is)
    (case x2d => k_is)
    (case x2a => k_is)
    (case x2m => k_is)
    (case x2v => k_is)
    (case x2t => k_is)
    (case x3n => k_is)
    (case x3q => k_exc)
    (case x3k => k_is)
    (case x3g => k_is)
    (case x3h => k_is)
    (case x3s => k_is)
    (case x3d => k_is)
    (case x3a => k_is)
    (case x3m => k_is)
    (case x3v => k_is)
    (case x3t => k_is)
    (case x4n => k_is)
    (case x4q => k_exc)
    (case x4k => k_is)
    (case x4g => k_is)
    (case x4h => k_is)
    (case x4s => k_is)
    (case x4d => k_is)
    (case x4a => k_is)
    (case x4m => k_is)
    (case x4v => k_is)
    (case x4t => k_is)
    (case x5n => k_is)
    (case x5q => k_exc)
    (case x5k => k_is)
    (case x5g => k_is)
    (case x5h => k_is)
    (case x5s => k_is)
    (case x5d => k_is)
    (case x5a => k_is)
    (case x5m => k_is)
    (case x5v => k_is)
    (case x5t => k_is)
    (case x6n => k_is)
    (case x6q => k_exc)
    (case x6k => k_is)
    (case x6g => k_is)
    (case x6h => k_is)
    (case x6s => k_is)
    (case x6d => k_is)
    (case x6a => k_is)
    (case x6m => k_is)
    (case x6v => k_is)
    (case x6t => k_is)
    (case x7n => k_is)
    (case x7q => k_exc)
    (case x7k => k_is)
    (case x7g => k_is)
    (case x7h => k_is)
    (case x7s => k_is)
    (case x7d => k_is)
    (case x7a => k_is)
    (case x7m => k_is)
    (case x7v => k_is)
    (case x7t => k_is)
    (case x8n => k_is)
    (case x8q => k_exc)
    (case x8k => k_is)
    (case x8g => k_is)
    (case x8h => k_is)
    (case x8s => k_is)
    (case x8d => k_is)
    (case x8a => k_is)
    (case x8m => k_is)
    (case x8v => k_is)
    (case x8t => k_is)
    (case x9n => k_is)
    (case x9q => k_exc)
    (case x9k => k_is)
    (case x9g => k_is)
    (case x9h => k_is)
    (case x9s => k_is)
    (case x9d => k_is)
    (case x9a => k_is)
    (case x9m => k_is)
    (case x9v => k_is)
    (case x9t => k_is)
    (case x10n => k_is)
    (case x10q => k_exc)
    (case x10k => k_is)
    (case x10g => k_is)
    (case x10h => k_is)
    (case x10s => k_is)
    (case x10d => k_is)
    (case x10a => k_is)
    (case x10m => k_is)
    (case x10v => k_is)
    (case x10t => k_is)
    (case x11n => k_is)
    (case x11q => k_exc)
    (case x11k => k_is)
    (case x11g => k_is)
    (case x11h => k_is)
    (case x11s => k_is)
    (case x11d => k_is)
    (case x11a => k_is)
    (case x11m => k_is)
    (case x11v => k_is)
    (case x11t => k_is)
    (case x12n => k_is)
    (case x12q => k_exc)
    (case x12k => k_is)
    (case x12g => k_is)
    (case x12h => k_is)
    (case x12s => k_is)
    (case x12d => k_is)
    (case x12a => k_is)
    (case x12m => k_is)
    (case x12v => k_is)
    (case x12t => k_is)
    (case x13n => k_is)
    (case x13q => k_exc)
    (case x13k => k_is)
    (case x13g => k_is)
    (case x13h => k_is)
    (case x13s => k_is)
    (case x13d => k_is)
    (case x13a => k_is)
    (case x13m => k_is)
    (case x13v => k_is)
    (case x13t => k_is)
    (case x14n => k_is)
    (case x14q => k_exc)
    (case x14k => k_is)
    (case x14g => k_is)
    (case x14h => k_is)
    (case x14s => k_is)
    (case x14d => k_is)
    (case x14a => k_is)
    (case x14m => k_is)
    (case x14v => k_is)
    (case x14t => k_is)
    (case x15n => k_is)
    (case x15k => k_is)
    (case x15g => k_is)
    (case x15h => k_is)
    (case x15s => k_is)
    (case x15d => k_is)
    (case x15a => k_is)
    (case x15m => k_is)
    (case x15v => k_is)
    (case x15t => k_is)
    (case x16n => k_is)
    (case x16q => k_exc)
    (case x16k => k_is)
    (case x16g => k_is)
    (case x16h => k_is)
    (case x16s => k_is)
    (case x16d => k_is)
    (case x16a => k_is)
    (case x16m => k_is)
    (case x16v => k_is)
    (case x16t => k_is)
    (case x17n => k_is)
    (case x17q => k_exc)
    (case x17k => k_is)
    (case x17g => k_is)
    (case x17h => k_is)
    (case x17s => k_is)
    (case x17d => k_is)
    (case x17a => k_is)
    (case x17m => k_is)
    (case x17v => k_is)
    (case x17t => k_is)
    (case x18n => k_is)
    (case x18q => k_exc)
    (case x18k => k_is)
    (case x18g => k_is)
    (case x18h => k_is)
    (case x18s => k_is)
    (case x18d => k_is)
    (case x18a => k_is)
    (case x18m => k_is)
    (case x18v => k_is)
    (case x18t => k_is)
    (case gn => k_is)
    (case gt => k_is)
    (case mat => kernel_rfl)
    (case zi => k_is)
    (case zl => k_is)
    (case zt => k_is)
    (case zs => k_is)
    (case zr => k_is)
    (case zp => k_is)
    (case za => k_is)
    (case zv => k_is)
    (case zu => k_is)
    (case pl => k_is)
    (case pm_ => first | rfl | decide +kernel)
    (case ps => k_is)
    (case pi_ => k_is)
    (case pf => k_is)
    (case pc => k_is)
    (case pd => k_is)
    (case pe => k_is)
    (case pg => rfl)
    (case ph => decide +kernel)
    (case pj => decide +kernel)
    (case pt => k_is)
    (case po => k_is)
    (case pr => ks_is)
    (case pself => k_is)
    (case pn => k_is)
