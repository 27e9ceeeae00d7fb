import PyProof.Rows.All
import Wide.All
import OpenK.AllK
import Wide.FinOn
import HandS.Base
import HandS.Call
import HandS.List
import HandS.Comp
import HandS.Ends
import HandS.Words
import HandS.WordsList
import HandS.ForMost
import PyProof.ReprRoads
import HandS.More
import HandS.TupLe
import HandS.ExcOwn
import HandS.Exc
import HandS.Strs
import KE.GoesEnum
import HandS.SetBool
import HandS.SortInts
import HandS.ForExc
import HandS.DictComp
import HandS.SetKeys
import HandS.SetFor
import HandS.SortRule
import HandS.TupSets
import HandS.IsInst
import HandS.Codes
import HandS.Style
import HandS.TupAny
import PyProof.ReprBulk
import HandS.Nested
import HandS.ExcInit
import HandS.ExcValue
import HandS.ExcIs
import HandS.FStr
import HandS.ClsMeth
import KE.KExcIs
import KE.KExcSuper
import KE.KExcMake
import HandS.ExcField
import HandS.Lambda
import HandS.EndTab
import KE.KNestM
import HandS.Conv
import KE.KExcLine
import PySem.Challenge.RW_cavesweep_k01_caves
set_option Elab.async false
set_option linter.all false
set_option maxRecDepth 100000
set_option maxHeartbeats 8000000
namespace Cv
open PySem PySem.Spec PyProof.Rows L2
def topS (i : Nat) : Stmt := PySem.Challenge.pw_cavesweep_k01_caves.main.body.getD i (.Pass ⟨0, 0, 0, 0⟩)
abbrev sPen : Stmt := topS 16
abbrev sNext : Stmt := topS 17
abbrev sDraw : Stmt := topS 18
theorem scPen : FnScope ["script"] ["script"] (defScope sPen) := ⟨rfl, rfl, rfl, by decide +kernel, rfl, by decide +kernel, by decide +kernel⟩
theorem scNext : FnScope ["pen", "index", "cell_here", "some", "more", "high"] ["pen"] (defScope sNext) := ⟨rfl, rfl, rfl, by decide +kernel, rfl, by decide +kernel, by decide +kernel⟩
theorem scDraw : FnScope ["pen", "under", "digit"] ["pen", "under"] (defScope sDraw) := ⟨rfl, rfl, rfl, by decide +kernel, rfl, by decide +kernel, by decide +kernel⟩

/-- the pen at p, its list of numbers at l, at most N numbers were asked so far -/
structure PenAt (H : Hp) (p l : Addr) (N : Nat) : Prop where
  ex : ∃ i r : Int, H p = some (.lst [.ref l, .int i, .int r]) ∧ 0 ≤ i ∧ i ≤ (N : Int) ∧ 0 ≤ r
  ls : ∃ ns : List Int, H l = some (.lst (ns.map V.int)) ∧ ns.length ≤ 60
  ne : p ≠ l
theorem same_upd {H : Hp} {p : Addr} {o : HO} (h : H p = none) : Same H (upd H p o) := fun b x e => by
  rw [upd_ne (ne_of_none e h)]
  exact e
/-- all but p stands as it was -/
def But (p : Addr) (H H' : Hp) : Prop := ∀ b o, H b = some o → b ≠ p → H' b = some o
theorem But.refl (p : Addr) (H : Hp) : But p H H := fun _ _ h _ => h
theorem But.trans {p : Addr} {H H1 H2 : Hp} (a : But p H H1) (b : But p H1 H2) : But p H H2 := fun c o h n => b c o (a c o h n) n
theorem Same.but {p : Addr} {H H' : Hp} (a : Same H H') : But p H H' := fun c o h _ => a c o h
theorem But.upd {p : Addr} {H : Hp} {o : HO} : But p H (upd H p o) := fun b x e n => by rw [upd_ne n]; exact e
theorem PenAt.keep {H H' : Hp} {p l : Addr} {N : Nat} (P : PenAt H p l N) (s : Same H H') : PenAt H' p l N := by
  obtain ⟨⟨i, r, e, h⟩, ⟨ns, e2, h2⟩, ne⟩ := P
  exact ⟨⟨i, r, s _ _ e, h⟩, ⟨ns, s _ _ e2, h2⟩, ne⟩
theorem PenAt.more {H : Hp} {p l : Addr} {N M : Nat} (P : PenAt H p l N) (h : N ≤ M) : PenAt H p l M := by
  obtain ⟨⟨i, r, e, h0, h1, h2⟩, q, n⟩ := P
  exact ⟨⟨i, r, e, h0, by omega, h2⟩, q, n⟩
def spPen (K : PySem.W.Frag) : Sp := fun vs H Q _ => ∃ (a : Addr) (ns : List Int), vs = [.ref a] ∧ SqL K H a (ns.map V.int) ∧
  ∀ H' p l, Same H H' → H p = none → H l = none → PenAt H' p l 0 → Q (.ref p) H'
def spNext : Sp := fun vs H Q _ => ∃ (p l : Addr) (N : Nat), vs = [.ref p] ∧ PenAt H p l N ∧ N < 4611686018427387904 ∧
  ∀ H' (v : Int), 0 ≤ v → PenAt H' p l (N + 1) → But p H H' → Q (.int v) H'
def spDraw : Sp := fun vs H Q _ => ∃ (p l : Addr) (N : Nat) (u : Int), vs = [.ref p, .int u] ∧ PenAt H p l N ∧ N < 4611686018427387904 ∧ 0 < u ∧ u < 1073741824 ∧
  ∀ H' (d : Int), 0 ≤ d → d < u → PenAt H' p l (N + 1) → But p H H' → Q (.int d) H'
structure TxtP (mg : Str → Option Value) : Prop where
  len : mg "len" = none
  int : mg "int" = none
  list : mg "list" = none
section
variable {P : Program} {w : World} {K : PySem.W.Frag} {mg : Str → Option Value} {base : Heap}
theorem cut60 (ns : List Int) : ∃ ms : List Int, cutV (ns.map V.int) none (some 60) = ms.map V.int ∧ ms.length ≤ 60 := by
  refine ⟨ns.take 60, ?_, by rw [List.length_take]; omega⟩
  unfold cutV
  rw [HT.sIx_none, show HT.sIx (ns.map V.int).length (ns.map V.int).length (some 60) = min 60 (ns.map V.int).length from HT.sIx_nat _ _ 60, List.drop_zero, Nat.sub_zero, List.map_take]
  rw [List.take_eq_take_iff]
  omega
theorem ok_pen {f : Addr} {fd : FuncData} {k : Nat} (F : Fun K "_law_pen" "_law_pen" sPen f fd) (T : TxtP mg) : FnOk P w K mg base CX0 (k + 1) f fd ["script"] (spPen K) := by
  refine F.ok scPen (fun vs H Q E h => ?_) (fun cdv A outer s H vs Q E hr h => ?_)
  · obtain ⟨a, ns, rfl, _⟩ := h
    rfl
  · obtain ⟨a, ns, rfl, hS, q⟩ := h
    refine ⟨_, pss_one (ps_ret (pe_lst (pa_cons (pe_callTy call_list_of (by rfl) T.list (by decide +kernel) (pa_cons (pe_slice sl_list (pv 0) po_none (po_some pe_int)) pa_nil)) (pa_cons pe_int (pa_cons pe_int pa_nil))))), ?_⟩
    obtain ⟨ms, em, hm⟩ := cut60 ns
    refine ⟨.ref a, rfl, 60, rfl, a, _, rfl, hS, fun c nc => ⟨c, _, rfl, .inl (.inl (.inl upd_same)), fun l nl => ?_⟩⟩
    rw [em] at nl ⊢
    refine ⟨(by show 3 ≤ sizeLine; decide), fun p np => ?_⟩
    have s1 := same_upd (o := .lst (ms.map V.int)) nc
    have s2 := same_upd (o := .lst (ms.map V.int)) nl
    have s3 := same_upd (o := .lst [.ref l, .int 0, .int 0]) np
    have npl : p ≠ l := fun e => by
      rw [e, upd_same] at np
      cases np
    have nl0 : H l = none := s1.free nl
    have np0 : H p = none := s1.free (s2.free np)
    exact q _ p l (s1.trans (s2.trans s3)) np0 nl0 ⟨⟨0, 0, upd_same, by omega, by omega, by omega⟩, ⟨ms, by rw [upd_ne npl.symm, upd_same], hm⟩, npl⟩
theorem lay_ints : ∀ ns : List Int, PyData.canLayAll0 (ns.map PyData.int) = true
  | [] => by simp [PyData.canLayAll0]
  | z :: zs => by simp [PyData.canLayAll0, PyData.canLay0, lay_ints zs]
theorem depth_ints : ∀ ns : List Int, PyData.depthAll (ns.map PyData.int) ≤ 2
  | [] => by simp [PyData.depthAll]
  | z :: zs => by
    have h1 := depth_ints zs
    simp only [List.map_cons, PyData.depthAll, PyData.depth]
    omega
theorem shaped_ints (ns : List Int) : SeqAt.shaped (PyData.list (ns.map PyData.int)) = true := by
  have h1 := depth_ints ns
  have h2 : PyData.depth (.list (ns.map PyData.int)) ≤ 64 := by
    simp only [PyData.depth]
    omega
  show (PyData.canLay0 (.list (ns.map PyData.int)) && decide (PyData.depth (.list (ns.map PyData.int)) ≤ 64)) = true
  rw [Bool.and_eq_true]
  exact ⟨by simp only [PyData.canLay0]; exact lay_ints ns, decide_eq_true h2⟩
theorem dp_ints {H : Hp} : ∀ ns : List Int, DpAll K H (ns.map V.int) (ns.map PyData.int)
  | [] => .nil
  | _ :: r => .cons (.int _) (dp_ints r)
theorem eqv_nil (ns : List Int) : PyData.eqv (.list (ns.map PyData.int)) (.list []) = decide (ns = []) := by
  cases ns with
  | nil => simp [PyData.eqv, PyData.eqvAll]
  | cons x r => simp [PyData.eqv, PyData.eqvAll]
theorem p1 : (0 : Int) < 2147483587 := by decide
theorem p2 : (0 : Int) < 2147483563 := by decide
theorem p3 : (0 : Int) < 2147483549 := by decide
theorem cm {x y m : Int} (h : 0 < m) (h2 : m < 18446744073709551616) : CMul (x % m) y := by
  have h3 := Int.emod_nonneg x (show m ≠ 0 by omega)
  have h4 := Int.emod_lt_of_pos x h
  exact .inl ⟨by omega, by omega⟩
theorem big_nonneg {h b a : Int} (h0 : 0 ≤ h) (b0 : 0 ≤ b) (a0 : 0 ≤ a) : 0 ≤ (h * 2147483587 + b) * 2147483563 + a := by omega
theorem ok_next {f : Addr} {fd : FuncData} {k : Nat} (F : Fun K "_law_next" "_law_next" sNext f fd) (T : TxtP mg) : FnOk P w K mg base CX0 (k + 1) f fd ["pen"] spNext := by
  refine F.ok scNext (fun vs H Q E h => ?_) (fun cdv A outer s H vs Q E hr h => ?_)
  · obtain ⟨p, l, N, rfl, _⟩ := h
    rfl
  · obtain ⟨p, l, N, rfl, ⟨⟨i, r, hp, i0, i1, r0⟩, ⟨ns, hl, hn⟩, npl⟩, hN, q⟩ := h
    refine ⟨_, pss_cons (ps_set (i := 1) scNext.nd rfl (.inl rfl) (pe_ix ix_list (pv 0) pe_int (fun _ _ => rfl)))
      (pss_cons (ps_asg (pe_op op_add (pv 1) pe_int) (pg_sub (pv 0) pe_int set_list))
      (pss_cons (ps_set (i := 2) scNext.nd rfl (.inl rfl) (pe_op op_add (pe_op op_mul (pv 1) pe_int) pe_int))
      (pss_cons (ps_if (pt_cmpR (op_neD hr.units) (pe_ix ix_list (pv 0) pe_int (fun _ _ => rfl)) (pe_lst pa_nil) (nomark _))
        (pss_one (ps_set (i := 2) scNext.nd rfl (.inl rfl) (pe_ix ix_list (pe_ix ix_list (pv 0) pe_int (fun _ _ => rfl))
          (pe_op op_mod (pe_callTy call_int1 (by rfl) T.int (by decide +kernel) (pa_cons (pv 1) pa_nil)) (pe_callB call_len_seq (by rfl) T.len PySem.boot_len (pa_cons (pe_ix ix_list (pv 0) pe_int (fun _ _ => rfl)) pa_nil))) (fun _ _ => rfl))))
        pss_nil)
      (pss_cons (ps_if (PW.pt (pw_and (pt_cmpR op_lt (pv 1) (pe_callB call_len_seq (by rfl) T.len PySem.boot_len (pa_cons (pe_ix ix_list (pv 0) pe_int (fun _ _ => rfl)) pa_nil)) (nomark _))
          (pw_and1 (pt_cmpR op_ge (pv 2) (pe_op op_pow pe_int pe_int) (nomark _)))))
        (pss_one (ps_ret (pv 2))) pss_nil)
      (pss_cons (ps_set (i := 3) scNext.nd rfl (.inl rfl) (pe_op op_mod (pe_callTy call_int1 (by rfl) T.int (by decide +kernel) (pa_cons
          (pe_op op_add (pe_op op_add (pe_op op_mod (pe_callTy call_int1 (by rfl) T.int (by decide +kernel) (pa_cons (pv 2) pa_nil)) pe_int) (pe_op op_mul (pv 1) pe_int)) pe_int) pa_nil)) pe_int))
      (pss_cons (ps_set (i := 4) scNext.nd rfl (.inl rfl) (pe_op op_mod (pe_callTy call_int1 (by rfl) T.int (by decide +kernel) (pa_cons
          (pe_op op_add (pe_op op_add (pe_op op_mul (pv 3) (pv 3)) (pe_op op_mul (pv 1) pe_int)) pe_int) pa_nil)) pe_int))
      (pss_cons (ps_set (i := 5) scNext.nd rfl (.inl rfl) (pe_op op_mod (pe_callTy call_int1 (by rfl) T.int (by decide +kernel) (pa_cons
          (pe_op op_add (pe_op op_add (pe_op op_mul (pv 4) (pv 4)) (pv 3)) (pe_op op_mul (pe_op op_mul (pv 1) (pv 1)) pe_int)) pa_nil)) pe_int))
      (pss_one (ps_ret (pe_op op_add (pe_op op_mul (pe_op op_add (pe_op op_mul (pv 5) pe_int) (pv 4)) pe_int) (pv 3))))))))))), ?_⟩
    -- index = pen[1]; pen[1] = index + 1; cell = index * 1051 + 53
    refine ⟨.ref p, rfl, p, _, 1, .int i, rfl, rfl, SqL.of hp, atI_nat (j := 1) rfl, ?_⟩
    refine ⟨.int i, rfl, i, 1, rfl, rfl, .ref p, rfl, p, _, 1, 1, rfl, rfl, hp, rfl, ?_⟩
    refine ⟨.int i, rfl, i, 1051, rfl, rfl, .inr ⟨by decide, by decide⟩, _, 53, rfl, rfl, ?_⟩
    have hn' : (ns.map V.int).length = ns.length := List.length_map ..
    -- if pen[0] != []
    refine ⟨.ref p, rfl, p, _, 0, .ref l, rfl, rfl, SqL.of upd_same, atI_nat (j := 0) rfl, Nat.zero_le _, fun e ne => ?_⟩
    have s1 := same_upd (o := .lst []) ne
    have np : p ≠ e := ne_of_none (upd_same (H := H)) ne
    have hp1 : (upd (upd H p (.lst [.ref l, .int (i + 1), .int r])) e (.lst [])) p = some (.lst [.ref l, .int (i + 1), .int r]) := s1 _ _ upd_same
    have hl1 : (upd (upd H p (.lst [.ref l, .int (i + 1), .int r])) e (.lst [])) l = some (.lst (ns.map V.int)) := s1 _ _ (by rw [upd_ne npl.symm]; exact hl)
    have bt : But p H (upd (upd H p (.lst [.ref l, .int (i + 1), .int r])) e (.lst [])) := But.upd.trans (Same.but s1)
    have q' : ∀ v : Int, 0 ≤ v → Q (.int v) (upd (upd H p (.lst [.ref l, .int (i + 1), .int r])) e (.lst [])) := fun v hv =>
      q _ v hv ⟨⟨i + 1, r, hp1, by omega, by omega, r0⟩, ⟨ns, hl1, hn⟩, npl⟩ bt
    refine ⟨.list (ns.map .int), .list [], .lst (SqL.of (s1 _ _ (by rw [upd_ne npl.symm]; exact hl))) (dp_ints ns), .lst (SqL.of upd_same) .nil, shaped_ints ns, shaped_ints [], _, rfl, ?_⟩
    rw [eqv_nil]
    refine ite2 (fun hc => ?_) (fun hc => ?_)
    · have ne0 : ns ≠ [] := fun z => by simp [z] at hc
      have lp : 0 < ns.length := List.length_pos_iff.mpr ne0
      have k0 := Int.emod_nonneg i (show ((ns.length : Nat) : Int) ≠ 0 by omega)
      have k1 := Int.emod_lt_of_pos i (show (0 : Int) < ((ns.length : Nat) : Int) by omega)
      refine ⟨.ref p, rfl, p, _, 0, .ref l, rfl, rfl, SqL.of hp1, atI_nat (j := 0) rfl, .int i, rfl, .inl ⟨i, rfl, .ref p, rfl, p, _, 0, .ref l, rfl, rfl, SqL.of hp1, atI_nat (j := 0) rfl, l, _, rfl, .inl (SqL.of hl1), i, _, rfl, rfl, (by rw [hn']; omega), l, _, _, .int ns[(i % ((ns.length : Nat) : Int)).toNat], rfl, rfl, SqL.of hl1, ?_, ?_⟩⟩
      · refine at_of (j := (i % ((ns.length : Nat) : Int)).toNat) (by rw [hn']; omega) ?_
        rw [List.getElem?_map, List.getElem?_eq_getElem (by omega)]
        rfl
      · generalize ns[(i % ((ns.length : Nat) : Int)).toNat] = c
        refine ⟨.int i, rfl, .ref p, rfl, p, _, 0, .ref l, rfl, rfl, SqL.of hp1, atI_nat (j := 0) rfl, l, _, rfl, .inl (SqL.of hl1), _, _, rfl, rfl, _, rfl, ?_⟩
        refine ite2 (fun e1 => ⟨.int c, rfl, 10, 18, rfl, rfl, ⟨by decide, by decide, by decide⟩, _, _, rfl, rfl, _, rfl, ite2 (fun e2 => ⟨.int c, rfl, q' c ?_⟩) (fun e2 => ?_)⟩) (fun e1 => ?_)
        · have z := of_decide_eq_true e2
          exact Int.le_trans (by decide) z
        all_goals
          refine ⟨.int c, rfl, .inl ⟨c, rfl, c, 2147483587, rfl, rfl, p1, .int i, rfl, i, 30103, rfl, rfl, .inr ⟨by decide, by decide⟩, _, _, rfl, rfl, _, _, rfl, rfl, .inl ⟨_, rfl, _, _, rfl, rfl, p1, ?_⟩⟩⟩
          refine ⟨_, rfl, _, rfl, _, _, rfl, rfl, cm (by decide) (by decide), .int i, rfl, i, 70039, rfl, rfl, .inr ⟨by decide, by decide⟩, _, _, rfl, rfl, _, _, rfl, rfl, .inl ⟨_, rfl, _, _, rfl, rfl, p2, ?_⟩⟩
          refine ⟨_, rfl, _, rfl, _, _, rfl, rfl, cm (by decide) (by decide), _, rfl, _, _, rfl, rfl, .int i, rfl, .int i, rfl, i, i, rfl, rfl, .inl ⟨by omega, by omega⟩, _, _, rfl, rfl, .inr ⟨by decide, by decide⟩, _, _, rfl, rfl, .inl ⟨_, rfl, _, _, rfl, rfl, p3, ?_⟩⟩
          refine ⟨_, rfl, _, _, rfl, rfl, cm (by decide) (by decide), _, rfl, _, _, rfl, rfl, _, _, rfl, rfl, .inr ⟨by decide, by decide⟩, _, rfl, _, _, rfl, rfl, ?_⟩
          exact q' _ (big_nonneg (Int.emod_nonneg _ (by decide)) (Int.emod_nonneg _ (by decide)) (Int.emod_nonneg _ (by decide)))
    · refine ⟨.int i, rfl, .ref p, rfl, p, _, 0, .ref l, rfl, rfl, SqL.of hp1, atI_nat (j := 0) rfl, l, _, rfl, .inl (SqL.of hl1), _, _, rfl, rfl, _, rfl, ?_⟩
      refine ite2 (fun e1 => ⟨_, rfl, 10, 18, rfl, rfl, ⟨by decide, by decide, by decide⟩, _, _, rfl, rfl, _, rfl, ite2 (fun e2 => ⟨_, rfl, q' _ ?_⟩) (fun e2 => ?_)⟩) (fun e1 => ?_)
      · have z := of_decide_eq_true e2
        exact Int.le_trans (by decide) z
      all_goals
        refine ⟨_, rfl, .inl ⟨_, rfl, _, 2147483587, rfl, rfl, p1, .int i, rfl, i, 30103, rfl, rfl, .inr ⟨by decide, by decide⟩, _, _, rfl, rfl, _, _, rfl, rfl, .inl ⟨_, rfl, _, _, rfl, rfl, p1, ?_⟩⟩⟩
        refine ⟨_, rfl, _, rfl, _, _, rfl, rfl, cm (by decide) (by decide), .int i, rfl, i, 70039, rfl, rfl, .inr ⟨by decide, by decide⟩, _, _, rfl, rfl, _, _, rfl, rfl, .inl ⟨_, rfl, _, _, rfl, rfl, p2, ?_⟩⟩
        refine ⟨_, rfl, _, rfl, _, _, rfl, rfl, cm (by decide) (by decide), _, rfl, _, _, rfl, rfl, .int i, rfl, .int i, rfl, i, i, rfl, rfl, .inl ⟨by omega, by omega⟩, _, _, rfl, rfl, .inr ⟨by decide, by decide⟩, _, _, rfl, rfl, .inl ⟨_, rfl, _, _, rfl, rfl, p3, ?_⟩⟩
        refine ⟨_, rfl, _, _, rfl, rfl, cm (by decide) (by decide), _, rfl, _, _, rfl, rfl, _, _, rfl, rfl, .inr ⟨by decide, by decide⟩, _, rfl, _, _, rfl, rfl, ?_⟩
        exact q' _ (big_nonneg (Int.emod_nonneg _ (by decide)) (Int.emod_nonneg _ (by decide)) (Int.emod_nonneg _ (by decide)))
theorem ok_draw {f fN : Addr} {fd fdN : FuncData} {k : Nat} (F : Fun K "_law_draw" "_law_draw" sDraw f fd) (T : TxtP mg) (FN : Fun K "_law_next" "_law_next" sNext fN fdN) (bN : Binds K fdN ["pen"] []) (gN : mg "_law_next" = some (.ref fN)) :
    FnOk P w K mg base CX0 (k + 2) f fd ["pen", "under"] spDraw := by
  have GN : FnOk P w K mg base CX0 (k + 1) fN fdN ["pen"] spNext := ok_next FN T
  refine F.ok scDraw (fun vs H Q E h => ?_) (fun cdv A outer s H vs Q E hr h => ?_)
  · obtain ⟨p, l, N, u, rfl, _⟩ := h
    rfl
  · obtain ⟨p, l, N, u, rfl, PA0, hN, u0, u1, q⟩ := h
    refine ⟨_, pss_cons (ps_if (pt_cmpR op_lt (pe_ix ix_list (pv 0) pe_int (fun _ _ => rfl)) (pv 1) (nomark _))
        (pss_one (ps_asg (pe_call GN hr (by rfl) gN FN.kp bN .nil pass0 (pa_cons (pv 0) pa_nil)) (pg_sub (pv 0) pe_int set_list))) pss_nil)
      (pss_cons (ps_set (i := 2) scDraw.nd rfl (.inl rfl) (pe_op op_modN (pe_callTy call_int1 (by rfl) T.int (by decide +kernel) (pa_cons (pe_ix ix_list (pv 0) pe_int (fun _ _ => rfl)) pa_nil)) (pv 1)))
      (pss_cons (ps_asg (pe_op op_fdivN (pe_ix ix_list (pv 0) pe_int (fun _ _ => rfl)) (pv 1)) (pg_sub (pv 0) pe_int set_list))
      (pss_one (ps_ret (pv 2))))), ?_⟩
    have rest : ∀ (H1 : Hp), PenAt H1 p l (N + 1) → But p H H1 → ∃ i x : Int, H1 p = some (.lst [.ref l, .int i, .int x]) ∧ 0 ≤ x ∧ 0 ≤ x.fmod u ∧ x.fmod u < u ∧
        (∀ H3, H3 = upd H1 p (.lst [.ref l, .int i, .int (x.fdiv u)]) → Q (.int (x.fmod u)) H3) := by
      intro H1 PA1 b1
      obtain ⟨⟨i, x, hp, i0, i1, x0⟩, ⟨ns, hl, hn⟩, npl⟩ := PA1
      have m0 : x.fmod u = x % u := Int.fmod_eq_emod_of_nonneg x (by omega)
      have d0 : x.fdiv u = x / u := Int.fdiv_eq_ediv_of_nonneg x (by omega)
      have k0 := Int.emod_nonneg x (show u ≠ 0 by omega)
      have k1 := Int.emod_lt_of_pos x u0
      have k2 : 0 ≤ x / u := Int.ediv_nonneg x0 (by omega)
      refine ⟨i, x, hp, x0, by omega, by omega, fun H3 e3 => ?_⟩
      subst e3
      exact q _ _ (by omega) (by omega) ⟨⟨i, _, upd_same, i0, by omega, by omega⟩, ⟨ns, by rw [upd_ne npl.symm]; exact hl, hn⟩, npl⟩ (b1.trans But.upd)
    have P0 := id PA0
    obtain ⟨⟨i, x, hp, i0, i1, x0⟩, ⟨ns, hl, hn⟩, npl⟩ := P0
    refine ⟨.ref p, rfl, p, _, 2, .int x, rfl, rfl, SqL.of hp, atI_nat (j := 2) rfl, .int u, rfl, _, _, rfl, rfl, _, rfl, ite2 (fun e => ?_) (fun e => ?_)⟩
    · refine ⟨.ref p, rfl, p, l, N, rfl, PA0, hN, fun H1 v v0 PA1 b1 => ?_⟩
      obtain ⟨⟨j, y, hp1, j0, j1, y0⟩, ⟨ms, hl1, hm⟩, _⟩ := id PA1
      have PA2 : PenAt (upd H1 p (.lst [.ref l, .int j, .int v])) p l (N + 1) := ⟨⟨j, v, upd_same, j0, j1, v0⟩, ⟨ms, by rw [upd_ne npl.symm]; exact hl1, hm⟩, npl⟩
      obtain ⟨j2, z, hp2, z0, f0, f1, q2⟩ := rest _ PA2 (b1.trans But.upd)
      refine ⟨.ref p, rfl, p, _, 2, 2, rfl, rfl, hp1, rfl, ?_⟩
      refine ⟨.ref p, rfl, p, _, 2, .int z, rfl, rfl, SqL.of hp2, atI_nat (j := 2) rfl, .inl ⟨z, rfl, .int u, rfl, z, u, rfl, rfl, (by omega), ?_⟩⟩
      refine ⟨.ref p, rfl, p, _, 2, .int z, rfl, rfl, SqL.of hp2, atI_nat (j := 2) rfl, .int u, rfl, z, u, rfl, rfl, ⟨by omega, by omega⟩, .ref p, rfl, p, _, 2, 2, rfl, rfl, hp2, rfl, ?_⟩
      exact ⟨_, rfl, q2 _ rfl⟩
    · obtain ⟨j2, z, hp2, z0, f0, f1, q2⟩ := rest H (PA0.more (by omega)) (But.refl p H)
      refine ⟨.ref p, rfl, p, _, 2, .int z, rfl, rfl, SqL.of hp2, atI_nat (j := 2) rfl, .inl ⟨z, rfl, .int u, rfl, z, u, rfl, rfl, (by omega), ?_⟩⟩
      refine ⟨.ref p, rfl, p, _, 2, .int z, rfl, rfl, SqL.of hp2, atI_nat (j := 2) rfl, .int u, rfl, z, u, rfl, rfl, ⟨by omega, by omega⟩, .ref p, rfl, p, _, 2, 2, rfl, rfl, hp2, rfl, ?_⟩
      exact ⟨_, rfl, q2 _ rfl⟩
end
end Cv

/-! the law's own call, from the caller that stands around it (nothing is being written as a text there), and repr of data -/
namespace CvG
open PySem PySem.Spec PyProof.Rows L2
section
variable {P : Program} {w : World} {K : PySem.W.Frag} {mg : Str → Option Value} {base : Heap}
/-- what a law's def promises when the row's caller calls it -/
def LawRun (P : Program) (w : World) (K : PySem.W.Frag) (mg : Str → Option Value) (base : Heap) (f : Addr) (sp : Sp) : Prop :=
  ∀ (st : Shared) (G : Hp) (a : Addr) (Q : VK), Env0 P w K mg base callerA [] st G → sp [.ref a] G Q (fun _ _ _ => False) →
    codeAny (model P w) callerA (.call (.ref f) ⟨[.ref a], []⟩) (CR CX0 [] P w G st Q (fun _ _ _ => False)) st
theorem law_of {x qual y : Str} {st : Stmt} {f : Addr} {fd : FuncData} {N : List Str} {sp : Sp} {k : Nat} (F : Fun K x qual st f fd) (S : FnScope N [y] (defScope st)) (hr : Room (k + 1) callerA)
    (hb : ∀ (m : Shared) (u : Value), BindsTo m fd ⟨[u], []⟩ [(y, u)])
    (walk : ∀ (cdv : Value) (m : Shared) (G : Hp) (vs : List V) (Q : VK) (E : XK), Room k (callerA.deeper (envOfC qual (defScope st) m.heap.objs.size f cdv)) → sp vs G Q E →
      ∃ t, PSs (cxOf CX0 P w K mg base N qual (defScope st) f cdv callerA [] m G E).nox (defBody st) t ∧ t { nx := fun _ H' => Q .non H', rt := Q } (start N vs) G) : LawRun P w K mg base f sp := by
  intro m G a Q e0 hsp
  obtain ⟨oc, od, kV, doc, pm, an, cdv, ct, osl, efd, lk, hcd⟩ := F.ex
  subst efd
  have inK : K.In m.heap := e0.mod.kin.keeps fun b o z => (e0.bs b o z).1
  have free : m.heap.NoLimit := e0.mod.nolimit.keeps fun b o z => (e0.bs b o z).1
  have names : ∀ z ∈ [(y, Value.ref a)], (defScope st).names.lookup z.1 = some .local ∨ ((defScope st).names.lookup z.1 = some .cell ∧ ((cellsFrom (m.heap.objs.size + 1) (defScope st).names []).lookup z.1).isSome = true) := by
    intro z hz
    obtain rfl := List.mem_singleton.mp hz
    exact (S.par y (by simp)).elim .inl fun c => .inr ⟨c, PySem.W.cellsFrom_some _ _ _ (.inl c)⟩
  refine codeAny_call_function hr.depth (inK _ _ lk) rfl S.co S.gen rfl (PySem.W.codeRec_of inK hcd) ?_
  refine hb m (.ref a) _ _ _ _ ?_
  refine wpAny_newFunctionEnv_cells S.kind names fun env hE m1 C => ?_
  subst hE
  refine ⟨free.keeps C.toInCall.keep, codeAny_func ?_⟩
  obtain ⟨t, ht, q⟩ := walk cdv m G [.ref a] Q (fun _ _ _ => False) (hr.deeper _) hsp
  have J : Inv (cxOf CX0 P w K mg base N qual (defScope st) f cdv callerA [] m G fun _ _ _ => False) [] (start N [.ref a]) G m1 :=
    inv_start S hr.hd e0 rfl (us := [.ref a]) (.cons rfl .nil) C
  refine wpAny_mono (ht.nox.run [] m1 (start N [.ref a]) G _ J q) (fun fl z h => ?_) fun _ _ h => h
  match fl, h with
  | .ret u, ⟨v, s2, G2, J2, rv, q2⟩ => exact ⟨v, G2, J2.os, J2.bare, J2.base, J2.hok, rv, q2⟩
  | .next, ⟨s2, G2, J2, q2⟩ => exact ⟨V.non, G2, J2.os, J2.bare, J2.base, J2.hok, rfl, q2⟩
  | .brk, ⟨_, _, _, no⟩ => exact no.elim
  | .cont, ⟨_, _, _, no⟩ => exact no.elim
/-- from the state behind the top to the call: the script alone may be tracked, as a list that is only read -/
theorem law_goes {l : PySem.W.OpenLaw} {n : Nat} {q : Program} {loose : List Str} {XP : (Str → Option Value) → Heap → Prop} {YP : World → Heap → Prop} {d : DefRec} {K : Params → PySem.W.Frag} {sp : PySem.W.Frag → Sp}
    (hn : l.most = some n) (hn2 : n ≤ sizeLine) (hdf : d.params.defaults = []) (hY : ∀ (w : World) (h : Heap), YP w h → (K w.params).In h)
    (F : ∀ (w : World) (mg : Str → Option Value) (fa : Addr) (h : Heap), (K w.params).In h → h.Ns mainGlobals mg → mg d.name = some (.ref fa) →
      ∀ base : Heap, (K w.params).In base → base.Ns mainGlobals mg → LawRun l.prog w (K w.params) mg base fa (sp (K w.params)))
    (hsp : ∀ (K : PySem.W.Frag) (G : Hp) (a : Addr) (ns : List Int), ns.length ≤ n → SqL K G a (ns.map V.int) → sp K [.ref a] G (fun v _ => v = .bl true) fun _ _ _ => False) :
    PySem.W.WalkO q loose XP YP l.row.toRowW d [] (fun f vs => PySem.call f vs) := by
  refine Att.attach_call hn hdf fun w s0 m mg mb fa o pm cd doc a us ns GR Y _ _ _ hmg hobj hints hlen hg => ?_
  have inK := hY w _ Y
  have go := F w mg fa _ inK GR.T.g hmg
  have lays := vals_ints hints
  have size := hints.length
  -- the tracked heap: empty where the module itself holds the script, else the script
  obtain ⟨G, isG, gK, sq⟩ : ∃ G : Hp, (∀ b u, G b = some u → b = a ∧ u = .frz { cls := .type "list", data := .seq us.toArray } (.lst (ns.map V.int))) ∧ (G a ≠ none → (K w.params).lookup a = none) ∧ SqL (K w.params) G a (ns.map V.int) := by
    cases known : (K w.params).lookup a with
    | some o =>
      have eo := inK a o known
      rw [hobj] at eo
      obtain rfl := Option.some.inj eo
      exact ⟨fun _ => none, (fun _ _ z => nomatch z), (fun z => (z rfl).elim), .inr ⟨_, us.toArray, _, known, rfl, rfl, rfl, by rw [List.size_toArray, size]; exact Nat.le_trans hlen hn2, by simpa using lays⟩⟩
    | none =>
      refine ⟨fun b => if b = a then some (.frz { cls := .type "list", data := .seq us.toArray } (.lst (ns.map V.int))) else none, fun b u z => ?_, fun _ => rfl, .inl (.inr ⟨_, if_pos rfl⟩)⟩
      by_cases e : b = a
      · exact ⟨e, (Option.some.inj ((if_pos e).symm.trans z)).symm⟩
      · exact absurd ((if_neg e).symm.trans z) (by simp)
  have unt : ∀ b, b ≠ a → G b = none := fun b nb => by
    cases z : G b with
    | none => rfl
    | some u => exact absurd (isG b u z).1 nb
  have still : ∀ (b : Addr) (u : Obj) (es : Array DictEntry) (c : Nat), m.heap.get? b = some u → u.data = .dict es c → G b = none := fun b u es c e z => unt b fun y => by
    rw [y, hobj] at e
    obtain rfl := Option.some.inj e
    exact Data.noConfusion z
  have ns' : ∀ {b : Addr} {mm : Str → Option Value}, m.heap.Ns b mm → (hidT m.heap G).Ns b mm := fun {b mm} ⟨u, es, c, e, z, r⟩ => ⟨u, es, c, hidT_get e (still b u es c e z), z, r⟩
  have inB : (K w.params).In (hidT m.heap G) := fun b u e => hidT_get (inK b u e) (by
    by_cases nb : b = a
    · cases z : G b with
      | none => rfl
      | some v =>
        subst nb
        rw [gK (by rw [z]; simp)] at e
        cases e
    · exact unt b nb)
  have heapOk : HOk l.prog w G m.heap := fun b u z => by
    obtain ⟨rfl, rfl⟩ := isG b u z
    exact ⟨hobj, by rw [List.length_map]; exact Nat.le_trans hlen hn2, us, _, lays, hobj⟩
  have envs : Env0 l.prog w (K w.params) mg (hidT m.heap G) callerA [] m G := by
    refine ⟨rfl, ⟨inB, ns' GR.T.g, ⟨mb, ns' GR.T.b, GR.T.builtins⟩, ?_⟩, (fun b u e => of_hidT e), Nat.le_of_eq (hidT_size _ _), trivial, (fun b z => nomatch z), heapOk, AllBare.of_eq hg⟩
    obtain ⟨mc, c1, c2⟩ := GR.T.nolimit
    exact ⟨mc, ns' c1, c2⟩
  refine codeAny_mono (go _ inB (ns' GR.T.g) m G a _ envs (hsp _ G a ns hlen sq)) fun r s2 h => ?_
  match r, h with
  | .error e, h => exact h.elim
  | .ok .next, h => exact h.elim
  | .ok .brk, h => exact h.elim
  | .ok .cont, h => exact h.elim
  | .ok (.ret u), ⟨v, G2, os2, bare2, un2, ok2, rv, ev⟩ =>
    have ev' : v = .bl true := ev
    subst ev'
    obtain rfl : u = Value.bool true := rv
    refine ⟨rfl, OldK.of_keep fun b x e => ?_, os2, bare2⟩
    cases z : G b with
    | none => exact un2.keep b x e z (by intro y; exact nomatch y) (by intro y; exact nomatch y)
    | some y =>
      obtain ⟨rfl, rfl⟩ := isG b y z
      obtain ⟨y2, _⟩ := ok2 b _ (un2.frzs b _ _ z)
      rw [hobj] at e
      rw [← Option.some.inj e]
      exact y2
/-- repr of data: None, bools, ints, texts, lists, tuples of such -/
def rRepr (K : PySem.W.Frag) : List V → Hp → VK → Prop := fun xs H Q => ∃ (x : V) (d : PyData), xs = [x] ∧ Dp K H x d ∧ d.showable = true ∧ d.hasDict = false ∧ d.depth ≤ 30 ∧ d.shown.length ≤ sizeLine ∧ Q (.str d.shown) H
section
variable {X : Cx}
theorem call_repr (hg : X.A.guards = some []) (hu : X.A.units + 64 < cLine) : CallR X (.builtin "repr") (rRepr X.K) := by
  intro pins s σ H xs us Q I r h
  obtain ⟨x, d, rfl, dp, sh, nd, hd, sz, q⟩ := h
  obtain ⟨u, rfl, rx⟩ := vals1 r
  obtain ⟨as, rd⟩ := Dp.reads I d x u dp rx
  have hk : ∀ (h' : Heap) (u : Tok) (tk : Nat), (∀ b o, s.heap.get? b = some o → h'.get? b = some o) → EP X pins σ Q (.str d.shown u) { s with heap := h', toks := tk } :=
    fun h' u tk k => ⟨.str d.shown, H, I.kept (t' := tk) k, ⟨_, rfl⟩, q⟩
  cases d with
  | none =>
    cases dp
    cases rx
    refine PySem.P.repr_of_none ?_
    have z := hk s.heap s.toks (s.toks + 1) fun _ _ e => e
    simpa only [PyData.shown] using z
  | bool b =>
    cases dp
    cases rx
    refine PySem.P.repr_of_bool ?_
    have z := hk s.heap s.toks (s.toks + 1) fun _ _ e => e
    cases b <;> simpa [PyData.shown] using z
  | int i =>
    cases dp
    obtain ⟨t, rfl⟩ := rx
    refine PySem.P.repr_of_int (of_decide_eq_true (by simpa [PyData.showable] using sh)) ?_
    have z := hk s.heap s.toks (s.toks + 1) fun _ _ e => e
    simpa only [PyData.shown] using z
  | str y =>
    cases dp
    obtain ⟨t, rfl⟩ := rx
    have z := hk s.heap s.toks (s.toks + 1) fun _ _ e => e
    simp only [PyData.shown] at z sz
    exact PySem.P.repr_of_str z sz
  | list ds =>
    cases dp with
    | lst e1 e2 =>
      obtain rfl := rx
      exact repr_of_reads' rd sh (fun z => by rw [nd] at z; cases z) hg (by omega) (fun _ _ e => e) hk sz
  | tuple ds =>
    cases dp with
    | tup e1 e2 =>
      obtain rfl := rx
      exact repr_of_reads' rd sh (fun z => by rw [nd] at z; cases z) hg (by omega) (fun _ _ e => e) hk sz
  | dict kvs => cases dp
end
end
end CvG

namespace Cv
open PySem PySem.Spec PyProof.Rows L2
/-! any data, an empty dict among it -/
mutual
inductive Dq (K : PySem.W.Frag) (H : Hp) : V → PyData → Prop
  | non : Dq K H .non .none
  | bl (b : Bool) : Dq K H (.bl b) (.bool b)
  | int (i : Int) : Dq K H (.int i) (.int i)
  | str (x : Str) : Dq K H (.str x) (.str x)
  | lst {a : Addr} {xs : List V} {ds : List PyData} : SqL K H a xs → DqAll K H xs ds → Dq K H (.ref a) (.list ds)
  | tup {a : Addr} {xs : List V} {ds : List PyData} : SqT K H a xs → DqAll K H xs ds → Dq K H (.ref a) (.tuple ds)
  | emp {a : Addr} : H a = some (.dK []) → Dq K H (.ref a) (.dict [])
inductive DqAll (K : PySem.W.Frag) (H : Hp) : List V → List PyData → Prop
  | nil : DqAll K H [] []
  | cons {v : V} {vs : List V} {d : PyData} {ds : List PyData} : Dq K H v d → DqAll K H vs ds → DqAll K H (v :: vs) (d :: ds)
end
def tyD : PyData → String
  | .none => "NoneType"
  | .bool _ => "bool"
  | .int _ => "int"
  | .str _ => "str"
  | .list _ => "list"
  | .tuple _ => "tuple"
  | .dict _ => "dict"
theorem Dq.ty {K : PySem.W.Frag} {H : Hp} {v : V} {d : PyData} (h : Dq K H v d) : TyB K H v (tyD d) := by
  cases h with
  | non => exact .non
  | bl b => exact .bl b
  | int i => exact .int i
  | str x => exact .str x
  | lst h _ => exact .lst h
  | tup h _ => exact .tup h
  | emp h => exact .dK h
def isRoomD : PyData → Bool
  | .int i => decide (0 ≤ i) && decide (i ≤ 99)
  | _ => false
def lessD : PyData → PyData → Bool
  | .int i, .int j => decide (i < j)
  | _, _ => false
def isWayD : PyData → Bool
  | .tuple [x, y] => isRoomD x && (isRoomD y && lessD x y)
  | _ => false
abbrev sRoom : Stmt := topS 4
abbrev sWay : Stmt := topS 5
abbrev sAsc : Stmt := topS 6
abbrev sIsC : Stmt := topS 7
abbrev sChk : Stmt := topS 8
theorem scRoom : FnScope ["thing"] ["thing"] (defScope sRoom) := ⟨rfl, rfl, rfl, by decide +kernel, rfl, by decide +kernel, by decide +kernel⟩
theorem scWay : FnScope ["thing", "room", "other"] ["thing"] (defScope sWay) := ⟨rfl, rfl, rfl, by decide +kernel, rfl, by decide +kernel, by decide +kernel⟩
theorem scAsc : FnScope ["thing", "at", "way"] ["thing"] (defScope sAsc) := ⟨rfl, rfl, rfl, by decide +kernel, rfl, by decide +kernel, by decide +kernel⟩
theorem scIsC : FnScope ["thing"] ["thing"] (defScope sIsC) := ⟨rfl, rfl, rfl, by decide +kernel, rfl, by decide +kernel, by decide +kernel⟩
theorem scChk : FnScope ["cave"] ["cave"] (defScope sChk) := ⟨rfl, rfl, rfl, by decide +kernel, rfl, by decide +kernel, by decide +kernel⟩
structure TxtC (mg : Str → Option Value) : Prop where
  ty : mg "type" = none
  int : mg "int" = none
  tup : mg "tuple" = none
  len : mg "len" = none
  enm : mg "enumerate" = none
def spD (K : PySem.W.Frag) (f : PyData → Bool) : Sp := fun vs H Q _ => ∃ (v : V) (d : PyData), vs = [v] ∧ Dq K H v d ∧ ∀ H', Same H H' → Q (.bl (f d)) H'
section
variable {P : Program} {w : World} {K : PySem.W.Frag} {mg : Str → Option Value} {base : Heap}
theorem boot_ty : bootBuiltins "type" = some (.type "type") := by decide +kernel
theorem boot_in : bootBuiltins "int" = some (.type "int") := by decide +kernel
theorem boot_tu : bootBuiltins "tuple" = some (.type "tuple") := by decide +kernel
theorem ok_room {f : Addr} {fd : FuncData} {k : Nat} (F : Fun K "is_room" "is_room" sRoom f fd) (T : TxtC mg) : FnOk P w K mg base CX0 (k + 1) f fd ["thing"] (spD K isRoomD) := by
  refine F.ok scRoom (fun vs H Q E h => ?_) (fun cdv A outer s H vs Q E hr h => ?_)
  · obtain ⟨v, d, rfl, _⟩ := h
    rfl
  · obtain ⟨v, d, rfl, hd, q⟩ := h
    refine ⟨_, pss_one (ps_ret (pe_and (pe_cmpR op_isTyB (pe_callTy call_type1 (by rfl) T.ty boot_ty (pa_cons (pv 0) pa_nil)) (pe_bltn (v := .ty "int") (by rfl) T.int boot_in rfl) (nomark _)) (pe_one (pe_chain op_le op_le pe_int (pv 0) pe_int)))), ?_⟩
    have q' := q H (Same.refl H)
    refine ⟨v, rfl, v, tyD d, rfl, hd.ty, _, _, rfl, rfl, _, rfl, ite2 (fun e => ?_) (fun e => ?_)⟩
    · have e' : tyD d = "int" := of_decide_eq_true e
      cases hd with
      | int i =>
        refine ⟨.int i, rfl, _, _, rfl, rfl, _, rfl, ite2 (fun e1 => ⟨_, _, rfl, rfl, ?_⟩) (fun e1 => ?_)⟩
        · have z : isRoomD (.int i) = decide (i ≤ 99) := by
            show (decide (0 ≤ i) && decide (i ≤ 99)) = _
            rw [e1, Bool.true_and]
          rw [z] at q'
          exact q'
        · have z : isRoomD (.int i) = false := by
            show (decide (0 ≤ i) && decide (i ≤ 99)) = _
            rw [Bool.eq_false_iff.mpr e1, Bool.false_and]
          rw [z] at q'
          exact q'
      | non => simp [tyD] at e'
      | bl b => simp [tyD] at e'
      | str x => simp [tyD] at e'
      | lst _ _ => simp [tyD] at e'
      | tup _ _ => simp [tyD] at e'
      | emp _ => simp [tyD] at e'
    · cases hd with
      | int i => exact absurd (decide_eq_true rfl) e
      | non => exact q'
      | bl b => exact q'
      | str x => exact q'
      | lst _ _ => exact q'
      | tup _ _ => exact q'
      | emp _ => exact q'
/-- a tuple's items -/
theorem Dq.tup_inv {H : Hp} {v : V} {ds : List PyData} (h : Dq K H v (.tuple ds)) : ∃ a xs, v = .ref a ∧ SqT K H a xs ∧ DqAll K H xs ds := by
  cases h with
  | tup h1 h2 => exact ⟨_, _, rfl, h1, h2⟩
theorem DqAll.len {H : Hp} : ∀ {xs : List V} {ds : List PyData}, DqAll K H xs ds → xs.length = ds.length
  | _, _, .nil => rfl
  | _, _, .cons _ r => congrArg (· + 1) r.len
theorem SqT.up {H H' : Hp} {a : Addr} {xs : List V} (e : Same H H') (h : SqT K H a xs) : SqT K H' a xs := by
  rcases h with (h | ⟨o, h⟩) | h
  · exact .inl (.inl (e _ _ h))
  · exact .inl (.inr ⟨o, e _ _ h⟩)
  · exact .inr h
mutual
theorem Dq.up {H H' : Hp} (e : Same H H') : ∀ {v : V} (d : PyData), Dq K H v d → Dq K H' v d
  | _, .none, h => by cases h; exact .non
  | _, .bool _, h => by cases h; exact .bl _
  | _, .int _, h => by cases h; exact .int _
  | _, .str _, h => by cases h; exact .str _
  | _, .list ds, h => by
    cases h with
    | lst h1 h2 => exact .lst (e.seq h1) (DqAll.up e ds h2)
  | _, .tuple ds, h => by
    cases h with
    | tup h1 h2 => exact .tup (SqT.up e h1) (DqAll.up e ds h2)
  | _, .dict _, h => by
    cases h with
    | emp h1 => exact .emp (e _ _ h1)
theorem DqAll.up {H H' : Hp} (e : Same H H') : ∀ {vs : List V} (ds : List PyData), DqAll K H vs ds → DqAll K H' vs ds
  | _, [], h => by cases h; exact .nil
  | _, d :: ds, h => by
    cases h with
    | cons h1 h2 => exact .cons (Dq.up e d h1) (DqAll.up e ds h2)
end
theorem way_not {d : PyData} (h : tyD d ≠ "tuple") : isWayD d = false := by
  cases d <;> first | rfl | exact absurd rfl h
theorem way_len {ds : List PyData} (h : ds.length ≠ 2) : isWayD (.tuple ds) = false := by
  match ds, h with
  | [], _ => rfl
  | [_], _ => rfl
  | [_, _], h => exact absurd rfl h
  | _ :: _ :: _ :: _, _ => rfl
theorem way_two (x y : PyData) : isWayD (.tuple [x, y]) = (isRoomD x && (isRoomD y && lessD x y)) := rfl
theorem ok_way {f fR : Addr} {fd fdR : FuncData} {k : Nat} (F : Fun K "is_way" "is_way" sWay f fd) (T : TxtC mg) (FR : Fun K "is_room" "is_room" sRoom fR fdR) (bR : Binds K fdR ["thing"] []) (gR : mg "is_room" = some (.ref fR)) :
    FnOk P w K mg base CX0 (k + 2) f fd ["thing"] (spD K isWayD) := by
  have GR : FnOk P w K mg base CX0 (k + 1) fR fdR ["thing"] (spD K isRoomD) := ok_room FR T
  refine F.ok scWay (fun vs H Q E h => ?_) (fun cdv A outer s H vs Q E hr h => ?_)
  · obtain ⟨v, d, rfl, _⟩ := h
    rfl
  · obtain ⟨v, d, rfl, hd, q⟩ := h
    refine ⟨_, pss_cons (ps_if (PW.pt (pw_or (pt_cmpR op_notTyB (pe_callTy call_type1 (by rfl) T.ty boot_ty (pa_cons (pv 0) pa_nil)) (pe_bltn (v := .ty "tuple") (by rfl) T.tup boot_tu rfl) (nomark _))
          (pw_or1 (pt_cmpR op_ne (pe_callB call_len_seq (by rfl) T.len PySem.boot_len (pa_cons (pv 0) pa_nil)) pe_int (nomark _))))) (pss_one (ps_ret pe_bl)) pss_nil)
      (pss_cons (ps_asg (pv 0) (pg_tup (by rfl) (pgs_cons (pg_name (i := 1) scWay.nd rfl (.inl rfl)) (pgs_cons (pg_name (i := 2) scWay.nd rfl (.inl rfl)) pgs_nil))))
      (pss_one (ps_ret (pe_and (pe_call GR hr (by rfl) gR FR.kp bR .nil pass0 (pa_cons (pv 1) pa_nil)) (pe_and (pe_call GR hr (by rfl) gR FR.kp bR .nil pass0 (pa_cons (pv 2) pa_nil)) (pe_one (pe_cmpR op_lt (pv 1) (pv 2) (nomark _)))))))), ?_⟩
    have q0 := q H (Same.refl H)
    refine ⟨v, rfl, v, tyD d, rfl, hd.ty, _, _, rfl, rfl, _, rfl, ite2 (fun e => ?_) (fun e => ?_)⟩
    · rw [way_not (fun z => by rw [z] at e; simp at e)] at q0
      exact q0
    · have e' : tyD d = "tuple" := by simpa using e
      obtain ⟨ds, rfl⟩ : ∃ ds, d = .tuple ds := by cases d <;> first | exact ⟨_, rfl⟩ | (simp [tyD] at e')
      obtain ⟨a, xs, rfl, hT, hA⟩ := hd.tup_inv
      refine ⟨.ref a, rfl, a, xs, rfl, .inr hT, rfl, _, rfl, ite2 (fun e2 => ?_) (fun e2 => ?_)⟩
      · rw [way_len (fun z => by rw [← hA.len] at z; rw [z] at e2; simp at e2)] at q0
        exact q0
      · have l2 : xs.length = 2 := by
          have z : decide (V.int ((xs.length : Nat) : Int) = V.int 2) = true := by simpa using e2
          have := V.int.inj (of_decide_eq_true z)
          omega
        obtain ⟨x, y, rfl⟩ : ∃ x y, xs = [x, y] := by
          match xs, l2 with
          | [x, y], _ => exact ⟨x, y, rfl⟩
        cases hA with
        | cons dx hA =>
          rename_i d1 _
          cases hA with
          | cons dy hA =>
            rename_i d2 _
            cases hA
            refine ⟨.ref a, rfl, a, [x, y], rfl, hT, rfl, x, [y], rfl, y, [], rfl, rfl, ?_⟩
            refine ⟨x, rfl, x, d1, rfl, dx, fun H1 s1 => ⟨_, rfl, ite2 (fun e3 => ?_) (fun e3 => ?_)⟩⟩
            · refine ⟨y, rfl, y, d2, rfl, Dq.up s1 _ dy, fun H2 s2 => ⟨_, rfl, ite2 (fun e4 => ?_) (fun e4 => ?_)⟩⟩
              · have q2 := q H2 (s1.trans s2)
                rw [way_two, e3, e4, Bool.true_and, Bool.true_and] at q2
                cases dx with
                | int i =>
                  cases dy with
                  | int j => exact ⟨_, rfl, _, rfl, _, _, rfl, rfl, q2⟩
                  | _ => simp [isRoomD] at e4
                | _ => simp [isRoomD] at e3
              · have q2 := q H2 (s1.trans s2)
                rw [way_two, e3, Bool.eq_false_iff.mpr e4, Bool.true_and, Bool.false_and] at q2
                exact q2
            · have q2 := q H1 s1
              rw [way_two, Bool.eq_false_iff.mpr e3, Bool.false_and] at q2
              exact q2
end
end Cv

/-! enumerate of a tuple; t >= u of two pairs of ints -/
namespace CvT
open PySem PySem.Spec PyProof.Rows L2
open AutoSeq1 (wpAny_loadPart')
theorem meetsT (l : Addr) (items : Array Value) (n : Nat) (dct : Option Addr) (sl : Array (Option Value)) :
    Meets (Builtin.«enumerate.__new__» ⟨[.type "enumerate", .ref l], []⟩) (fun _ R m => m.heap.get? l = some { cls := .type "tuple", dict := dct, data := .seq items n, slots := sl } ∧
      R (.ok (.ret (.ref (m.heap.push { cls := .type "tuple_iterator", data := .fields #[.ref l, .int 0 0] }).objs.size)))
        { m with heap := (m.heap.push { cls := .type "tuple_iterator", data := .fields #[.ref l, .int 0 0] }).push { cls := .type "enumerate", data := .fields #[.none, .bool false, .ref m.heap.objs.size, rawInt 0, .none, .none] } }) :=
  .of_wp fun prog w A R m h => by
    obtain ⟨hp, g, d, tk, os⟩ := m
    obtain ⟨hl, h⟩ := h
    have isSub := sub_enumerate
    have hT : Heap.IsTuple (Shared.heap ⟨hp, g, d, tk, os⟩) l items := ⟨_, hl, rfl, n, rfl⟩
    wp_walk using wpAny_loadPart' hl
    refine wpAny_stack_any fun st => wpAny_pure ?_
    split
    · rename_i c _ _ _ _ _
      cases (c == Value.type "enumerate") <;> (wp_walk using wpAny_loadPart' hl, wpAny_pyIter_tuple hT; exact ⟨_, rfl, h⟩)
    · wp_walk using wpAny_loadPart' hl, wpAny_pyIter_tuple hT
      exact ⟨_, rfl, h⟩
theorem call_enumT {prog : Program} {w : World} {A : Around} {E : Value → Shared → Prop} {s : Shared} {l : Addr} {items : Array Value} {Q : Value → Shared → Prop} (hT : s.heap.IsTuple l items)
    (then_ : ∀ h', IsEnum h' (s.heap.objs.size + 1) s.heap.objs.size 0 .none → h'.IsTupleIter s.heap.objs.size l 0 → (∀ b o, s.heap.get? b = some o → h'.get? b = some o) → Q (.ref (s.heap.objs.size + 1)) { s with heap := h' }) :
    wpAny (model prog w) A (call (.type "enumerate") [.ref l]) Q E s := by
  obtain ⟨⟨c, dct, dt, sl⟩, hl, hc, n, hd⟩ := hT
  dsimp only at hc hd
  subst hc hd
  refine callType_new F.called_enumerate (by decide) (F.typeCall_enumerate_1 _) (F.newCall_enumerate_1 _) (fun obj => F.args_object_init_2 obj _) F.entry_enumerate_new (meetsT l items n dct sl) ⟨hl, ?_⟩
  have size1 : (s.heap.push { cls := .type "tuple_iterator", data := .fields #[.ref l, .int 0 0] }).objs.size = s.heap.objs.size + 1 := Heap.size_push ..
  have isE : IsEnum ((s.heap.push { cls := .type "tuple_iterator", data := .fields #[.ref l, .int 0 0] }).push
      { cls := .type "enumerate", data := .fields #[.none, .bool false, .ref s.heap.objs.size, rawInt 0, .none, .none] }) (s.heap.objs.size + 1) s.heap.objs.size 0 .none := by
    have z := Heap.get?_push_size (s.heap.push { cls := .type "tuple_iterator", data := .fields #[.ref l, .int 0 0] })
      (o := { cls := .type "enumerate", data := .fields #[.none, .bool false, .ref s.heap.objs.size, rawInt 0, .none, .none] }) rfl
    rw [size1] at z
    exact z
  show _ ∧ _
  rw [size1]
  exact ⟨⟨_, isE, rfl⟩, then_ _ isE ⟨_, Heap.get?_push_of_some _ (Heap.get?_push_size _ rfl), rfl, rfl⟩ fun b o x => Heap.get?_push_of_some _ (Heap.get?_push_of_some _ x)⟩
/-- enumerate of the tuple at a -/
def IteT (K : PySem.W.Frag) (a : Addr) : It :=
  ⟨fun i H => ∃ (xs : List V) (x : V), SqT K H a xs ∧ xs[i]? = some x, fun i H v H' => ∃ T x, v = .ref T ∧ H T = none ∧ H' = upd H T (.tup [.int (i : Nat), x]) ∧ ∀ xs, SqT K H a xs → xs[i]? = some x, fun i H => ∃ xs : List V, SqT K H a xs ∧ xs.length = i⟩
theorem apart {h : Heap} {it t a : Addr} {i : Nat} {items : Array Value} (h1 : h.IsTupleIter it t i) (h2 : h.IsTuple a items) : a ≠ it := fun e => by
  obtain ⟨o, ho, _, hd⟩ := h1
  obtain ⟨o2, ho2, _, n, hd2⟩ := h2
  rw [e, ho] at ho2
  cases ho2
  rw [hd] at hd2
  cases hd2
theorem apartE {h : Heap} {e it a : Addr} {c : Int} {old : Value} {items : Array Value} (h1 : IsEnum h e it c old) (h2 : h.IsTuple a items) : e ≠ a := fun z => by
  obtain ⟨o2, ho2, _, n, hd2⟩ := h2
  have h1' : h.get? e = _ := h1
  rw [z, ho2] at h1'
  have q := Option.some.inj h1'
  rw [q] at hd2
  cases hd2
theorem turn_enumT {P : Program} {w : World} {K : PySem.W.Frag} {elts : List Expr} {kk : Nat} {tpos : Pos} (a e it : Addr) :
    Turn P w K (.Tuple elts kk tpos) (IteT K a) [e, it] e (fun i h => (∃ old, IsEnum h e it ((i : Nat) : Int) old) ∧ h.IsTupleIter it a i ∧ e ≠ it) where
  mem := by simp
  obj := fun i h st b hb => by
    obtain ⟨⟨old, he⟩, ⟨o, ho, hc, hd⟩, _⟩ := st
    rcases (show b = e ∨ b = it by simpa using hb) with rfl | rfl
    · exact ⟨_, he, fun v q => nomatch q⟩
    · exact ⟨o, ho, fun v q => by rw [hd] at q; cases q⟩
  keep := fun i h h' st k => let ⟨⟨old, he⟩, hi, hne⟩ := st; ⟨⟨old, k e (by simp) _ he⟩, hi.at fun o q => k it (by simp) o q, hne⟩
  item := by
    intro X hP hw hK hc i pins s σ H E I hf st hg
    subst hP hw hK
    obtain ⟨⟨old, he⟩, hit, hne⟩ := st
    obtain ⟨xs, x, hq, hx⟩ := hg
    obtain ⟨its, rv, p, hz⟩ := I.tuple hq
    have pt : s.heap.IsTuple a its.toArray := p
    obtain ⟨u, hu, ru⟩ := rv.get hx
    have hel : e < s.heap.objs.size := Heap.lt_size he
    have hil : it < s.heap.objs.size := by obtain ⟨_, q, _⟩ := hit; exact Heap.lt_size q
    have hlt : i < its.toArray.size := by
      have := (List.getElem?_eq_some_iff.mp hu).1
      simpa using this
    refine wpAny_pyNext_enum_itemD (Draws.tuple (prog := X.prog) (w := X.w) (A := X.A.in1) (I.ok.hd hc) it a (apart hit pt) its.toArray) he ⟨hit, pt⟩ hlt hne (by simp [hne, apartE he pt]) fun y h' tk hy ho hst hT hsz hk => ?_
    have ey : y = u := by
      have z : its.toArray[i]? = some y := hy
      rw [List.getElem?_toArray] at z
      exact Option.some.inj (z.symm.trans hu)
    subst ey
    refine ⟨_, rfl, wpAny_letOwnedTupleGo_enum (s := { s with heap := h', toks := tk + 1 }) ho fun h'' he' sb => ?_⟩
    have hT2 : h''.get? s.heap.objs.size = some { cls := .type "tuple", data := .seq #[.int i tk, y] } := (sb.2 _ (Nat.ne_of_gt hel)).trans hT
    have new : ObjOk X.prog X.w (upd H s.heap.objs.size (.tup [.int (i : Nat), x])) h'' s.heap.objs.size (.tup [.int (i : Nat), x]) :=
      ⟨by show 2 ≤ sizeLine; decide, [.int i tk, y], .cons ⟨_, rfl⟩ (.cons ru .nil), ⟨_, hT2, rfl, _, rfl⟩⟩
    have I1 : Inv X pins σ (upd H s.heap.objs.size (.tup [.int (i : Nat), x])) { s with heap := h'', toks := tk + 1 } :=
      I.turnedNew (ch := [e, it]) (fun b ob hb q => (sb.2 b (fun z => hb (by simp [z]))).trans (hk b ob (fun z => hb (by simp [z])) (fun z => hb (by simp [z])) q)) hf (Nat.le_refl _) new
    refine ⟨.ref s.heap.objs.size, _, I1, rfl, ⟨_, x, rfl, I.hok.fresh (Nat.le_refl _), rfl, fun ys hy => by rw [I.tuple_inj hy hq]; exact hx⟩, ⟨⟨y, ?_⟩, hst.1.at fun o q => (sb.2 it (Ne.symm hne)).trans q, hne⟩, fun b hb => ?_⟩
    · have e1 : ((i + 1 : Nat) : Int) = (i : Int) + 1 := by omega
      rw [e1]
      exact he'
    · have hb' : b < s.heap.objs.size := by
        rcases (show b = e ∨ b = it by simpa using hb) with z | z
        · rw [z]; exact hel
        · rw [z]; exact hil
      rw [upd_ne (Nat.ne_of_lt hb')]
      exact (hf b hb).1
  done := by
    intro X hP hw hK hc i pins s σ H E I hf st hg
    subst hP hw hK
    obtain ⟨⟨old, he⟩, hit, hne⟩ := st
    obtain ⟨xs, hq, hx⟩ := hg
    obtain ⟨its, rv, p, hz⟩ := I.tuple hq
    have pt : s.heap.IsTuple a its.toArray := p
    obtain ⟨f0, f1, f2, f3, f4, f5⟩ := hf it (by simp)
    have hl : its.toArray.size = i := by rw [List.size_toArray, ← rv.length, hx]
    subst hl
    exact wpAny_pyNext_enum_endD (Draws.tuple (prog := X.prog) (w := X.w) (A := X.A.in1) (I.ok.hd hc) it a (apart hit pt) its.toArray) he ⟨hit, pt⟩ fun h' eb => ⟨rfl, I.turned (t' := s.toks) (fun b o hb q => eb b o hb q) f0 f1 f3 f4 f5⟩
  self := fun A i s Q E st h => let ⟨⟨_, he⟩, _⟩ := st; wpAny_pyIter_enum he h
def iEnumT (K : PySem.W.Frag) (ta : TA) : TI := fun σ H R => ta σ H fun vs H1 => ∃ a xs, vs = [.ref a] ∧ SqT K H1 a xs ∧ R (IteT K a) H1
theorem pi_enumT {X : Cx} {e : Expr} {ta : TA} {p pos tpos : Pos} {elts : List Expr} {kk : Nat} (hg : Gl X "enumerate") (hm : X.mg "enumerate" = none) (ha : PA X [e] ta) (hs : starEach [e] X.env = [(false, eval e X.env)] := by rfl) :
    PI X (.Tuple elts kk tpos) (.Call (.Name "enumerate" p) [e] [] pos) (iEnumT X.K ta) := by
  refine ⟨fun pins s σ H R I h => Call_ (ld_blt I hg hm boot_enumerate (PyProof.Rows.callWith_type1 (thn (ha.run pos pins s σ H _ I h) fun us s1 hh => ?_) hs rfl))⟩
  obtain ⟨vs, H1, I1, r1, a, xs, rfl, hq, q⟩ := hh
  obtain ⟨u, rfl, ru⟩ := vals1 r1
  obtain rfl : u = Value.ref a := ru
  obtain ⟨its, rv, p', hz⟩ := I1.tuple hq
  refine call_enumT (show s1.heap.IsTuple a its.toArray from p') fun h' he hit hk => wpAny_pyIter_enum he ?_
  refine ⟨s1.heap.objs.size + 1, [s1.heap.objs.size + 1, s1.heap.objs.size], _, _, H1, rfl, I1.kept (t' := s1.toks) hk, turn_enumT a (s1.heap.objs.size + 1) s1.heap.objs.size, ⟨⟨.none, he⟩, hit, Nat.succ_ne_self _⟩, fun b hb => ?_, q⟩
  have up : s1.heap.objs.size ≤ b := by
    rcases (show b = s1.heap.objs.size + 1 ∨ b = s1.heap.objs.size by simpa using hb) with z | z <;> (rw [z]; first | exact Nat.le_succ _ | exact Nat.le_refl _)
  exact I1.fpOk up (I1.hok.fresh up)
/-- for i, x in enumerate(t): one turn has a new pair -/
theorem for_enumT {K : PySem.W.Frag} {a : Addr} {xs : List V} {g : TG} {tb : TS} {D : Ends} {σ : L2.St} {H : Hp} (Pv : Nat → L2.St → Hp → Prop) (h0 : Pv 0 σ H) (hq : ∀ i σ H, Pv i σ H → SqT K H a xs)
    (hs : ∀ i x σ H, xs[i]? = some x → Pv i σ H → ∀ T, H T = none → g (.ref T) σ (upd H T (.tup [.int (i : Nat), x])) fun σ2 H2 => tb { D with nx := Pv (i + 1), ct := Pv (i + 1), bk := D.nx } σ2 H2) (hd : ∀ σ H, Pv xs.length σ H → D.nx σ H) :
    ∃ W : Nat → Nat → L2.St → Hp → Prop, (∃ m, W 0 m σ H) ∧ ∀ i m σ H, W i m σ H →
      ((IteT K a).stop i H ∧ D.nx σ H) ∨ ((IteT K a).go i H ∧ ∃ N : L2.St → Hp → Prop, (∀ σ' H', N σ' H' → ∃ m', m' < m ∧ W (i + 1) m' σ' H') ∧ ∀ x H', (IteT K a).yld i H x H' → g x σ H' fun σ2 H2 => tb { D with nx := N, ct := N, bk := D.nx } σ2 H2) := by
  refine ⟨fun i m σ H => m = xs.length - i ∧ i ≤ xs.length ∧ Pv i σ H, ⟨xs.length, by simp, Nat.zero_le _, h0⟩, ?_⟩
  rintro i m σ H ⟨rfl, hi, p⟩
  by_cases hlt : i < xs.length
  · have hx : xs[i]? = some xs[i] := List.getElem?_eq_getElem hlt
    refine .inr ⟨⟨xs, xs[i], hq _ _ _ p, hx⟩, Pv (i + 1), fun σ' H' p' => ⟨xs.length - (i + 1), by omega, rfl, hlt, p'⟩, fun y H' yl => ?_⟩
    obtain ⟨T, x, rfl, nT, rfl, fx⟩ := yl
    have ex := fx xs (hq _ _ _ p)
    exact hs i x σ H ex p T nT
  · have e : i = xs.length := by omega
    subst e
    exact .inl ⟨⟨xs, hq _ _ _ p, rfl⟩, hd σ H p⟩
/-- t >= u, two pairs of ints -/
def rGe2 (K : PySem.W.Frag) : R2 := fun x y H Q => ∃ (a b : Addr) (i j k l : Int), x = .ref a ∧ y = .ref b ∧ SqT K H a [.int i, .int j] ∧ SqT K H b [.int k, .int l] ∧ Q (.bl (decide (k < i ∨ (i = k ∧ l ≤ j)))) H
theorem op_ge2 {X : Cx} (hu : X.A.units < cLine) : OpR X (compareOp .GtE) (rGe2 X.K) := by
  intro pins s σ H x y v u Q I rx ry h
  obtain ⟨a, b, i, j, k, l, rfl, rfl, ha, hb, q⟩ := h
  obtain rfl : v = Value.ref a := rx
  obtain rfl : u = Value.ref b := ry
  obtain ⟨its, r1, p1, _⟩ := I.tuple ha
  obtain ⟨its2, r2, p2, _⟩ := I.tuple hb
  obtain ⟨v1, v2, rfl, ⟨t1, rfl⟩, ⟨t2, rfl⟩⟩ := vals2 r1
  obtain ⟨w1, w2, rfl, ⟨t3, rfl⟩, ⟨t4, rfl⟩⟩ := vals2 r2
  have R := Ob.RcOp.tuples_ge (A := X.A) (s := s) (e := fun m => if m = 0 then decide (i = k) else decide (j = l)) (r := fun m => if m = 0 then decide (k ≤ i) else decide (l ≤ j)) p1 p2 hu ?_ ?_
  · refine R X.prog X.w X.xe (EP X pins σ Q) ?_
    refine ⟨.bl _, H, I, ?_, q⟩
    show Value.bool _ = Value.bool _
    congr 1
    show (if (if (0 : Nat) = 0 then decide (i = k) else decide (j = l)) = true then (if (if (1 : Nat) = 0 then decide (i = k) else decide (j = l)) = true then _ else _) else _) = _
    by_cases e1 : i = k
    · by_cases e2 : j = l
      · simp [e1, e2, Ob.lexAt]
      · simp [e1, e2]
    · have : decide (k ≤ i) = decide (k < i ∨ (i = k ∧ l ≤ j)) := by
        apply decide_eq_decide.mpr
        constructor
        · intro z; exact .inl (by omega)
        · rintro (z | ⟨z, _⟩) <;> omega
      simp [e1]
      omega
  · intro m h1 h2
    have beq : ∀ x y : Int, (x == y) = decide (x = y) := fun x y => by
      by_cases e : x = y
      · rw [decide_eq_true e]; exact beq_iff_eq.mpr e
      · rw [decide_eq_false e]; exact beq_eq_false_iff_ne.mpr e
    match m, h1, h2 with
    | 0, _, _ => exact beq i k ▸ SeqAt.EqAt.int_int _ _ _ _
    | 1, _, _ => exact beq j l ▸ SeqAt.EqAt.int_int _ _ _ _
    | m + 2, h1, _ => exact absurd h1 (by simp)
  · intro m h1 h2 _
    match m, h1, h2 with
    | 0, _, _ => exact Ob.RcOp.ge_int _ _ _ _
    | 1, _, _ => exact Ob.RcOp.ge_int _ _ _ _
    | m + 2, h1, _ => exact absurd h1 (by simp)
end CvT

namespace Cv
open PySem PySem.Spec PyProof.Rows L2 CvT
def pairOf : PyData → Int × Int
  | .tuple [.int i, .int j] => (i, j)
  | _ => (0, 0)
/-- the way x is less than the way y -/
def ltP (x y : Int × Int) : Bool := decide (x.1 < y.1 ∨ (x.1 = y.1 ∧ x.2 < y.2))
def okAt (ds : List PyData) (i : Nat) : Bool := isWayD (ds.getD i .none) && (decide (i = 0) || ltP (pairOf (ds.getD (i - 1) .none)) (pairOf (ds.getD i .none)))
def ascD : PyData → Bool
  | .tuple ds => (List.range ds.length).all (okAt ds)
  | _ => false
def isCaveD (d : PyData) : Bool := ascD d && (match d with | .tuple ds => decide (0 < ds.length) | _ => false)
theorem asc_not {d : PyData} (h : tyD d ≠ "tuple") : ascD d = false := by
  cases d <;> first | rfl | exact absurd rfl h
/-- a way's two rooms -/
theorem way_inv {d : PyData} (h : isWayD d = true) : ∃ i j : Int, d = .tuple [.int i, .int j] ∧ 0 ≤ i ∧ i ≤ 99 ∧ 0 ≤ j ∧ j ≤ 99 ∧ i < j := by
  unfold isWayD at h
  split at h
  · rename_i x y
    rw [Bool.and_eq_true, Bool.and_eq_true] at h
    obtain ⟨h1, h2, h3⟩ := h
    cases x <;> simp [isRoomD] at h1
    cases y <;> simp [isRoomD] at h2
    simp [lessD] at h3
    exact ⟨_, _, rfl, h1.1, h1.2, h2.1, h2.2, h3⟩
  · cases h
theorem DqAll.get {K : PySem.W.Frag} {H : Hp} : ∀ {xs : List V} {ds : List PyData}, DqAll K H xs ds → ∀ {i : Nat} {x : V}, xs[i]? = some x → ∃ d, ds[i]? = some d ∧ Dq K H x d
  | _, _, .nil, i, x, h => by simp at h
  | _, _, .cons h1 r, 0, x, h => by
    cases h
    exact ⟨_, rfl, h1⟩
  | _, _, .cons h1 r, i + 1, x, h => r.get (i := i) (by simpa using h)
theorem all_succ {ds : List PyData} {i : Nat} (h : (List.range i).all (okAt ds) = true) (h2 : okAt ds i = true) : (List.range (i + 1)).all (okAt ds) = true := by
  rw [List.range_succ, List.all_append, h, Bool.true_and]
  simpa using h2
theorem all_false {ds : List PyData} {i : Nat} (hi : i < ds.length) (h : okAt ds i = false) : ascD (.tuple ds) = false := by
  refine Bool.eq_false_iff.mpr fun z => ?_
  have := List.all_eq_true.mp z i (List.mem_range.mpr hi)
  rw [h] at this
  cases this
section
variable {P : Program} {w : World} {K : PySem.W.Frag} {mg : Str → Option Value} {base : Heap}
theorem ok_asc {f fW fR : Addr} {fd fdW fdR : FuncData} {k : Nat} (F : Fun K "are_ascending_ways" "are_ascending_ways" sAsc f fd) (T : TxtC mg) (FW : Fun K "is_way" "is_way" sWay fW fdW) (bW : Binds K fdW ["thing"] []) (gW : mg "is_way" = some (.ref fW))
    (FR : Fun K "is_room" "is_room" sRoom fR fdR) (bR : Binds K fdR ["thing"] []) (gR : mg "is_room" = some (.ref fR)) :
    FnOk P w K mg base CX0 (k + 3) f fd ["thing"] (spD K ascD) := by
  have GW : FnOk P w K mg base CX0 (k + 2) fW fdW ["thing"] (spD K isWayD) := ok_way FW T FR bR gR
  refine F.ok scAsc (fun vs H Q E h => ?_) (fun cdv A outer s H vs Q E hr h => ?_)
  · obtain ⟨v, d, rfl, _⟩ := h
    rfl
  · obtain ⟨v, d, rfl, hd, q⟩ := h
    have hu : A.units + 3 < cLine := by
      have := hr.un
      show _
      have z : (A.deeper (envOfC "are_ascending_ways" (defScope sAsc) s.heap.objs.size f cdv)).units = A.units + 3 := rfl
      omega
    refine ⟨_, pss_cons (ps_if (pt_cmpR op_notTyB (pe_callTy call_type1 (by rfl) T.ty boot_ty (pa_cons (pv 0) pa_nil)) (pe_bltn (v := .ty "tuple") (by rfl) T.tup boot_tu rfl) (nomark _)) (pss_one (ps_ret pe_bl)) pss_nil)
      (pss_cons (ps_for PassesOwn.never rfl (pi_enumT (by rfl) T.enm (pa_cons (pv 0) pa_nil)) (pg_tup rfl (pgs_cons (pg_name (i := 1) scAsc.nd rfl (.inl rfl)) (pgs_cons (pg_name (i := 2) scAsc.nd rfl (.inl rfl)) pgs_nil)))
        (pss_one (ps_if (PW.pt (pw_or (pt_not (pt_val (pe_call GW hr (by rfl) gW FW.kp bW .nil pass0 (pa_cons (pv 2) pa_nil))))
            (pw_or1 (PW.pt (pw_and (pt_cmpR op_gt (pv 1) pe_int (nomark _)) (pw_and1 (pt_cmpR (op_ge2 hu) (pe_ix ix_tup (pv 0) (pe_op op_sub (pv 1) pe_int) (fun _ _ => rfl)) (pv 2) (nomark _)))))))) (pss_one (ps_ret pe_bl)) pss_nil)))
      (pss_one (ps_ret pe_bl))), ?_⟩
    have q0 := q H (Same.refl H)
    refine ⟨v, rfl, v, tyD d, rfl, hd.ty, _, _, rfl, rfl, _, rfl, ite2 (fun e => ?_) (fun e => ?_)⟩
    · rw [asc_not (fun z => by rw [z] at e; simp at e)] at q0
      exact q0
    · have e' : tyD d = "tuple" := by simpa using e
      obtain ⟨ds, rfl⟩ : ∃ ds, d = .tuple ds := by cases d <;> first | exact ⟨_, rfl⟩ | (simp [tyD] at e')
      obtain ⟨a, xs, rfl, hT, hA⟩ := hd.tup_inv
      have hl := hA.len
      refine ⟨.ref a, rfl, a, xs, rfl, hT, for_enumT (K := K) (a := a) (xs := xs) (fun i σ H' => ∃ y z, σ = [some (.ref a), y, z] ∧ Same H H' ∧ (List.range i).all (okAt ds) = true) ⟨_, _, rfl, Same.refl H, rfl⟩ (fun i σ H' ⟨_, _, _, s', _⟩ => SqT.up s' hT) ?_ ?_⟩
      · rintro i x σ H1 hx ⟨y, z, rfl, s1, ha⟩ Tp nT
        have hi : i < xs.length := (List.getElem?_eq_some_iff.mp hx).1
        have s2 := s1.trans (same_upd (o := .tup [.int (i : Nat), x]) nT)
        have fT : (upd H1 Tp (.tup [.int (i : Nat), x])) Tp = some (.tup [.int (i : Nat), x]) := upd_same
        generalize upd H1 Tp (HO.tup [V.int (i : Nat), x]) = H2 at s2 fT ⊢
        obtain ⟨dx, edx, hdx⟩ := (DqAll.up s2 ds hA).get hx
        have gdx : ds.getD i .none = dx := by rw [List.getD_eq_getElem?_getD, edx]; rfl
        refine ⟨Tp, [.int (i : Nat), x], rfl, .inl (.inl fT), rfl, .int (i : Nat), [x], rfl, x, [], rfl, rfl, ?_⟩
        refine ⟨x, rfl, x, dx, rfl, hdx, fun H3 s3 => ⟨_, rfl, ite2 (fun e2 => ?_) (fun e2 => ?_)⟩⟩
        · -- no way
          have e3 : isWayD dx = false := by simpa using e2
          have bad : okAt ds i = false := by unfold okAt; rw [gdx, e3, Bool.false_and]
          have q3 := q H3 (s2.trans s3)
          rw [all_false (by omega) bad] at q3
          exact q3
        · have e3 : isWayD dx = true := by simpa using e2
          obtain ⟨p1, p2, rfl, _⟩ := way_inv e3
          refine ⟨.int (i : Nat), rfl, _, _, rfl, rfl, _, rfl, ite2 (fun e4 => ?_) (fun e4 => ?_)⟩
          · have ipos : 0 < i := by
              have := of_decide_eq_true e4
              omega
            -- the item ahead is a way
            have prev : okAt ds (i - 1) = true := List.all_eq_true.mp ha (i - 1) (List.mem_range.mpr (by omega))
            have hpx : xs[i - 1]? = some xs[i - 1] := List.getElem?_eq_getElem (by omega)
            obtain ⟨dp, edp, hdp⟩ := (DqAll.up (s2.trans s3) ds hA).get hpx
            have gdp : ds.getD (i - 1) .none = dp := by rw [List.getD_eq_getElem?_getD, edp]; rfl
            have wp : isWayD dp = true := by
              unfold okAt at prev
              rw [gdp, Bool.and_eq_true] at prev
              exact prev.1
            obtain ⟨o1, o2, rfl, _⟩ := way_inv wp
            obtain ⟨ap, xp, exp, hTp, hAp⟩ := hdp.tup_inv
            obtain ⟨ax, xx, rfl, hTx, hAx⟩ := (Dq.up s3 _ hdx).tup_inv
            have two : ∀ {ys : List V} {m n : Int} {HH : Hp}, DqAll K HH ys [.int m, .int n] → ys = [.int m, .int n] := fun h => by
              cases h with
              | cons h1 h =>
                cases h1
                cases h with
                | cons h1 h =>
                  cases h1
                  cases h
                  rfl
            rw [two hAp] at hTp
            rw [two hAx] at hTx
            refine ⟨.ref a, rfl, .int (i : Nat), rfl, (i : Nat), 1, rfl, rfl, a, xs, _, _, rfl, rfl, SqT.up (s2.trans s3) hT, at_of (j := i - 1) (by omega) hpx, .ref ax, rfl, ap, ax, o1, o2, p1, p2, exp, rfl, hTp, hTx, _, rfl, ?_⟩
            have ltv : ltP (pairOf (ds.getD (i - 1) .none)) (pairOf (ds.getD i .none)) = !decide (p1 < o1 ∨ (o1 = p1 ∧ p2 ≤ o2)) := by
              rw [gdp, gdx]
              show decide (o1 < p1 ∨ (o1 = p1 ∧ o2 < p2)) = _
              rw [← decide_not]
              apply decide_eq_decide.mpr
              constructor
              · rintro (z | ⟨z, y⟩) c <;> rcases c with c | ⟨c, d⟩ <;> omega
              · intro c
                by_cases z : o1 < p1
                · exact .inl z
                · refine .inr ⟨?_, ?_⟩
                  · by_cases y : o1 = p1
                    · exact y
                    · exact absurd (.inl (by omega)) c
                  · by_cases y : o1 = p1
                    · by_cases x : o2 < p2
                      · exact x
                      · exact absurd (.inr ⟨y, by omega⟩) c
                    · exact absurd (.inl (by omega)) c
            have val : okAt ds i = !decide (p1 < o1 ∨ (o1 = p1 ∧ p2 ≤ o2)) := by
              unfold okAt
              rw [ltv, gdx, e3, decide_eq_false (show ¬ i = 0 by omega), Bool.true_and, Bool.false_or]
            refine ite2 (fun e5 => ?_) (fun e5 => ?_)
            · have q3 := q H3 (s2.trans s3)
              rw [all_false (ds := ds) (i := i) (by omega) (by rw [val, e5]; rfl)] at q3
              exact q3
            · exact ⟨_, _, rfl, s2.trans s3, all_succ ha (by rw [val, Bool.eq_false_iff.mpr e5]; rfl)⟩
          · have i0 : i = 0 := by
              have := of_decide_eq_false (Bool.eq_false_iff.mpr e4)
              omega
            refine iteF ?_
            exact ⟨_, _, rfl, s2.trans s3, all_succ ha (by unfold okAt; rw [gdx, e3, decide_eq_true i0]; rfl)⟩
      · rintro σ H1 ⟨y, z, rfl, s1, ha⟩
        have q1 := q H1 s1
        rw [hl] at ha
        rw [show ascD (.tuple ds) = true from ha] at q1
        exact q1
end
end Cv

/-! caves as lists of pairs; their rooms -/
namespace Cv
open PySem PySem.Spec PyProof.Rows L2 CvT
def wayD (p : Int × Int) : PyData := .tuple [.int p.1, .int p.2]
def caveD (c : List (Int × Int)) : PyData := .tuple (c.map wayD)
/-- a pair is a way -/
def RgW (p : Int × Int) : Prop := 0 ≤ p.1 ∧ p.1 < p.2 ∧ p.2 ≤ 99
structure Good (c : List (Int × Int)) : Prop where
  rg : ∀ p ∈ c, RgW p
  asc : c.Pairwise (fun p q => ltP p q = true)
  ne : c ≠ []
theorem ltP_iff {p q : Int × Int} : ltP p q = true ↔ p.1 < q.1 ∨ (p.1 = q.1 ∧ p.2 < q.2) := by
  unfold ltP
  exact decide_eq_true_iff
theorem ltP_trans {p q r : Int × Int} (a : ltP p q = true) (b : ltP q r = true) : ltP p r = true := by
  rw [ltP_iff] at a b ⊢
  omega
theorem ltP_irr (p : Int × Int) : ltP p p = false := by
  refine Bool.eq_false_iff.mpr fun z => ?_
  rw [ltP_iff] at z
  omega
theorem ltP_asym {p q : Int × Int} (a : ltP p q = true) : ltP q p = false := Bool.eq_false_iff.mpr fun b => by
  have := ltP_trans a b
  rw [ltP_irr] at this
  cases this
theorem pair_way {p : Int × Int} : pairOf (wayD p) = p := rfl
theorem isWay_way {p : Int × Int} : isWayD (wayD p) = true ↔ RgW p := by
  unfold wayD RgW
  rw [way_two]
  simp only [isRoomD, lessD, Bool.and_eq_true, decide_eq_true_eq]
  omega
theorem getD_map (c : List (Int × Int)) {i : Nat} (h : i < c.length) : (c.map wayD).getD i .none = wayD c[i] := by
  rw [List.getD_eq_getElem?_getD, List.getElem?_map, List.getElem?_eq_getElem h]
  rfl
/-- ascending ways, as pairs -/
theorem asc_inv {ds : List PyData} (h : ascD (.tuple ds) = true) : ∃ c : List (Int × Int), ds = c.map wayD ∧ (∀ p ∈ c, RgW p) ∧ c.Pairwise (fun p q => ltP p q = true) := by
  have all : ∀ i, i < ds.length → okAt ds i = true := fun i hi => List.all_eq_true.mp h i (List.mem_range.mpr hi)
  have way : ∀ i (hi : i < ds.length), ds[i] = wayD (pairOf ds[i]) ∧ RgW (pairOf ds[i]) := fun i hi => by
    have z := all i hi
    unfold okAt at z
    rw [Bool.and_eq_true, List.getD_eq_getElem?_getD, List.getElem?_eq_getElem hi] at z
    obtain ⟨a, b, e, h1, h2, h3, h4, h5⟩ := way_inv z.1
    have e' : ds[i] = wayD (a, b) := e
    rw [e']
    exact ⟨rfl, h1, h5, h4⟩
  have adj : ∀ i (hi : i + 1 < ds.length), ltP (pairOf ds[i]) (pairOf ds[i + 1]) = true := fun i hi => by
    have z := all (i + 1) hi
    unfold okAt at z
    rw [Bool.and_eq_true, Bool.or_eq_true] at z
    rcases z.2 with q | q
    · exact absurd (of_decide_eq_true q) (by omega)
    · rw [List.getD_eq_getElem?_getD, List.getD_eq_getElem?_getD, List.getElem?_eq_getElem hi, show i + 1 - 1 = i from rfl, List.getElem?_eq_getElem (show i < ds.length by omega)] at q
      exact q
  have far : ∀ (k i : Nat) (hi : i + k + 1 < ds.length), ltP (pairOf ds[i]) (pairOf ds[i + k + 1]) = true := fun k => by
    induction k with
    | zero => exact fun i hi => adj i hi
    | succ k ih => exact fun i hi => ltP_trans (ih i (by omega)) (adj (i + k + 1) hi)
  refine ⟨ds.map pairOf, ?_, ?_, ?_⟩
  · refine List.ext_getElem (by simp) fun i h1 h2 => ?_
    rw [List.getElem_map, List.getElem_map]
    exact (way i h1).1
  · intro p hp
    obtain ⟨d, hd, rfl⟩ := List.mem_map.mp hp
    obtain ⟨i, hi, rfl⟩ := List.getElem_of_mem hd
    exact (way i hi).2
  · rw [List.pairwise_map, List.pairwise_iff_getElem]
    intro i j hi hj lt
    have e : i + (j - i - 1) + 1 = j := by omega
    have z := far (j - i - 1) i (by omega)
    simp only [e] at z
    exact z
theorem cav_inv {d : PyData} (h : isCaveD d = true) : ∃ c, d = caveD c ∧ Good c := by
  unfold isCaveD at h
  rw [Bool.and_eq_true] at h
  obtain ⟨h1, h2⟩ := h
  cases d with
  | tuple ds =>
    obtain ⟨c, rfl, r, a⟩ := asc_inv h1
    refine ⟨c, rfl, r, a, fun e => ?_⟩
    subst e
    simp at h2
  | _ => simp at h2
theorem asc_of {c : List (Int × Int)} (r : ∀ p ∈ c, RgW p) (a : c.Pairwise (fun p q => ltP p q = true)) : ascD (caveD c) = true := by
  refine List.all_eq_true.mpr fun i hi => ?_
  have hi' : i < c.length := by simpa using hi
  unfold okAt
  rw [getD_map c hi', isWay_way.mpr (r _ (List.getElem_mem hi')), Bool.true_and]
  by_cases z : i = 0
  · rw [decide_eq_true z]
    rfl
  · rw [decide_eq_false z, Bool.false_or, getD_map c (show i - 1 < c.length by omega)]
    exact List.pairwise_iff_getElem.mp a (i - 1) i (by omega) hi' (by omega)
theorem Good.isCave {c : List (Int × Int)} (g : Good c) : isCaveD (caveD c) = true := by
  unfold isCaveD
  rw [asc_of g.rg g.asc, Bool.true_and]
  refine decide_eq_true ?_
  rw [List.length_map]
  exact List.length_pos_iff.mpr g.ne
/-! ### rooms -/
def allRooms : List Int := (List.range 100).map fun n => ((n : Nat) : Int)
def inC (c : List (Int × Int)) (k : Int) : Bool := c.any fun p => decide (p.1 = k) || decide (p.2 = k)
/-- the rooms, ascending -/
def roomsM (c : List (Int × Int)) : List Int := allRooms.filter (inC c)
theorem inC_iff {c : List (Int × Int)} {k : Int} : inC c k = true ↔ ∃ p ∈ c, p.1 = k ∨ p.2 = k := by
  unfold inC
  rw [List.any_eq_true]
  simp only [Bool.or_eq_true, decide_eq_true_eq]
theorem mem_all {k : Int} : k ∈ allRooms ↔ 0 ≤ k ∧ k < 100 := by
  unfold allRooms
  rw [List.mem_map]
  constructor
  · rintro ⟨n, hn, rfl⟩
    have := List.mem_range.mp hn
    omega
  · rintro ⟨h0, h1⟩
    exact ⟨k.toNat, List.mem_range.mpr (by omega), by omega⟩
theorem asc_all : allRooms.Pairwise (· < ·) := by
  unfold allRooms
  rw [List.pairwise_map]
  exact List.pairwise_lt_range.imp fun {a b} h => by omega
theorem asc_rooms (c : List (Int × Int)) : (roomsM c).Pairwise (· < ·) := asc_all.sublist List.filter_sublist
theorem mem_rooms {c : List (Int × Int)} (r : ∀ p ∈ c, RgW p) {k : Int} : k ∈ roomsM c ↔ ∃ p ∈ c, p.1 = k ∨ p.2 = k := by
  unfold roomsM
  rw [List.mem_filter, inC_iff, mem_all]
  constructor
  · exact fun h => h.2
  · rintro ⟨p, hp, h⟩
    have := r p hp
    exact ⟨by unfold RgW at this; omega, p, hp, h⟩
/-- two ascending lists of the same members are one -/
theorem asc_ext : ∀ {l m : List Int}, l.Pairwise (· < ·) → m.Pairwise (· < ·) → (∀ k, k ∈ l ↔ k ∈ m) → l = m
  | [], [], _, _, _ => rfl
  | [], y :: m, _, _, h => by simpa using (h y).mpr List.mem_cons_self
  | x :: l, [], _, _, h => by simpa using (h x).mp List.mem_cons_self
  | x :: l, y :: m, hl, hm, h => by
    obtain ⟨l1, l2⟩ := List.pairwise_cons.mp hl
    obtain ⟨m1, m2⟩ := List.pairwise_cons.mp hm
    have e : x = y := by
      rcases List.mem_cons.mp ((h x).mp List.mem_cons_self) with e | e
      · exact e
      · rcases List.mem_cons.mp ((h y).mpr List.mem_cons_self) with f | f
        · exact f.symm
        · have a := m1 x e
          have b := l1 y f
          omega
    subst e
    refine congrArg (x :: ·) (asc_ext l2 m2 fun k => ⟨fun hk => ?_, fun hk => ?_⟩)
    · rcases List.mem_cons.mp ((h k).mp (List.mem_cons_of_mem _ hk)) with e | e
      · have := l1 k hk
        omega
      · exact e
    · rcases List.mem_cons.mp ((h k).mpr (List.mem_cons_of_mem _ hk)) with e | e
      · have := m1 k hk
        omega
      · exact e
/-- a list without twins of numbers below n -/
theorem nd_len : ∀ (n : Nat) (l : List Int), l.Nodup → (∀ k ∈ l, 0 ≤ k ∧ k < (n : Int)) → l.length ≤ n
  | 0, [], _, _ => Nat.le_refl _
  | 0, x :: l, _, h => by
    have := h x List.mem_cons_self
    omega
  | n + 1, l, nd, h => by
    by_cases z : ((n : Nat) : Int) ∈ l
    · have e := List.length_erase_of_mem z
      have ih := nd_len n (l.erase (n : Int)) (nd.erase _) fun k hk => by
        obtain ⟨h1, h2⟩ := nd.mem_erase_iff.mp hk
        have := h k h2
        omega
      omega
    · have ih := nd_len n l nd fun k hk => by
        have := h k hk
        have q : k ≠ n := fun e => z (e ▸ hk)
        omega
      omega
theorem len_rooms (c : List (Int × Int)) : (roomsM c).length ≤ 100 :=
  nd_len 100 _ ((asc_rooms c).imp fun {a b} h => by omega) fun k hk => by
    unfold roomsM at hk
    have := mem_all.mp (List.mem_filter.mp hk).1
    omega
theorem len_good {c : List (Int × Int)} (r : ∀ p ∈ c, RgW p) (a : c.Pairwise (fun p q => ltP p q = true)) : c.length ≤ 10000 := by
  have e : c.length = (c.map fun p => p.1 * 100 + p.2).length := by simp
  rw [e]
  refine nd_len 10000 _ ?_ fun k hk => ?_
  · unfold List.Nodup
    rw [List.pairwise_map]
    refine a.imp_of_mem fun {p q} hp hq h => ?_
    have := r p hp
    have := r q hq
    rw [ltP_iff] at h
    unfold RgW at *
    omega
  · obtain ⟨p, hp, rfl⟩ := List.mem_map.mp hk
    have := r p hp
    unfold RgW at this
    omega
end Cv

/-! a set comprehension of ints with two fors and no test; sorted of a set of ints of any size -/
namespace CvS
open PySem PySem.Spec PyProof.Rows L2
abbrev sc2 (elt t0 i0 t1 i1 : Expr) (scope : Scope) (pos : Pos) : Expr := .SetComp elt [⟨t0, i0, [], 0⟩, ⟨t1, i1, [], 0⟩] scope pos
section
variable {prog : Program} {w : World} {A : Around} {R : Result → Shared → Prop} {s : Shared} {elt t0 i0 t1 i1 : Expr} {scope : Scope} {pos : Pos} {it acc : Value} {env : Env}
theorem turn_o : compTurn (sc2 elt t0 i0 t1 i1 scope pos) 0 it acc env = (do
    standAt i0.pos
    match ← pyNext it with
    | none => pure (.done .next)
    | some v =>
      letOwnedTupleGo t0 it v
      assign t0 env v
      let z ← eval i1 env
      standAt i1.pos
      let z ← foldedSetIterable i1 env z
      let _ ← runOwn (.compStart (sc2 elt t0 i0 t1 i1 scope pos) 1 (← holding [z] (pyIter z)) acc env) env
      again (.compLoop (sc2 elt t0 i0 t1 i1 scope pos) 0 it acc env)) := by rfl
theorem turn_i : compTurn (sc2 elt t0 i0 t1 i1 scope pos) 1 it acc env = (do
    standAt i1.pos
    match ← pyNext it with
    | none => pure (.done .next)
    | some v =>
      letOwnedTupleGo t1 it v
      assign t1 env v
      (do let z ← eval elt env; standAt elt.pos; let _ ← call (.builtin "set.add") [acc, z])
      again (.compLoop (sc2 elt t0 i0 t1 i1 scope pos) 1 it acc env)) := by rfl
end
section
variable {prog : Program} {w : World} {A : Around} {R : Result → Shared → Prop} {s : Shared} {elt t0 i0 t1 i1 : Expr} {scope : Scope} {pos : Pos} {it acc : Value} {env : Env}
theorem noF {α : Type} {t : Sem α} {Q : α → Shared → Prop} {M : Model} {E : Value → Shared → Prop} (h : wpAny M A t Q (fun (_ : Value) (_ : Shared) => False) s) : wpAny M A t Q E s := wpAny_mono h (fun _ _ q => q) fun _ _ z => z.elim
/-- the second for's loop -/
theorem go_i (J : Nat → Shared → Prop)
    (turn : ∀ k s, J k s → wpAny (model prog w) A (pyNext it) (fun r a => match r with
      | none => R (.ok .next) a
      | some v => wpAny (model prog w) A (letOwnedTupleGo t1 it v) (fun _ b => wpAny (model prog w) A (assign t1 env v) (fun _ c => wpAny (model prog w) A (eval elt env) (fun y d =>
          wpAny (model prog w) A (call (.builtin "set.add") [acc, y]) (fun _ e => ∃ m, m < k ∧ J m e) (fun (_ : Value) (_ : Shared) => False) d) (fun (_ : Value) (_ : Shared) => False) c) (fun (_ : Value) (_ : Shared) => False) b) (fun (_ : Value) (_ : Shared) => False) a) (fun (_ : Value) (_ : Shared) => False) s)
    (k : Nat) (h : J k s) : codeAny (model prog w) A (.compLoop (sc2 elt t0 i0 t1 i1 scope pos) 1 it acc env) R s := by
  refine codeAny_loop rfl J (fun k s hJ => ?_) k h
  show wpAny _ A ((compTurn (sc2 elt t0 i0 t1 i1 scope pos) 1 it acc env).onRaise _) _ _ s
  refine wpAny_noted (noF ?_)
  rw [turn_i]
  refine wpAny_bind (wpAny_standAt (wpAny_bind (thnF (turn k s hJ) fun r a h1 => ?_)))
  match r, h1 with
  | none, h1 => exact wpAny_pure h1
  | some v, h1 => exact wpAny_bind (thnF h1 fun _ b h2 => wpAny_bind (thnF h2 fun _ c h3 => wpAny_bind (wpAny_bind (thnF h3 fun y d h4 => wpAny_bind (wpAny_standAt (wpAny_bind (thnF h4 fun _ e h5 => wpAny_pure (wpAny_pure ⟨rfl, h5⟩))))))))
/-- the first for's loop -/
theorem go_o (hs : ∀ z, foldedSetIterable i1 env z = pure z) (J : Nat → Shared → Prop)
    (turn : ∀ k s, J k s → wpAny (model prog w) A (pyNext it) (fun r a => match r with
      | none => R (.ok .next) a
      | some v => wpAny (model prog w) A (letOwnedTupleGo t0 it v) (fun _ b => wpAny (model prog w) A (assign t0 env v) (fun _ c => wpAny (model prog w) A (eval i1 env) (fun y d =>
          wpAny (model prog w) A (pyIter y) (fun j e => codeAny (model prog w) A (.compStart (sc2 elt t0 i0 t1 i1 scope pos) 1 j acc env) (fun r f => match r with
            | .ok _ => ∃ m, m < k ∧ J m f
            | .error _ => False) e) (fun (_ : Value) (_ : Shared) => False) d) (fun (_ : Value) (_ : Shared) => False) c) (fun (_ : Value) (_ : Shared) => False) b) (fun (_ : Value) (_ : Shared) => False) a) (fun (_ : Value) (_ : Shared) => False) s)
    (k : Nat) (h : J k s) : codeAny (model prog w) A (.compLoop (sc2 elt t0 i0 t1 i1 scope pos) 0 it acc env) R s := by
  refine codeAny_loop rfl J (fun k s hJ => ?_) k h
  show wpAny _ A ((compTurn (sc2 elt t0 i0 t1 i1 scope pos) 0 it acc env).onRaise _) _ _ s
  refine wpAny_noted (noF ?_)
  rw [turn_o]
  refine wpAny_bind (wpAny_standAt (wpAny_bind (thnF (turn k s hJ) fun r a h1 => ?_)))
  match r, h1 with
  | none, h1 => exact wpAny_pure h1
  | some v, h1 =>
    refine wpAny_bind (thnF h1 fun _ b h2 => ?_)
    refine wpAny_bind (thnF h2 fun _ c h3 => ?_)
    refine wpAny_bind (thnF h3 fun y d h4 => ?_)
    refine wpAny_bind (wpAny_standAt ?_)
    refine wpAny_bind (wpAny_of_eq (hs y) ?_)
    refine wpAny_bind (wpAny_holding (thnF h4 fun j e h5 => ?_))
    refine wpAny_bind (wpAny_runOwn ?_)
    rw [Around.mark_none]
    refine codeAny_mono h5 fun r f hr => ?_
    match r, hr with
    | .ok _, hr => first | exact wpAny_pure ⟨rfl, hr⟩ | exact wpAny_bind (wpAny_pure (wpAny_pure ⟨rfl, hr⟩))
    | .error _, hr => exact hr.elim
/-- the second for's start -/
theorem start_i (h0 : codeAny (model prog w) A (.compLoop (sc2 elt t0 i0 t1 i1 scope pos) 1 it acc env) R s)
    (h : wpAny (model prog w) A (pyIter it) (fun j a => codeAny (model prog w) A (.compLoop (sc2 elt t0 i0 t1 i1 scope pos) 1 j acc env) R a) (fun (_ : Value) (_ : Shared) => False) s) :
    codeAny (model prog w) A (.compStart (sc2 elt t0 i0 t1 i1 scope pos) 1 it acc env) R s := by
  refine codeAny_of_tree ?_
  show wpAny _ _ ((compStart (sc2 elt t0 i0 t1 i1 scope pos) 1 it acc env).onRaise _) _ _ s
  refine wpAny_notedAt (noF ?_)
  unfold compStart
  show wpAny _ _ (ask >>= _) _ _ s
  refine wpAny_bind (wpAny_askSetting (wpAny_ite ?_))
  split
  · first | exact wpAny_pure ⟨rfl, h0⟩ | exact wpAny_bind (wpAny_pure (wpAny_pure ⟨rfl, h0⟩))
  · refine wpAny_bind (wpAny_rule ?_)
    first
      | exact wpAny_bind (wpAny_standAt (wpAny_bind (thnF h fun j a q => wpAny_pure ⟨rfl, q⟩)))
      | (show wpAny _ _ (standAt i1.pos >>= _) _ _ s
         exact wpAny_bind (wpAny_standAt (wpAny_bind (thnF h fun j a q => wpAny_pure ⟨rfl, q⟩))))
end
section
variable {X : Cx}
/-- {elt for tg in iter for tg1 in iter1}, elt an int: D the new set; vs the block's names, vs1 the second target's -/
def tSc2 (w : World) (wi : TI) (g : TG) (wi1 : TI) (g1 : TG) (te : TE) (vs vs1 : List Nat) : TE := fun σ H Q => wi σ H fun J H1 => ∀ D, H1 D = none → ∃ W : Nat → Nat → Hp → Prop, (∃ m, W 0 m (upd H1 D (SetO w D (fun _ => false) 0))) ∧
  ∀ i m H, W i m H → (J.stop i H ∧ Q (.ref D) H) ∨ (J.go i H ∧ ∃ Z : Hp → Prop, (∀ H', Z H' → ∃ m', m' < m ∧ W (i + 1) m' H') ∧ ∀ x H', J.yld i H x H' → g x (wipe σ vs) H' fun τ H2 => wipe τ vs = wipe σ vs ∧ wi1 τ H2 fun J1 H3 =>
    ∃ W1 : Nat → Nat → Hp → Prop, (∃ m, W1 0 m H3) ∧ ∀ j k H, W1 j k H → (J1.stop j H ∧ Z H) ∨ (J1.go j H ∧ ∃ Z1 : Hp → Prop, (∀ H', Z1 H' → ∃ k', k' < k ∧ W1 (j + 1) k' H') ∧
      ∀ x H', J1.yld j H x H' → g1 x (wipe τ vs1) H' fun υ H4 => wipe υ vs1 = wipe τ vs1 ∧ te υ H4 fun y H5 => ∃ (c : Int) (S : Int → Bool) (n : Nat), y = .int c ∧ H5 D = some (SetO w D S n) ∧ n + 1 < scanBound ∧
        Z1 (upd H5 D (SetO w D (fun j => S j || decide (j = c)) (if S c = true then n else n + 1)))))
theorem pe_sc2 {elt tg iter tg1 iter1 : Expr} {scope : Scope} {own : List (Str × Nat)} {vs1 : List Nat} {pos : Pos} {wi wi1 : TI} {g g1 : TG} {te : TE} (hc : X.calm = true) (hN : X.N.Nodup) (hi : PI X tg iter wi) (ok : BlkOk X.N X.env.scope scope own)
    (hv : ∀ i ∈ vs1, i ∈ own.map (·.2)) (pG : ∀ (s : Shared) (H : Hp) (C : Addr) (cl : List (Str × Addr)) (fp : List Addr), PG (X.blk s H scope (compEnvC scope cl C X.env) fp) tg g) (pI1 : ∀ (s : Shared) (H : Hp) (C : Addr) (cl : List (Str × Addr)) (fp : List Addr), PI (X.blk s H scope (compEnvC scope cl C X.env) fp) tg1 iter1 wi1)
    (pG1 : ∀ (s : Shared) (H : Hp) (C : Addr) (cl : List (Str × Addr)) (fp : List Addr), PG (X.blk s H scope (compEnvC scope cl C X.env) fp) tg1 g1) (pE : ∀ (s : Shared) (H : Hp) (C : Addr) (cl : List (Str × Addr)) (fp : List Addr), PE (X.blk s H scope (compEnvC scope cl C X.env) fp) elt te)
    (hs : ∀ z, foldedSetIterable iter X.env z = pure z := by intro _; rfl) (hs1 : ∀ env z, foldedSetIterable iter1 env z = pure z := by intro _ _; rfl) :
    PE X (sc2 elt tg iter tg1 iter1 scope pos) (tSc2 X.w wi g wi1 g1 te (own.map (·.2)) vs1) := by
  refine ⟨fun pins s σ H Q I h => ?_⟩
  have free : ∀ y ∈ scope.names, y.2 = .free → ∃ c, X.env.cells.lookup y.1 = some c := fun y hy e => (ok.free y hy e).elim (fun k => I.ok.has _ (.inl k)) fun k => I.ok.has _ (.inr k)
  rw [PpSet.eval_SetComp]
  refine wpAny_comprehension_free (use := none) rfl hs (closure_ok free) ok.kind (fun y hy e => by rw [ok.uniq y hy, e]) (thn (hi.run pins s σ H _ I h) fun xv s1 hx => thn hx fun itv s2 h2 => ?_)
  obtain ⟨it, fp, tn, J, H2, rfl, I2, T, st2, f2, q⟩ := h2
  refine PpSet.newSet_ok (newEnv_comp ?_)
  generalize hD : s2.heap.objs.size = D
  obtain ⟨W, ⟨m0, w0⟩, turn⟩ := q D (I2.hok.fresh (Nat.le_of_eq hD))
  -- the new set's heap
  generalize hs3 : ({ s2 with heap := s2.heap.push { cls := .type "set", dict := none, data := .set #[] 0 (.fresh 0 0 (!X.w.params.followText "set-order")) } } : Shared) = s3
  have I3 : Inv X pins σ (upd H2 D (SetO X.w D (fun _ => false) 0)) s3 := by
    subst hs3
    refine I2.laid (t' := s2.toks) (fun b o e => Heap.get?_push_of_some _ e) (Nat.le_of_eq hD) ?_
    subst hD
    exact setO_new (setR_fresh X.w)
  have old3 : ∀ b o, s2.heap.get? b = some o → s3.heap.get? b = some o := fun b o e => by subst hs3; exact Heap.get?_push_of_some _ e
  have size3 : s3.heap.objs.size = s2.heap.objs.size + 1 := by subst hs3; exact Heap.size_push ..
  have sz : ∀ b ∈ fp, b < s2.heap.objs.size := fun b hb => let ⟨o, e, _⟩ := T.obj _ _ st2 b hb; Heap.lt_size e
  have f3 : ∀ b ∈ fp, FpOk X pins (upd H2 D (SetO X.w D (fun _ => false) 0)) b ∧ b < s3.heap.objs.size := fun b hb =>
    ⟨⟨(upd_ne (Nat.ne_of_lt (hD ▸ sz b hb))).trans (f2 b hb).1, (f2 b hb).2⟩, by rw [size3]; exact Nat.lt_succ_of_lt (sz b hb)⟩
  have st3 : tn 0 s3.heap := T.keep _ _ _ st2 fun b _ o e => old3 b o e
  generalize hH3 : upd H2 D (SetO X.w D (fun _ => false) 0) = H3 at I3 w0 f3
  have I4 := block_start I3 ok hN f3
  generalize hcl : cellsFrom (s3.heap.objs.size + 1) scope.names (cloFrom X.env.cells scope.names []) = cl at I4
  have pg := pG s3 H3 s3.heap.objs.size cl fp
  have pi1 := pI1 s3 H3 s3.heap.objs.size cl fp
  have pg1 := pG1 s3 H3 s3.heap.objs.size cl fp
  have pe := pE s3 H3 s3.heap.objs.size cl fp
  show codeAny _ _ (.compStart (sc2 elt tg iter tg1 iter1 scope pos) 0 (.ref it) (.ref D) (compEnvC scope cl s3.heap.objs.size X.env)) (compPost (model X.prog X.w) X.A X.xe none (EP X pins σ Q) (.ref D) s3.heap.objs.size) { s3 with heap := pushCells (s3.heap.push { cls := .type "dict", data := .dict #[] }) scope.names }
  have cL : (compEnvC scope cl s3.heap.objs.size X.env).locals = s3.heap.objs.size := rfl
  generalize compEnvC scope cl s3.heap.objs.size X.env = ce at I4 pg pi1 pg1 pe cL ⊢
  generalize hs4 : ({ s3 with heap := pushCells (s3.heap.push { cls := .type "dict", data := .dict #[] }) scope.names } : Shared) = s4 at I4 ⊢
  have st4 : tn 0 s4.heap := T.keep _ _ _ st3 fun b _ o e => by subst hs4; exact pushCells_keeps _ _ _ _ (Heap.get?_push_of_some _ e)
  generalize hB : X.blk s3 H3 scope ce fp = B at I4 pg pi1 pg1 pe
  have bp : B.prog = X.prog := by subst hB; rfl
  have bw : B.w = X.w := by subst hB; rfl
  have bA : B.A = X.A := by subst hB; rfl
  have bE : B.env = ce := by subst hB; rfl
  have stat : ∀ {σ' : L2.St} {H' : Hp} {s' : Shared}, Inv B [] σ' H' s' → (∀ b ∈ fp, H' b = none) → ∀ b ∈ fp, FpOk B [] H' b := fun {σ' H' s'} K hn b hb => by
    subst hB
    exact ⟨hn b hb, (K.ok.exf b hb).1, K.ok.exfs b hb, .inl hb, fun x c e => (K.ok.exf b hb).2 x c e, fun p hp => absurd hp (by simp)⟩
  subst hB
  have loop : codeAny (model X.prog X.w) X.A (.compLoop (sc2 elt tg iter tg1 iter1 scope pos) 0 (.ref it) (.ref D) ce) (compPost (model X.prog X.w) X.A X.xe none (EP X pins σ Q) (.ref D) s3.heap.objs.size) s4 := by
    refine go_o (hs1 ce) (fun m s' => ∃ i H', Inv (X.blk s3 H3 scope ce fp) [] (wipe σ (own.map (·.2))) H' s' ∧ tn i s'.heap ∧ (∀ b ∈ fp, H' b = none) ∧ W i m H') ?_ m0 ⟨0, H3, I4, st4, fun b hb => (f3 b hb).1.1, w0⟩
    rintro m s5 ⟨i, H5, I5, st5, n5, w5⟩
    rcases turn i m H5 w5 with ⟨stop, qq⟩ | ⟨go, Z, hZ, step⟩
    · refine thnF (T.done (X.blk s3 H3 scope ce fp) rfl rfl rfl hc i [] s5 _ H5 (fun _ _ => False) I5 (stat I5 n5) st5 stop) fun r s6 ⟨hr, I6⟩ => ?_
      subst hr
      have I7 : Inv X pins σ H5 s6 := I3.call' (ch := fp) I6.os I6.base I6.hok I6.bare fun b hb => let f := (f3 b hb).1.2; ⟨f.2.2.1, f.1, f.2.2.2.1, f.2.2.2.2⟩
      obtain ⟨mm, hn, _⟩ := I6.loc
      have hn : s6.heap.Ns ce.locals mm := hn
      have nC : H5 ce.locals = none := I6.free
      rw [cL] at hn nC
      obtain ⟨f0, f1, f2, f3, f4, f5⟩ := I3.fpOk (Nat.le_refl _) nC
      exact ⟨mm, hn, fun h'' sb => ⟨.ref D, H5, I7.turned (t' := s6.toks) (fun b o hb e => (sb.2 b hb).trans e) f0 f1 f3 f4 f5, rfl, qq⟩⟩
    · refine thnF (T.item (X.blk s3 H3 scope ce fp) rfl rfl rfl hc i [] s5 _ H5 (fun _ _ => False) I5 (stat I5 n5) st5 go) fun r s6 ⟨u, hr, h6⟩ => ?_
      subst hr
      refine thnF h6 fun _ s7 ⟨x, H7, I7, r7, y7, st7, n7⟩ => ?_
      refine thnF (pg.run _ s7 _ H7 x u _ (I7.pinned (stat I7 n7) (T.obj _ _ st7)) r7 (step x H7 y7)) fun _ s8 ⟨τ, H8, I8, e8, q8⟩ => ?_
      refine thnF (pi1.run _ s8 τ H8 _ I8 q8) fun xv s9 hx => thnF hx fun jv s10 h10 => ?_
      obtain ⟨it1, fp1, tn1, J1, H10, rfl, I10, T1, st10, f10, W1, ⟨m1, w1⟩, turn1⟩ := h10
      have stat1 : ∀ {H' : Hp}, (∀ b ∈ fp1, H' b = none) → ∀ b ∈ fp1, FpOk (X.blk s3 H3 scope ce fp) ([] ++ pinsAt fp s7.heap) H' b := fun hn b hb => ⟨hn b hb, (f10 b hb).2⟩
      have loop1 : codeAny (model X.prog X.w) X.A (.compLoop (sc2 elt tg iter tg1 iter1 scope pos) 1 (.ref it1) (.ref D) ce)
          (fun r s' => match r with
            | .ok _ => ∃ m', m' < m ∧ ∃ i H', Inv (X.blk s3 H3 scope ce fp) [] (wipe σ (own.map (·.2))) H' s' ∧ tn i s'.heap ∧ (∀ b ∈ fp, H' b = none) ∧ W i m' H'
            | .error _ => False) s10 := by
        refine go_i (fun k s' => ∃ j H', Inv (X.blk s3 H3 scope ce fp) ([] ++ pinsAt fp s7.heap) (wipe τ vs1) H' s' ∧ tn1 j s'.heap ∧ (∀ b ∈ fp1, H' b = none) ∧ W1 j k H') ?_ m1 ⟨0, H10, I10.weak (wipe_length _ _) (fun j v e => (wipe_some e).1), st10, fun b hb => (f10 b hb).1, w1⟩
        rintro k s11 ⟨j, H11, I11, st11, n11, w11⟩
        rcases turn1 j k H11 w11 with ⟨stop1, z⟩ | ⟨go1, Z1, hZ1, step1⟩
        · refine thnF (T1.done (X.blk s3 H3 scope ce fp) rfl rfl rfl hc j _ s11 _ H11 (fun _ _ => False) I11 (stat1 n11) st11 stop1) fun r s12 ⟨hr, I12⟩ => ?_
          subst hr
          obtain ⟨m', hm, w'⟩ := hZ H11 z
          have pin : ∀ b ∈ fp, ∀ o, s7.heap.get? b = some o → s12.heap.get? b = some o ∧ H11 b = none := fun b hb o e => let p := I12.pin (b, o) (List.mem_append_right _ (List.mem_append_right _ (mem_pinsAt hb e))); ⟨p.1, p.2.1⟩
          refine ⟨m', hm, i + 1, H11, (I12.unpinned (pins := [])).weak (by rw [← e8, wipe_length, wipe_length]) (fun a v e => ?_), T.keep _ _ _ st7 fun b hb o e => (pin b hb o e).1, fun b hb => let ⟨o, e, _⟩ := T.obj _ _ st7 b hb; (pin b hb o e).2, w'⟩
          rw [← e8] at e
          obtain ⟨e1, e2⟩ := wipe_some e
          exact (wipe_out fun z => e2 (hv a z)).trans e1
        · refine thnF (T1.item (X.blk s3 H3 scope ce fp) rfl rfl rfl hc j _ s11 _ H11 (fun _ _ => False) I11 (stat1 n11) st11 go1) fun r s12 ⟨u1, hr, h12⟩ => ?_
          subst hr
          refine thnF h12 fun _ s13 ⟨x1, H13, I13, r13, y13, st13, n13⟩ => ?_
          refine thnF (pg1.run _ s13 _ H13 x1 u1 _ (I13.pinned (stat1 n13) (T1.obj _ _ st13)) r13 (step1 x1 H13 y13)) fun _ s14 ⟨υ, H14, I14, e14, q14⟩ => ?_
          refine thnF (pe.run _ s14 υ H14 _ I14 q14) fun yv s15 ⟨y, H15, I15, r15, c, S, n, ey, hD15, hn15, z⟩ => ?_
          subst ey
          refine thnF (mt_sadd (X := X.blk s3 H3 scope ce fp) _ s15 υ H15 (.ref D) [.int c] (.ref D) [yv] (fun _ H' => Z1 H') I15 rfl (.cons r15 .nil) ⟨D, c, S, n, rfl, rfl, hD15, hn15, z⟩) fun _ s16 ⟨_, H16, I16, _, z16⟩ => ?_
          obtain ⟨k', hk, w'⟩ := hZ1 H16 z16
          have pin : ∀ b ∈ fp1, ∀ o, s13.heap.get? b = some o → s16.heap.get? b = some o ∧ H16 b = none := fun b hb o e => let p := I16.pin (b, o) (List.mem_append_right _ (List.mem_append_right _ (mem_pinsAt hb e))); ⟨p.1, p.2.1⟩
          exact ⟨k', hk, j + 1, H16, I16.unpinned.weak (by rw [← e14, wipe_length]) (fun a v e => by rw [← e14] at e; exact (wipe_some e).1), T1.keep _ _ _ st13 fun b hb o e => (pin b hb o e).1, fun b hb => let ⟨o, e, _⟩ := T1.obj _ _ st13 b hb; (pin b hb o e).2, w'⟩
      exact start_i loop1 (T1.self X.A 0 _ _ _ st10 loop1)
  exact PpSet.codeAny_compStart_set loop (T.self X.A 0 _ _ _ st4 loop)
end
/-! ### sorted of a set of ints, any number -/
section
variable {P : Program} {w : World} {A : Around} {E : Value → Shared → Prop} {s : Shared} {a : Addr}
theorem sorted_setA {S : Int → Bool} {n : Nat} {Q : Value → Shared → Prop} (R : SetR w s.heap a S n) (hh : A.handled = none)
    (hQ : ∀ s' p (out : List Value) (c : Nat) (ns : List Int), (∀ b o, s.heap.get? b = some o → s'.heap.get? b = some o) → s'.gens = s.gens → s'.os = s.os → s.heap.objs.size ≤ p → s'.heap.get? p = some (seqObj "list" out.toArray c) →
      IntsAre out ns → ns.Pairwise (· < ·) → (∀ k, k ∈ ns ↔ S k = true) → ns.length = n → n < scanBound → Q (.ref p) s') : wpAny (model P w) A (call (.builtin "sorted") [.ref a]) Q E s := by
  obtain ⟨o, es, ep, t, ho, hex, hd, g, nd, hm, hb, hf, hn, hr, hl⟩ := R
  refine Calls.call_function_entry kind_sorted plain_sorted entry_sorted (args_sorted1 _) ?_
  unfold Builtin.«sorted»
  refine wpAny_bind (m := checkCount "sorted" 1 1 _) (wpAny_pure (wpAny_bind (collect_set (A := A.in1) hh ⟨o, ho, hex.1, hd⟩ hf hb hr hl fun s1 vs k1 hz g1 o1 pm => ?_)))
  have hvl : vs.length = n := by rw [pm.length_eq, List.length_map, Array.length_toList]; exact hn
  have hvz : vs.length ≤ sizeLine := by rw [hvl, ← hn]; exact fits_of_scanBound hb
  have hI : IntsAre vs (vs.map SrtO.iv) := SrtO.ints_iv fun v hv => by
    obtain ⟨e, he, q⟩ := List.mem_map.mp (pm.mem_iff.mp hv)
    obtain ⟨k, tk, h1, _⟩ := g e he
    exact ⟨k, tk, q ▸ h1⟩
  have pk : (vs.map SrtO.iv).Perm (es.toList.map keyOf) := by
    have q := pm.map SrtO.iv
    rw [List.map_map] at q
    exact q
  refine wpAny_bind (wpAny_newList ?_ hvz)
  have hoL : (s1.heap.push (seqObj "list" vs.toArray 0)).get? s1.heap.objs.size = some (seqObj "list" vs.toArray 0) := Heap.get?_push_size _ rfl
  refine wpAny_bind (wpAny_holding (wpAny_call_entry slot_list_sort ⟨_, hoL, rfl⟩ entry_list_sort (SrtO.list_sort_ord SrtO.swo_int hoL hvz (fun h2 => SrtO.ints_sortable hI h2) fun out h1 h2 => ⟨_, rfl, ?_⟩) (args_list_sort _)))
  obtain ⟨a1, a2, a3⟩ := SrtO.ints_out hI h1 h2
  obtain ⟨c, hc⟩ := sortedHeap_at (vs := vs) (out := out.toArray) hoL
  have pn := a2.trans pk
  refine wpAny_pure ⟨_, rfl, hQ _ s1.heap.objs.size out c _ (fun b u e => ?_) g1 o1 hz hc a1 (lt_of_le_nodup _ a3 (pn.nodup_iff.mpr nd)) (fun k => by rw [pn.mem_iff, ← hm k]) (by rw [pn.length_eq, List.length_map, Array.length_toList]; exact hn) (hn ▸ hb)⟩
  have hlt := Heap.lt_size (k1 b u e)
  show (sortedHeap (s1.heap.push (seqObj "list" vs.toArray 0)) s1.heap.objs.size vs out.toArray).get? b = some u
  rw [sortedHeap_old (Nat.ne_of_lt hlt) (by rw [size_push']; exact Nat.lt_succ_of_lt hlt)]
  exact Heap.get?_push_of_some _ (k1 b u e)
end
section
variable {X : Cx}
def rSortedA (w : World) : List V → Hp → VK → Prop := fun vs H Q => ∃ (a : Addr) (S : Int → Bool) (n : Nat), vs = [V.ref a] ∧ H a = some (SetO w a S n) ∧
  ∀ (ns : List Int) (p : Addr), ns.Pairwise (· < ·) → (∀ k : Int, k ∈ ns ↔ S k = true) → ns.length = n → H p = none → Q (.ref p) (upd H p (.lst (ns.map V.int)))
theorem cr_sortedA (hc : X.calm = true) : CallR X (.builtin "sorted") (rSortedA X.w) := by
  intro pins s σ H vs us Q I r h
  obtain ⟨a, S, n, rfl, ha, q⟩ := h
  rw [Vals.ref1 r]
  refine sorted_setA (setO_get I ha) (I.ok.hd hc) fun s' p out c ns k g o hp hg hi hs hm hl hb => ?_
  have hn : H p = none := I.hok.fresh hp
  have len : (ns.map V.int).length ≤ sizeLine := by rw [List.length_map, hl]; exact fits_of_scanBound hb
  have J : Inv X pins σ (upd H p (.lst (ns.map V.int))) { s with heap := s'.heap, gens := s'.gens, drawn := s'.drawn, toks := s'.toks } :=
    I.call (ch := []) (Un.laid k hp hn) (I.hok.laid k hp ⟨len, out, c, vals_of_ints hi, hg⟩) (by rw [g]; exact I.bare) (fun _ z => nomatch z)
  obtain ⟨x1, x2, x3, x4, x5⟩ := s'
  obtain ⟨y1, y2, y3, y4, y5⟩ := s
  cases o
  exact ⟨.ref p, _, J, rfl, q ns p hs hm hl hn⟩
end
end CvS

/-! walks by an invariant over (place, heap), the turn's reading left open -/
namespace CvW
open PySem PySem.Spec PyProof.Rows L2
/-- a tuple's walk within a comprehension -/
theorem walkT {K : PySem.W.Frag} {a : Addr} {xs : List V} {H0 : Hp} {B : V → Hp → (Hp → Prop) → Prop} {Z : Hp → Prop} (Pv : Nat → Hp → Prop) (h0 : Pv 0 H0) (hl : ∀ j H, Pv j H → SqT K H a xs)
    (hs : ∀ j x H, xs[j]? = some x → Pv j H → B x H (Pv (j + 1))) (hd : ∀ H, Pv xs.length H → Z H) : ∃ W : Nat → Nat → Hp → Prop, (∃ m, W 0 m H0) ∧ ∀ j k H, W j k H → ((Itt K a).stop j H ∧ Z H) ∨
      ((Itt K a).go j H ∧ ∃ Z1 : Hp → Prop, (∀ H', Z1 H' → ∃ k', k' < k ∧ W (j + 1) k' H') ∧ ∀ x H', (Itt K a).yld j H x H' → B x H' Z1) := by
  refine ⟨fun j k H => k = xs.length - j ∧ j ≤ xs.length ∧ Pv j H, ⟨_, rfl, Nat.zero_le _, h0⟩, ?_⟩
  rintro j k H ⟨rfl, hj, p⟩
  have q := hl j H p
  rcases Nat.lt_or_ge j xs.length with lt | ge
  · refine .inr ⟨⟨xs, xs[j], q, by simp [lt]⟩, Pv (j + 1), fun H' p' => ⟨_, by omega, rfl, lt, p'⟩, ?_⟩
    rintro x H' ⟨rfl, y⟩
    exact hs j x _ (y xs q) p
  · obtain rfl : j = xs.length := by omega
    exact .inl ⟨⟨xs, q, Nat.le_refl _⟩, hd H p⟩
/-- a list's -/
theorem walkL {K : PySem.W.Frag} {a : Addr} {xs : List V} {H0 : Hp} {B : V → Hp → (Hp → Prop) → Prop} {Z : Hp → Prop} (Pv : Nat → Hp → Prop) (h0 : Pv 0 H0) (hl : ∀ j H, Pv j H → SqL K H a xs)
    (hs : ∀ j x H, xs[j]? = some x → Pv j H → B x H (Pv (j + 1))) (hd : ∀ H, Pv xs.length H → Z H) : ∃ W : Nat → Nat → Hp → Prop, (∃ m, W 0 m H0) ∧ ∀ j k H, W j k H → ((Itl K a).stop j H ∧ Z H) ∨
      ((Itl K a).go j H ∧ ∃ Z1 : Hp → Prop, (∀ H', Z1 H' → ∃ k', k' < k ∧ W (j + 1) k' H') ∧ ∀ x H', (Itl K a).yld j H x H' → B x H' Z1) := by
  refine ⟨fun j k H => k = xs.length - j ∧ j ≤ xs.length ∧ Pv j H, ⟨_, rfl, Nat.zero_le _, h0⟩, ?_⟩
  rintro j k H ⟨rfl, hj, p⟩
  have q := hl j H p
  rcases Nat.lt_or_ge j xs.length with lt | ge
  · refine .inr ⟨⟨xs, xs[j], q, by simp [lt]⟩, Pv (j + 1), fun H' p' => ⟨_, by omega, rfl, lt, p'⟩, ?_⟩
    rintro x H' ⟨rfl, y⟩
    exact hs j x _ (y xs q) p
  · obtain rfl : j = xs.length := by omega
    exact .inl ⟨⟨xs, q, Nat.le_refl _⟩, hd H p⟩
/-- no test: kept -/
theorem yesI {σ : L2.St} {H : Hp} {A B : Hp → Prop} (h : A H) : tYes σ H fun b H' => if b = true then A H' else B H' := by
  show if true = true then A H else B H
  rw [if_pos rfl]
  exact h
theorem seqI {t u : TS} {D : Ends} {σ : L2.St} {H : Hp} (h : t { D with nx := u D } σ H) : tSeq t u D σ H := h
/-- for over the keys of a locked dict -/
theorem for_keysD {d : Addr} {o : Obj} {kvs : List (Key × V)} {g : TG} {tb : TS} {D : Ends} {σ : L2.St} {H : Hp} (Pv : Nat → L2.St → Hp → Prop) (h0 : Pv 0 σ H) (hl : ∀ i σ H, Pv i σ H → H d = some (.frz o (.dK kvs)))
    (hs : ∀ i k v σ H, kvs[i]? = some (k, v) → Pv i σ H → g (kV k) σ H fun τ H2 => tb { D with nx := Pv (i + 1), ct := Pv (i + 1), bk := D.nx } τ H2) (hd : ∀ σ H, Pv kvs.length σ H → D.nx σ H) :
    ∃ W : Nat → Nat → L2.St → Hp → Prop, (∃ m, W 0 m σ H) ∧ ∀ i m σ H, W i m σ H → ((Itk d o kvs).stop i H ∧ D.nx σ H) ∨
      ((Itk d o kvs).go i H ∧ ∃ N : L2.St → Hp → Prop, (∀ σ' H', N σ' H' → ∃ m', m' < m ∧ W (i + 1) m' σ' H') ∧ ∀ x H', (Itk d o kvs).yld i H x H' → g x σ H' fun τ H2 => tb { D with nx := N, ct := N, bk := D.nx } τ H2) := by
  refine ⟨fun i m σ H => m = kvs.length - i ∧ i ≤ kvs.length ∧ Pv i σ H, ⟨_, rfl, Nat.zero_le _, h0⟩, ?_⟩
  rintro i m σ H ⟨rfl, hi, p⟩
  have q := hl i σ H p
  rcases Nat.lt_or_ge i kvs.length with lt | ge
  · refine .inr ⟨⟨q, lt⟩, Pv (i + 1), fun σ' H' p' => ⟨_, by omega, rfl, lt, p'⟩, ?_⟩
    rintro x H' ⟨rfl, k, v, e, rfl⟩
    exact hs i k v σ _ e p
  · obtain rfl : i = kvs.length := by omega
    exact .inl ⟨⟨q, Nat.le_refl _⟩, hd σ H p⟩
/-- the values of a locked dict within a comprehension -/
theorem walkV {d : Addr} {o : Obj} {kvs : List (Key × V)} {H0 : Hp} {B : V → Hp → (Hp → Prop) → Prop} {Z : Hp → Prop} (Pv : Nat → Hp → Prop) (h0 : Pv 0 H0) (hl : ∀ j H, Pv j H → H d = some (.frz o (.dK kvs)))
    (hs : ∀ j k x H, kvs[j]? = some (k, x) → Pv j H → B x H (Pv (j + 1))) (hd : ∀ H, Pv kvs.length H → Z H) : ∃ W : Nat → Nat → Hp → Prop, (∃ m, W 0 m H0) ∧ ∀ j k H, W j k H → ((Itd d o kvs).stop j H ∧ Z H) ∨
      ((Itd d o kvs).go j H ∧ ∃ Z1 : Hp → Prop, (∀ H', Z1 H' → ∃ k', k' < k ∧ W (j + 1) k' H') ∧ ∀ x H', (Itd d o kvs).yld j H x H' → B x H' Z1) := by
  refine ⟨fun j k H => k = kvs.length - j ∧ j ≤ kvs.length ∧ Pv j H, ⟨_, rfl, Nat.zero_le _, h0⟩, ?_⟩
  rintro j k H ⟨rfl, hj, p⟩
  have q := hl j H p
  rcases Nat.lt_or_ge j kvs.length with lt | ge
  · refine .inr ⟨⟨q, lt⟩, Pv (j + 1), fun H' p' => ⟨_, by omega, rfl, lt, p'⟩, ?_⟩
    rintro x H' ⟨rfl, k, e⟩
    exact hs j k x _ e p
  · obtain rfl : j = kvs.length := by omega
    exact .inl ⟨⟨q, Nat.le_refl _⟩, hd H p⟩
/-- a range's walk within a comprehension -/
theorem walkR {lo : Int} {n : Nat} {H0 : Hp} {B : V → Hp → (Hp → Prop) → Prop} {Z : Hp → Prop} (Pv : Nat → Hp → Prop) (h0 : Pv 0 H0) (hs : ∀ j H, j < n → Pv j H → B (.int (lo + j)) H (Pv (j + 1))) (hd : ∀ H, Pv n H → Z H) :
    ∃ W : Nat → Nat → Hp → Prop, (∃ m, W 0 m H0) ∧ ∀ j k H, W j k H → ((Itr lo n).stop j H ∧ Z H) ∨ ((Itr lo n).go j H ∧ ∃ Z1 : Hp → Prop, (∀ H', Z1 H' → ∃ k', k' < k ∧ W (j + 1) k' H') ∧ ∀ x H', (Itr lo n).yld j H x H' → B x H' Z1) := by
  refine ⟨fun j k H => k = n - j ∧ j ≤ n ∧ Pv j H, ⟨_, rfl, Nat.zero_le _, h0⟩, ?_⟩
  rintro j k H ⟨rfl, hj, p⟩
  rcases Nat.lt_or_ge j n with lt | ge
  · refine .inr ⟨lt, Pv (j + 1), fun H' p' => ⟨_, by omega, rfl, lt, p'⟩, ?_⟩
    rintro x H' ⟨rfl, rfl⟩
    exact hs j _ lt p
  · obtain rfl : j = n := by omega
    exact .inl ⟨Nat.le_refl _, hd H p⟩
end CvW

/-! is_cave, check_cave, rooms_of -/
namespace Cv
open PySem PySem.Spec PyProof.Rows L2 CvT CvS CvW
abbrev sFar : Stmt := topS 9
abbrev sRooms : Stmt := topS 10
theorem scFar : FnScope ["way", "room"] ["way", "room"] (defScope sFar) := ⟨rfl, rfl, rfl, by decide +kernel, rfl, by decide +kernel, by decide +kernel⟩
theorem scRooms : FnScope ["cave", "way", "room"] ["cave"] (defScope sRooms) := ⟨rfl, rfl, rfl, by decide +kernel, rfl, by decide +kernel, by decide +kernel⟩
theorem passE {P : Program} {w : World} {X : Cx} : Passes (L2.CX P w) X E0 := fun _ _ _ _ _ _ _ ⟨_, _, _, _, _, _, _, _, _, _, _, _, z⟩ => z.elim
/-- the facts of an own error's class -/
structure OwnX (K : PySem.W.Frag) (mg : Str → Option Value) (x : Str) (C : Addr) : Prop where
  ex : PySem.W.excIn K C [.type "ValueError", .type "Exception", .type "BaseException", .type "object"] "ValueError.__new__" = true
  g : mg x = some (.ref C)
  k : PySem.W.keepIn K (.ref C) = true
  b : PySem.W.subIn K (.ref C) (.type "BaseException") = some true
  t : PySem.W.typeIn K (.ref C) = some (.type "type")
/-- what is_cave's callers know -/
structure DefsC (K : PySem.W.Frag) (mg : Str → Option Value) (fR fW fA fI : Addr) (dR dW dA dI : FuncData) : Prop where
  T : TxtC mg
  R : Fun K "is_room" "is_room" sRoom fR dR
  bR : Binds K dR ["thing"] []
  gR : mg "is_room" = some (.ref fR)
  W : Fun K "is_way" "is_way" sWay fW dW
  bW : Binds K dW ["thing"] []
  gW : mg "is_way" = some (.ref fW)
  A : Fun K "are_ascending_ways" "are_ascending_ways" sAsc fA dA
  bA : Binds K dA ["thing"] []
  gA : mg "are_ascending_ways" = some (.ref fA)
  I : Fun K "is_cave" "is_cave" sIsC fI dI
  bI : Binds K dI ["thing"] []
  gI : mg "is_cave" = some (.ref fI)
theorem asc_no {d : PyData} (h : tyD d ≠ "tuple") : isCaveD d = false := by
  unfold isCaveD
  rw [asc_not h, Bool.false_and]
section
variable {P : Program} {w : World} {K : PySem.W.Frag} {mg : Str → Option Value} {base : Heap} {fR fW fA fI : Addr} {dR dW dA dI : FuncData}
theorem ok_isC {k : Nat} (D : DefsC K mg fR fW fA fI dR dW dA dI) : FnOk P w K mg base CX0 (k + 4) fI dI ["thing"] (spD K isCaveD) := by
  have GA : FnOk P w K mg base CX0 (k + 3) fA dA ["thing"] (spD K ascD) := ok_asc D.A D.T D.W D.bW D.gW D.R D.bR D.gR
  refine D.I.ok scIsC (fun vs H Q E h => ?_) (fun cdv A outer s H vs Q E hr h => ?_)
  · obtain ⟨v, d, rfl, _⟩ := h
    rfl
  · obtain ⟨v, d, rfl, hd, q⟩ := h
    refine ⟨_, pss_one (ps_ret (pe_and (pe_call GA hr (by rfl) D.gA D.A.kp D.bA .nil pass0 (pa_cons (pv 0) pa_nil)) (pe_one (pe_cmpR op_gt (pe_callB call_len_seq (by rfl) D.T.len PySem.boot_len (pa_cons (pv 0) pa_nil)) pe_int (nomark _))))), ?_⟩
    refine ⟨v, rfl, v, d, rfl, hd, fun H1 s1 => ⟨_, rfl, ite2 (fun e => ?_) (fun e => ?_)⟩⟩
    · have q1 := q H1 s1
      cases d with
      | tuple ds =>
        obtain ⟨a, xs, rfl, hT, hA⟩ := (Dq.up s1 _ hd).tup_inv
        refine ⟨.ref a, rfl, a, xs, rfl, .inr hT, _, _, rfl, rfl, ?_⟩
        have z : isCaveD (.tuple ds) = decide ((0 : Int) < ((xs.length : Nat) : Int)) := by
          unfold isCaveD
          rw [e, Bool.true_and, hA.len]
          exact decide_eq_decide.mpr (by omega)
        rw [z] at q1
        exact q1
      | _ => cases e
    · have q1 := q H1 s1
      have z : isCaveD d = false := by
        unfold isCaveD
        rw [Bool.eq_false_iff.mpr e, Bool.false_and]
      rw [z] at q1
      exact q1
/-- a check: None, or the error of the class at C -/
def spCk (K : PySem.W.Frag) (C : Addr) : Sp := fun vs H Q E => ∃ (v : V) (d : PyData), vs = [v] ∧ Dq K H v d ∧ (isCaveD d = true → ∀ H', Same H H' → Q .non H') ∧ (isCaveD d = false → ∀ H', Same H H' → E (.ref C) none H')
theorem ok_chk {f C : Addr} {fd : FuncData} {k : Nat} (F : Fun K "check_cave" "check_cave" sChk f fd) (D : DefsC K mg fR fW fA fI dR dW dA dI) (O : OwnX K mg "InvalidCave" C) : FnOk P w K mg base (L2.CX P w) (k + 5) f fd ["cave"] (spCk K C) := by
  have GI : FnOk P w K mg base CX0 (k + 4) fI dI ["thing"] (spD K isCaveD) := ok_isC D
  refine F.okX scChk (fun vs H Q E h => ?_) (fun cdv A outer s H vs Q E hr h => ?_)
  · obtain ⟨v, d, rfl, _⟩ := h
    rfl
  · obtain ⟨v, d, rfl, hd, q1, q2⟩ := h
    refine ⟨_, pss_one (ps_if (pt_not (pt_val (pe_call GI hr (by rfl) D.gI D.I.kp D.bI .nil pass0 (pa_cons (pv 0) pa_nil))))
      (pss_one (ps_raise rfl (takes_of rfl rfl rfl rfl) (pmk_own PySem.F.excBase_ValueError O.ex O.g O.k (raises_own O.b O.t) (by rfl)))) pss_nil), ?_⟩
    refine ⟨v, rfl, v, d, rfl, hd, fun H1 s1 => ⟨_, rfl, ite2 (fun e => ?_) (fun e => ?_)⟩⟩
    · exact q2 (by simpa using e) H1 s1
    · exact q1 (by simpa using e) H1 s1
/-- the rooms, a new list; or the error -/
def spRooms (K : PySem.W.Frag) (C : Addr) : Sp := fun vs H Q E => ∃ (v : V) (d : PyData), vs = [v] ∧ Dq K H v d ∧
  (∀ c, d = caveD c → Good c → ∀ H' p, Same H H' → H p = none → H' p = some (.lst ((roomsM c).map V.int)) → Q (.ref p) H') ∧ (isCaveD d = false → ∀ H', Same H H' → E (.ref C) none H')
end
/-- the cave c stands at a, its ways at ts -/
structure CvAt (K : PySem.W.Frag) (H : Hp) (a : Addr) (ts : List Addr) (c : List (Int × Int)) : Prop where
  sq : SqT K H a (ts.map V.ref)
  len : ts.length = c.length
  it : ∀ (i : Nat) (t : Addr) (p : Int × Int), ts[i]? = some t → c[i]? = some p → SqT K H t [.int p.1, .int p.2]
theorem CvAt.up {K : PySem.W.Frag} {H H' : Hp} {a : Addr} {ts : List Addr} {c : List (Int × Int)} (e : Same H H') (h : CvAt K H a ts c) : CvAt K H' a ts c := ⟨SqT.up e h.sq, h.len, fun i t p h1 h2 => SqT.up e (h.it i t p h1 h2)⟩
theorem DqAll.two {K : PySem.W.Frag} {H : Hp} {ys : List V} {m n : Int} (h : DqAll K H ys [.int m, .int n]) : ys = [.int m, .int n] := by
  cases h with
  | cons h1 h =>
    cases h1
    cases h with
    | cons h1 h =>
      cases h1
      cases h
      rfl
theorem DqAll.ways {K : PySem.W.Frag} {H : Hp} : ∀ {xs : List V} {c : List (Int × Int)}, DqAll K H xs (c.map wayD) → ∃ ts : List Addr, xs = ts.map V.ref ∧ ts.length = c.length ∧ ∀ (i : Nat) (t : Addr) (p : Int × Int), ts[i]? = some t → c[i]? = some p → SqT K H t [.int p.1, .int p.2]
  | _, [], h => by
    cases h
    exact ⟨[], rfl, rfl, fun i t p h => by simp at h⟩
  | _, p :: c, h => by
    cases h with
    | cons h1 h2 =>
      obtain ⟨t, ys, rfl, hT, hA⟩ := Dq.tup_inv (ds := [.int p.1, .int p.2]) h1
      obtain ⟨ts, rfl, hl, hi⟩ := DqAll.ways h2
      rw [DqAll.two hA] at hT
      refine ⟨t :: ts, rfl, congrArg (· + 1) hl, fun i u q h1 h2 => ?_⟩
      match i, h1, h2 with
      | 0, h1, h2 =>
        cases h1
        cases h2
        exact hT
      | i + 1, h1, h2 => exact hi i u q (by simpa using h1) (by simpa using h2)
theorem Dq.cave {K : PySem.W.Frag} {H : Hp} {v : V} {c : List (Int × Int)} (h : Dq K H v (caveD c)) : ∃ (a : Addr) (ts : List Addr), v = .ref a ∧ CvAt K H a ts c := by
  obtain ⟨a, xs, rfl, hT, hA⟩ := Dq.tup_inv (ds := c.map wayD) h
  obtain ⟨ts, rfl, hl, hi⟩ := hA.ways
  exact ⟨a, ts, rfl, hT, hl, hi⟩
/-- the set at D holds the M's -/
def SetIs (w : World) (H1 : Hp) (D : Addr) (M : Int → Prop) (H : Hp) : Prop := ∃ (S : Int → Bool) (l : List Int), H D = some (SetO w D S l.length) ∧ Same H1 H ∧ l.Nodup ∧ (∀ k, S k = true ↔ k ∈ l) ∧ ∀ k, k ∈ l ↔ M k
theorem SetIs.new {w : World} {H1 : Hp} {D : Addr} (h : H1 D = none) : SetIs w H1 D (fun _ => False) (upd H1 D (SetO w D (fun _ => false) 0)) :=
  ⟨fun _ => false, [], upd_same, same_upd h, List.nodup_nil, fun k => by simp, fun k => by simp⟩
theorem SetIs.add {w : World} {H1 H : Hp} {D : Addr} {M M' : Int → Prop} {c : Int} (n1 : H1 D = none) (h : SetIs w H1 D M H) (hM : ∀ k, M' k ↔ M k ∨ k = c) (hb : ∀ k, M k → 0 ≤ k ∧ k < 100) :
    ∃ (S : Int → Bool) (n : Nat), H D = some (SetO w D S n) ∧ n + 1 < scanBound ∧ SetIs w H1 D M' (upd H D (SetO w D (fun j => S j || decide (j = c)) (if S c = true then n else n + 1))) := by
  obtain ⟨S, l, hD, hs, nd, hS, hm⟩ := h
  have hl := nd_len 100 l nd fun k hk => hb k ((hm k).mp hk)
  have s2 : ∀ o, Same H1 (upd H D o) := fun o b x e => by
    rw [upd_ne (ne_of_none e n1)]
    exact hs b x e
  refine ⟨S, l.length, hD, by unfold scanBound; omega, ?_⟩
  by_cases z : S c = true
  · rw [if_pos z]
    refine ⟨_, l, upd_same, s2 _, nd, fun k => ?_, fun k => ?_⟩
    · rw [Bool.or_eq_true, decide_eq_true_eq, hS]
      exact ⟨fun q => q.elim id fun e => e ▸ (hS c).mp z, .inl⟩
    · rw [hM, hm]
      exact ⟨.inl, fun q => q.elim id fun e => e ▸ (hm c).mp ((hS c).mp z)⟩
  · rw [if_neg z]
    have nc : c ∉ l := fun q => z ((hS c).mpr q)
    refine ⟨_, c :: l, upd_same, s2 _, List.nodup_cons.mpr ⟨nc, nd⟩, fun k => ?_, fun k => ?_⟩
    · rw [Bool.or_eq_true, decide_eq_true_eq, hS, List.mem_cons]
      exact Or.comm
    · rw [hM, List.mem_cons, hm]
      exact Or.comm
section
variable {P : Program} {w : World} {K : PySem.W.Frag} {mg : Str → Option Value} {base : Heap} {fR fW fA fI : Addr} {dR dW dA dI : FuncData}
theorem ok_rooms {f fC C : Addr} {fd dC : FuncData} {k : Nat} (F : Fun K "rooms_of" "rooms_of" sRooms f fd) (D : DefsC K mg fR fW fA fI dR dW dA dI) (FC : Fun K "check_cave" "check_cave" sChk fC dC) (bC : Binds K dC ["cave"] []) (gC : mg "check_cave" = some (.ref fC))
    (O : OwnX K mg "InvalidCave" C) (gs : mg "sorted" = none) : FnOk P w K mg base (L2.CX P w) (k + 6) f fd ["cave"] (spRooms K C) := by
  have GC : FnOk P w K mg base (L2.CX P w) (k + 5) fC dC ["cave"] (spCk K C) := ok_chk FC D O
  refine F.okX scRooms (fun vs H Q E h => ?_) (fun cdv A outer s H vs Q E hr h => ?_)
  · obtain ⟨v, d, rfl, _⟩ := h
    rfl
  · obtain ⟨v, d, rfl, hd, q1, q2⟩ := h
    refine ⟨_, pss_cons (ps_expr (pe_call GC hr (by rfl) gC FC.kp bC .nil (passes_call (takes_of rfl rfl rfl rfl) fun _ _ _ _ h => h) (pa_cons (pv 0) pa_nil)))
      (pss_one (ps_ret (pe_callB (cr_sortedA rfl) (by rfl) gs (by decide +kernel) (pa_cons (pe_sc2 (own := [("way", 1), ("room", 2)]) (vs1 := [2]) (g := gName 1) (g1 := gName 2) rfl scRooms.nd (pi_tup (pv 0))
        (blkOk_by (own := [("way", 1), ("room", 2)]) (N := ["cave", "way", "room"]) (sc := defScope sRooms) (by decide +kernel)) (by decide) (fun _ _ _ _ _ => pg_name (i := 1) scRooms.nd rfl (.inl rfl)) (fun _ _ _ _ _ => pi_tup (pv 1))
        (fun _ _ _ _ _ => pg_name (i := 2) scRooms.nd rfl (.inl rfl)) (fun _ _ _ _ _ => pv 2) (wi1 := iTup K (tVar 1)) (te := tVar 2)) pa_nil)))), ?_⟩
    refine ⟨v, rfl, v, d, rfl, hd, fun e H1 s1 => ?_, q2⟩
    obtain ⟨c, rfl, g⟩ := cav_inv e
    obtain ⟨a, ts, rfl, hc⟩ := (Dq.up s1 _ hd).cave
    have q1 := q1 c rfl g
    refine ⟨.ref a, rfl, a, rfl, ⟨_, hc.sq⟩, fun S nS => ?_⟩
    have bd : ∀ i k, (∃ p ∈ c.take i, p.1 = k ∨ p.2 = k) → 0 ≤ k ∧ k < 100 := fun i k ⟨p, hp, z⟩ => by
      have := g.rg p (List.mem_of_mem_take hp)
      unfold RgW at this
      omega
    refine walkT (K := K) (a := a) (xs := ts.map V.ref) (fun i H => SetIs w H1 S (fun k => ∃ p ∈ c.take i, p.1 = k ∨ p.2 = k) H) ?_ (fun j H ⟨_, _, _, s2, _⟩ => SqT.up s2 hc.sq) ?_ ?_
    · refine (congrArg (fun M => SetIs w H1 S M _) (funext fun k => ?_)).mp (SetIs.new nS)
      simp
    · intro i x H2 hx I2
      obtain ⟨t, ht, rfl⟩ : ∃ t, ts[i]? = some t ∧ x = V.ref t := by
        rw [List.getElem?_map] at hx
        cases e : ts[i]? with
        | none => rw [e] at hx; cases hx
        | some t => rw [e] at hx; exact ⟨t, rfl, (Option.some.inj hx).symm⟩
      have hi : i < c.length := by
        have := (List.getElem?_eq_some_iff.mp ht).1
        rw [hc.len] at this
        exact this
      have hp : c[i]? = some c[i] := List.getElem?_eq_getElem hi
      generalize c[i] = p at hp
      have rp : RgW p := g.rg p (List.mem_of_getElem? hp)
      have hw := hc.it i t p ht hp
      obtain ⟨_, _, _, s2, _⟩ := id I2
      refine ⟨rfl, .ref t, rfl, t, rfl, ⟨_, SqT.up s2 hw⟩, ?_⟩
      refine walkT (K := K) (a := t) (xs := [.int p.1, .int p.2]) (fun j H => SetIs w H1 S (fun k => (∃ p ∈ c.take i, p.1 = k ∨ p.2 = k) ∨ (1 ≤ j ∧ k = p.1) ∨ (2 ≤ j ∧ k = p.2)) H) ?_ (fun j H ⟨_, _, _, s3, _⟩ => SqT.up s3 hw) ?_ ?_
      · refine (congrArg (fun M => SetIs w H1 S M _) (funext fun k => ?_)).mp I2
        simp
      · intro j y H3 hy I3
        obtain ⟨n, rfl, hn⟩ : ∃ n, y = .int n ∧ ((j = 0 ∧ n = p.1) ∨ (j = 1 ∧ n = p.2)) := by
          match j, hy with
          | 0, hy => cases hy; exact ⟨_, rfl, .inl ⟨rfl, rfl⟩⟩
          | 1, hy => cases hy; exact ⟨_, rfl, .inr ⟨rfl, rfl⟩⟩
          | j + 2, hy => simp at hy
        have hM : ∀ k, ((∃ p ∈ c.take i, p.1 = k ∨ p.2 = k) ∨ (1 ≤ j + 1 ∧ k = p.1) ∨ (2 ≤ j + 1 ∧ k = p.2)) ↔ ((∃ p ∈ c.take i, p.1 = k ∨ p.2 = k) ∨ (1 ≤ j ∧ k = p.1) ∨ (2 ≤ j ∧ k = p.2)) ∨ k = n := fun k => by
          constructor
          · rintro (z | ⟨z, rfl⟩ | ⟨z, rfl⟩)
            · exact .inl (.inl z)
            · rcases hn with ⟨rfl, rfl⟩ | ⟨rfl, rfl⟩
              · exact .inr rfl
              · exact .inl (.inr (.inl ⟨by omega, rfl⟩))
            · rcases hn with ⟨rfl, rfl⟩ | ⟨rfl, rfl⟩
              · omega
              · exact .inr rfl
          · rintro ((z | ⟨z, rfl⟩ | ⟨z, rfl⟩) | rfl)
            · exact .inl z
            · exact .inr (.inl ⟨by omega, rfl⟩)
            · exact .inr (.inr ⟨by omega, rfl⟩)
            · rcases hn with ⟨rfl, rfl⟩ | ⟨rfl, rfl⟩
              · exact .inr (.inl ⟨by omega, rfl⟩)
              · exact .inr (.inr ⟨by omega, rfl⟩)
        have hB : ∀ k, ((∃ p ∈ c.take i, p.1 = k ∨ p.2 = k) ∨ (1 ≤ j ∧ k = p.1) ∨ (2 ≤ j ∧ k = p.2)) → 0 ≤ k ∧ k < 100 := fun k hk => by
          unfold RgW at rp
          rcases hk with z | ⟨z, rfl⟩ | ⟨z, rfl⟩
          · exact bd i k z
          · omega
          · omega
        obtain ⟨T, m, e1, e2, e3⟩ := I3.add (c := n) nS hM hB
        exact ⟨rfl, _, rfl, n, T, m, rfl, e1, e2, e3⟩
      · intro H3 I3
        refine (congrArg (fun M => SetIs w H1 S M _) (funext fun k => propext ?_)).mp I3
        rw [List.take_add_one, hp]
        simp only [List.length_cons, List.length_nil, List.mem_append, Option.toList_some, List.mem_singleton]
        constructor
        · rintro (⟨r, h1, h2⟩ | ⟨_, rfl⟩ | ⟨_, rfl⟩)
          · exact ⟨r, .inl h1, h2⟩
          · exact ⟨p, .inr rfl, .inl rfl⟩
          · exact ⟨p, .inr rfl, .inr rfl⟩
        · rintro ⟨r, h1 | rfl, h2⟩
          · exact .inl ⟨r, h1, h2⟩
          · rcases h2 with rfl | rfl
            · exact .inr (.inl ⟨by omega, rfl⟩)
            · exact .inr (.inr ⟨by omega, rfl⟩)
    · rintro H2 ⟨S2, l, e1, s2, nd, h1, h2⟩
      refine ⟨S, S2, _, rfl, e1, fun ns p asc mem _ np => ?_⟩
      have e : ns = roomsM c := asc_ext asc (asc_rooms c) fun k => by
        rw [mem, h1, h2, mem_rooms g.rg, List.length_map, hc.len, List.take_length]
      rw [e]
      exact q1 _ p (s1.trans (s2.trans (same_upd np))) (s1.free (s2.free np)) upd_same
end
end Cv

/-! y = {k: v for ..} as a statement -/
namespace CvD
open PySem PySem.Spec PyProof.Rows L2
section
variable {X : Cx}
abbrev dcE (kx vx tg iter : Expr) (ifs : List Expr) (scope : Scope) (pos : Pos) : Expr := .DictComp kx vx [⟨tg, iter, ifs, 0⟩] scope pos
theorem ps_setDc {i : Nat} {y : Str} {py : Pos} {kx vx tg iter : Expr} {ifs : List Expr} {scope : Scope} {own : List (Str × Nat)} {pos spos : Pos} {wi : TI} {g : TG} {tt : TT} {tk tv : TE} (hc : X.calm = true) (hN : X.N.Nodup) (hy : X.N[i]? = some y)
    (hyl : X.env.scope.names.lookup y = some .local) (hsw : swapsWith (dcE kx vx tg iter ifs scope pos) (some (.Name y py)) spos.line X.env = pure true) (hi : PI X tg iter wi) (ok : BlkOk X.N X.env.scope scope own)
    (pG : ∀ (s : Shared) (H : Hp) (C : Addr) (cl : List (Str × Addr)) (fp : List Addr), PG (X.blk s H scope (compEnvC scope cl C X.env) fp) tg g)
    (pT : ∀ (s : Shared) (H : Hp) (C : Addr) (cl : List (Str × Addr)) (fp : List Addr), PTs (X.blk s H scope (compEnvC scope cl C X.env) fp) ifs tt)
    (pK : ∀ (s : Shared) (H : Hp) (C : Addr) (cl : List (Str × Addr)) (fp : List Addr), PE (X.blk s H scope (compEnvC scope cl C X.env) fp) kx tk)
    (pV : ∀ (s : Shared) (H : Hp) (C : Addr) (cl : List (Str × Addr)) (fp : List Addr), PE (X.blk s H scope (compEnvC scope cl C X.env) fp) vx tv) (hs : ∀ z, foldedSetIterable iter X.env z = pure z := by intro _; rfl) :
    PS X (.Assign [.Name y py] (dcE kx vx tg iter ifs scope pos) spos) (tAsg (tDc wi g tt tk tv (own.map (·.2))) (gName i)) := by
  refine ⟨fun pins s σ H D I h => ?_⟩
  rw [exec_Assign_Name_used _ _ _ _ hsw]
  refine wpAny_bind (wpAny_standAt (wpAny_bind ?_))
  show wpAny _ X.A (do let _ ← comprehension (dcE kx vx tg iter ifs scope pos) scope X.env (firstIterPos [⟨tg, iter, ifs, 0⟩] pos) newDict false (eval iter X.env) (some (assign (.Name y py) X.env))) _ _ s
  have h : tDc wi g tt tk tv (own.map (·.2)) σ H (fun x H1 => gName i x σ H1 D.nx) := h
  refine wpAny_bind (thn (dc_core (Qf := fun _ s' => SP X pins D .next s') hc hN I hi ok pG pT pK pV hs h fun L C s' m H' I' q hn f => ?_) fun _ s' hq => wpAny_pure (wpAny_pure hq))
  show wpAny _ _ (assign (.Name y py) X.env (.ref L)) _ _ _
  refine wpAny_assign_Name (store_ok2 (v := V.ref L) I' hN hy (.inl hyl) rfl (fun s2 I2 ⟨a, sb, ha⟩ => ?_) (.inr hyl))
  obtain ⟨f0, f1, f2, f3, f4, f5⟩ := f
  have other : C ≠ a := ha.elim (fun z => z ▸ f1) fun z e => f4 y a z e.symm
  exact ⟨m, hn.sameBut sb other, fun h3 sb3 => ⟨_, H', I2.turned (t' := s2.toks) (fun b o hb e => (sb3.2 b hb).trans e) f0 f1 f3 f4 f5, q⟩⟩
theorem swD {kx vx : Expr} {gs : List Comprehension} {scope : Scope} {pos py : Pos} {y : Str} {l : Nat} {env : Env} (hk : env.scope.kind = .function) (hy : env.scope.names.lookup y = some .local) (hl : (py.line == pos.line) = true)
    (ha : (scope.names.any fun (n, k) => n == y && (k == .local || k == .cell)) = false) : swapsWith (.DictComp kx vx gs scope pos) (some (.Name y py)) l env = pure true := by
  have kind : env.kindOf y = some .local := hy
  have block : env.blockKind = .function := by unfold Env.blockKind; rw [hk]; rfl
  unfold swapsWith
  simp only [block, kind, ha, Expr.pos, hl]
  rfl
end
end CvD

/-! far_end, ways_by_room -/
namespace Cv
open PySem PySem.Spec PyProof.Rows L2 CvT CvS CvW CvD
abbrev sWbr : Stmt := topS 11
theorem scWbr : FnScope ["cave", "room", "ways_at", "way"] ["cave"] (defScope sWbr) := ⟨rfl, rfl, rfl, by decide +kernel, rfl, by decide +kernel, by decide +kernel⟩
def spFar (K : PySem.W.Frag) : Sp := fun vs H Q _ => ∃ (t : Addr) (i j r : Int), vs = [.ref t, .int r] ∧ SqT K H t [.int i, .int j] ∧ Q (.int (if i = r then j else i)) H
/-- a dict from rooms to lists, as written -/
def dkL (L : List (Int × Addr)) : List (Key × V) := L.map fun q => (Sum.inl q.1, V.ref q.2)
theorem val_in : ∀ {L : List (Int × Addr)} {r : Int} {p : Addr}, (L.map (·.1)).Nodup → (r, p) ∈ L → valV (dkL L) (Sum.inl r) = some (V.ref p)
  | [], r, p, _, h => absurd h (by simp)
  | (a, b) :: L, r, p, nd, h => by
    obtain ⟨n1, n2⟩ := List.nodup_cons.mp nd
    show valV ((Sum.inl a, V.ref b) :: dkL L) _ = _
    rcases List.mem_cons.mp h with e | h
    · cases e
      exact valV_pos rfl
    · rw [valV_neg (fun e => ?_)]
      · exact val_in n2 h
      · cases e
        exact n1 (List.mem_map.mpr ⟨(a, p), h, rfl⟩)
theorem val_out : ∀ {L : List (Int × Addr)} {r : Int}, r ∉ L.map (·.1) → valV (dkL L) (Sum.inl r) = none
  | [], r, _ => rfl
  | (a, b) :: L, r, h => by
    show valV ((Sum.inl a, V.ref b) :: dkL L) _ = _
    rw [valV_neg (fun e => ?_)]
    · exact val_out fun z => h (List.mem_cons_of_mem _ z)
    · cases e
      exact h List.mem_cons_self
theorem put_new {L : List (Int × Addr)} {r : Int} {p : Addr} (h : r ∉ L.map (·.1)) : putK (dkL L) (Sum.inl r) (V.ref p) = dkL (L ++ [(r, p)]) := by
  rw [putK_new _ (val_out h)]
  unfold dkL
  rw [List.map_append]
  rfl
/-- the dict at D holds for each room of L a list of its own, with f's items; all of them are new since H0 -/
structure WB (H0 H : Hp) (D : Addr) (L : List (Int × Addr)) (f : Int → List V) : Prop where
  same : Same H0 H
  rd : Rd H D (.dK (dkL L))
  ls : ∀ q ∈ L, H q.2 = some (.lst (f q.1))
  nk : (L.map (·.1)).Nodup
  na : (L.map (·.2)).Nodup
  nD : H0 D = none
  nL : ∀ q ∈ L, H0 q.2 = none
theorem rd_ne {H : Hp} {D p : Addr} {kvs : List (Key × V)} {xs : List V} (h : Rd H D (.dK kvs)) (h2 : H p = some (.lst xs)) : D ≠ p := fun e => by
  rw [← e] at h2
  rcases h with h | ⟨o, h⟩ <;> (rw [h2] at h; cases h)
theorem rd_upd {H : Hp} {D p : Addr} {o u : HO} (h : Rd H D o) (ne : D ≠ p) : Rd (upd H p u) D o := by
  rcases h with h | ⟨x, h⟩
  · exact .inl ((upd_ne ne).trans h)
  · exact .inr ⟨x, (upd_ne ne).trans h⟩
theorem rd_up {H H' : Hp} {D : Addr} {o : HO} (s : Same H H') (h : Rd H D o) : Rd H' D o := by
  rcases h with h | ⟨x, h⟩
  · exact .inl (s _ _ h)
  · exact .inr ⟨x, s _ _ h⟩
theorem WB.up {H0 H H' : Hp} {D : Addr} {L : List (Int × Addr)} {f : Int → List V} (h : WB H0 H D L f) (s : Same H H') : WB H0 H' D L f :=
  ⟨h.same.trans s, rd_up s h.rd, fun q hq => s _ _ (h.ls q hq), h.nk, h.na, h.nD, h.nL⟩
/-- one list grows -/
theorem WB.app {H0 H : Hp} {D p : Addr} {L : List (Int × Addr)} {f f' : Int → List V} {r : Int} {x : V} (h : WB H0 H D L f) (hr : (r, p) ∈ L) (hf : ∀ k, f' k = if k = r then f k ++ [x] else f k) : WB H0 (upd H p (.lst (f r ++ [x]))) D L f' := by
  refine ⟨fun b o e => ?_, rd_upd h.rd (rd_ne h.rd (h.ls _ hr)), fun q hq => ?_, h.nk, h.na, h.nD, h.nL⟩
  · rw [upd_ne (ne_of_none e (h.nL _ hr))]
    exact h.same _ _ e
  · by_cases e : q.2 = p
    · have eq : q = (r, p) := by
        obtain ⟨i, hi, rfl⟩ := List.getElem_of_mem hq
        obtain ⟨j, hj, ej⟩ := List.getElem_of_mem hr
        have ij : i = j := by
          have z := h.na
          unfold List.Nodup at z
          rw [List.pairwise_map, List.pairwise_iff_getElem] at z
          rcases Nat.lt_trichotomy i j with c | c | c
          · have := z i j hi hj c
            rw [ej] at this
            exact absurd e this
          · exact c
          · have := z j i hj hi c
            rw [ej] at this
            exact absurd e.symm this
        subst ij
        exact ej
      subst eq
      rw [hf, if_pos rfl]
      exact upd_same
    · have ne : q.1 ≠ r := fun z => e (by
        have a := val_in h.nk hq
        have b := val_in h.nk hr
        rw [show Sum.inl q.1 = (Sum.inl r : Key) from congrArg _ z, b] at a
        exact (V.ref.inj (Option.some.inj a)).symm)
      rw [hf, if_neg ne, upd_ne e]
      exact h.ls q hq
/-- the ways that end at k -/
def wAt (ts : List Addr) (c : List (Int × Int)) (k : Int) : List V := ((ts.zip c).filter fun q => decide (q.2.1 = k) || decide (q.2.2 = k)).map fun q => V.ref q.1
def spWbr (K : PySem.W.Frag) : Sp := fun vs H Q _ => ∃ (a : Addr) (ts : List Addr) (c : List (Int × Int)), vs = [.ref a] ∧ Dq K H (.ref a) (caveD c) ∧ CvAt K H a ts c ∧ Good c ∧
  ∀ H' D L, WB H H' D L (wAt ts c) → H' D = some (.dK (dkL L)) → L.map (·.1) = roomsM c → Q (.ref D) H'
section
variable {P : Program} {w : World} {K : PySem.W.Frag} {mg : Str → Option Value} {base : Heap}
theorem ok_far {f : Addr} {fd : FuncData} {k : Nat} (F : Fun K "far_end" "far_end" sFar f fd) : FnOk P w K mg base CX0 (k + 1) f fd ["way", "room"] (spFar K) := by
  refine F.ok scFar (fun vs H Q E h => ?_) (fun cdv A outer s H vs Q E hr h => ?_)
  · obtain ⟨t, i, j, r, rfl, _⟩ := h
    rfl
  · obtain ⟨t, i, j, r, rfl, hT, q⟩ := h
    refine ⟨_, pss_one (ps_ret (pe_ifExp (pt_cmpR op_eq (pe_ix ix_tup (pv 0) pe_int (fun _ _ => rfl)) (pv 1) (nomark _)) (pe_ix ix_tup (pv 0) pe_int (fun _ _ => rfl)) (pe_ix ix_tup (pv 0) pe_int (fun _ _ => rfl)))), ?_⟩
    refine ⟨.ref t, rfl, t, _, 0, .int i, rfl, rfl, hT, atI_nat (j := 0) rfl, .int r, rfl, rfl, _, rfl, ite2 (fun e => ?_) (fun e => ?_)⟩
    · have e' : i = r := V.int.inj (of_decide_eq_true e)
      rw [if_pos e'] at q
      exact ⟨.ref t, rfl, t, _, 1, .int j, rfl, rfl, hT, atI_nat (j := 1) rfl, q⟩
    · have e' : ¬ i = r := fun z => e (decide_eq_true (congrArg V.int z))
      rw [if_neg e'] at q
      exact ⟨.ref t, rfl, t, _, 0, .int i, rfl, rfl, hT, atI_nat (j := 0) rfl, q⟩
end
theorem map_inj {α β : Type} {f : α → β} (hf : ∀ x y, f x = f y → x = y) : ∀ {l m : List α}, l.map f = m.map f → l = m
  | [], [], _ => rfl
  | [], _ :: _, h => by simp at h
  | _ :: _, [], h => by simp at h
  | x :: l, y :: m, h => by
    rw [List.map_cons, List.map_cons] at h
    obtain ⟨h1, h2⟩ := List.cons.inj h
    rw [hf _ _ h1, map_inj hf h2]
theorem caveD_inj {c e : List (Int × Int)} (h : caveD c = caveD e) : c = e := by
  refine map_inj (f := wayD) (fun x y z => ?_) (PyData.tuple.inj h)
  have := congrArg pairOf z
  exact this
theorem zip_get {ts : List Addr} {c : List (Int × Int)} {i : Nat} {t : Addr} {p : Int × Int} (h1 : ts[i]? = some t) (h2 : c[i]? = some p) : (ts.zip c)[i]? = some (t, p) := by
  rw [List.getElem?_zip_eq_some]
  exact ⟨h1, h2⟩
/-- after i ways, and j rooms of the way behind them -/
def wPart (ts : List Addr) (c : List (Int × Int)) (i j : Nat) (t : Addr) (p : Int × Int) (k : Int) : List V :=
  (((ts.zip c).take i).filter fun q => decide (q.2.1 = k) || decide (q.2.2 = k)).map (fun q => V.ref q.1) ++ if (1 ≤ j ∧ k = p.1) ∨ (2 ≤ j ∧ k = p.2) then [V.ref t] else []
theorem wPart_zero {ts : List Addr} {c : List (Int × Int)} {i : Nat} {t : Addr} {p : Int × Int} (k : Int) : wPart ts c i 0 t p k = (((ts.zip c).take i).filter fun q => decide (q.2.1 = k) || decide (q.2.2 = k)).map (fun q => V.ref q.1) := by
  unfold wPart
  rw [if_neg (by omega), List.append_nil]
theorem wPart_two {ts : List Addr} {c : List (Int × Int)} {i : Nat} {t : Addr} {p : Int × Int} (h1 : ts[i]? = some t) (h2 : c[i]? = some p) (k : Int) :
    wPart ts c i 2 t p k = (((ts.zip c).take (i + 1)).filter fun q => decide (q.2.1 = k) || decide (q.2.2 = k)).map (fun q => V.ref q.1) := by
  unfold wPart
  rw [List.take_add_one, zip_get h1 h2, List.filter_append, List.map_append]
  congr 1
  by_cases e : p.1 = k ∨ p.2 = k
  · rw [if_pos (by omega)]
    have z : (decide (p.1 = k) || decide (p.2 = k)) = true := by simpa using e
    simp [z]
  · rw [if_neg (by omega)]
    have z : (decide (p.1 = k) || decide (p.2 = k)) = false := by simpa using e
    simp [z]
theorem wPart_len {ts : List Addr} {c : List (Int × Int)} {i j : Nat} {t : Addr} {p : Int × Int} (k : Int) : (wPart ts c i j t p k).length ≤ i + 1 := by
  unfold wPart
  rw [List.length_append, List.length_map]
  have h1 := List.length_filter_le (fun q : Addr × Int × Int => decide (q.2.1 = k) || decide (q.2.2 = k)) ((ts.zip c).take i)
  rw [List.length_take] at h1
  have h2 : (if (1 ≤ j ∧ k = p.1) ∨ (2 ≤ j ∧ k = p.2) then [V.ref t] else []).length ≤ 1 := by
    split <;> simp
  omega
section
variable {P : Program} {w : World} {K : PySem.W.Frag} {mg : Str → Option Value} {base : Heap}
theorem ok_wbr {f fR C : Addr} {fd dR : FuncData} {k : Nat} (F : Fun K "ways_by_room" "ways_by_room" sWbr f fd) (GR : FnOk P w K mg base (L2.CX P w) (k + 6) fR dR ["cave"] (spRooms K C)) (bR : Binds K dR ["cave"] []) (gR : mg "rooms_of" = some (.ref fR)) (kR : PySem.W.keepIn K (.ref fR) = true) :
    FnOk P w K mg base CX0 (k + 7) f fd ["cave"] (spWbr K) := by
  refine F.ok scWbr (fun vs H Q E h => ?_) (fun cdv A outer s H vs Q E hr h => ?_)
  · obtain ⟨a, ts, c, rfl, _⟩ := h
    rfl
  · obtain ⟨a, ts, c, rfl, hd, hc, g, q⟩ := h
    refine ⟨_, pss_cons (ps_setDc (i := 2) (own := [("room", 1)]) (g := gName 1) (tt := tYes) (tk := tVar 1) (tv := tLst tNil) rfl scWbr.nd rfl rfl (swD rfl rfl rfl (by decide +kernel)) (pi_list (pe_call GR hr (by rfl) gR kR bR .nil passE (pa_cons (pv 0) pa_nil)))
          (blkOk_by (own := [("room", 1)]) (N := ["cave", "room", "ways_at", "way"]) (sc := defScope sWbr) (by decide +kernel)) (fun _ _ _ _ _ => pg_name (i := 1) scWbr.nd rfl (.inl rfl)) (fun _ _ _ _ _ => pts_nil) (fun _ _ _ _ _ => pv 1) (fun _ _ _ _ _ => pe_lst pa_nil))
      (pss_cons (ps_for PassesOwn.never rfl (pi_tup (pv 0)) (pg_name (i := 3) scWbr.nd rfl (.inl rfl)) (pss_one (ps_for PassesOwn.never rfl (pi_tup (pv 3)) (pg_name (i := 1) scWbr.nd rfl (.inl rfl))
        (pss_one (ps_expr (pe_bm PySem.F.plainAttrs_list PySem.F.slot_list_append PySem.F.type_list_append mt_append (pe_dget (hu_of hr) (pv 2) (pv 1) (fun _ _ => rfl)) (pa_cons (pv 3) pa_nil)))))))
      (pss_one (ps_ret (pv 2)))), ?_⟩
    refine ⟨.ref a, rfl, .ref a, caveD c, rfl, hd, fun c' e g' H1 p s1 np hp => ?_, fun e => ?_⟩
    · obtain rfl : c' = c := caveD_inj e.symm
      have len100 := len_rooms c'
      refine ⟨p, rfl, ⟨_, .inl (.inl hp)⟩, fun D nD => ?_⟩
      refine walkL (K := K) (a := p) (xs := (roomsM c').map V.int) (fun i H2 => ∃ L, WB H1 H2 D L (fun _ => []) ∧ H2 D = some (.dK (dkL L)) ∧ L.map (·.1) = (roomsM c').take i) ?_ (fun j H2 ⟨_, b, _⟩ => .inl (.inl (b.same _ _ hp))) ?_ ?_
      · exact ⟨[], ⟨same_upd nD, .inl upd_same, fun q h => by simp at h, List.nodup_nil, List.nodup_nil, nD, fun q h => by simp at h⟩, upd_same, rfl⟩
      · rintro i x H2 hx ⟨L, b, hD, hk⟩
        obtain ⟨r, hr', rfl⟩ : ∃ r, (roomsM c')[i]? = some r ∧ x = V.int r := by
          rw [List.getElem?_map] at hx
          cases e : (roomsM c')[i]? with
          | none => rw [e] at hx; cases hx
          | some t => rw [e] at hx; exact ⟨t, rfl, (Option.some.inj hx).symm⟩
        have fresh : r ∉ L.map (·.1) := fun z => by
          rw [hk] at z
          obtain ⟨j, hj, ej⟩ := List.getElem_of_mem z
          rw [List.getElem_take] at ej
          rw [List.length_take] at hj
          obtain ⟨hi, ei⟩ := List.getElem?_eq_some_iff.mp hr'
          have lt := List.pairwise_iff_getElem.mp (asc_rooms c') j i (by omega) hi (by omega)
          omega
        have lenL : (dkL L).length ≤ 100 := by
          have z := congrArg List.length hk
          rw [List.length_map, List.length_take] at z
          unfold dkL
          rw [List.length_map]
          omega
        refine ⟨rfl, yesI ⟨_, rfl, Nat.zero_le _, fun l nl => ⟨dkL L, Sum.inl r, rfl, (by rw [upd_ne (ne_of_none hD nl)]; exact hD), (by rw [sizeLine_eq]; omega), L ++ [(r, l)], ?_, ?_, ?_⟩⟩⟩
        · have Dl : D ≠ l := ne_of_none hD nl
          rw [put_new fresh]
          refine ⟨fun b' o e => ?_, .inl upd_same, fun q hq => ?_, ?_, ?_, b.nD, fun q hq => ?_⟩
          · rw [upd_ne (ne_of_none e b.nD), upd_ne (ne_of_none (b.same _ _ e) nl)]
            exact b.same _ _ e
          · rcases List.mem_append.mp hq with z | z
            · have y := b.ls q z
              rw [upd_ne (fun e => by rw [e, hD] at y; cases y), upd_ne (ne_of_none y nl)]
              exact y
            · cases List.mem_singleton.mp z
              rw [upd_ne Dl.symm]
              exact upd_same
          · rw [List.map_append, List.nodup_append]
            refine ⟨b.nk, by simp, fun x hx y hy e => ?_⟩
            have : y = r := by simpa using hy
            rw [e, this] at hx
            exact fresh hx
          · rw [List.map_append, List.nodup_append]
            refine ⟨b.na, by simp, fun x hx y hy e => ?_⟩
            have : y = l := by simpa using hy
            obtain ⟨q, hq, rfl⟩ := List.mem_map.mp hx
            rw [this] at e
            have y := b.ls q hq
            rw [e, nl] at y
            cases y
          · rcases List.mem_append.mp hq with z | z
            · exact b.nL q z
            · cases List.mem_singleton.mp z
              exact b.same.free nl
        · rw [put_new fresh]
          exact upd_same
        · rw [List.map_append, hk, List.take_add_one, hr']
          rfl
      · rintro H2 ⟨L, b, hD, hk⟩
        rw [List.length_map, List.take_length] at hk
        have hc2 := hc.up (s1.trans b.same)
        refine ⟨.ref a, rfl, a, rfl, ⟨_, hc2.sq⟩, for_tup (K := K) (a := a) (xs := ts.map V.ref)
          (fun i σ H3 => ∃ y z, σ = [some (.ref a), y, some (.ref D), z] ∧ ∃ f, WB H1 H3 D L f ∧ H3 D = some (.dK (dkL L)) ∧ ∀ k, f k = (((ts.zip c').take i).filter fun q => decide (q.2.1 = k) || decide (q.2.2 = k)).map (fun q => V.ref q.1))
          ⟨_, _, rfl, fun _ => [], b, hD, fun k => rfl⟩ (fun i σ H3 _ ⟨_, _, _, _, b3, _⟩ => SqT.up (s1.trans b3.same) hc.sq) ?_ ?_⟩
        · rintro i x σ H3 hx ⟨y, z, rfl, f, b3, hD3, hf⟩
          obtain ⟨t, ht, rfl⟩ : ∃ t, ts[i]? = some t ∧ x = V.ref t := by
            rw [List.getElem?_map] at hx
            cases e : ts[i]? with
            | none => rw [e] at hx; cases hx
            | some t => rw [e] at hx; exact ⟨t, rfl, (Option.some.inj hx).symm⟩
          have hi : i < c'.length := by
            have := (List.getElem?_eq_some_iff.mp ht).1
            rw [hc.len] at this
            exact this
          have hp' : c'[i]? = some c'[i] := List.getElem?_eq_getElem hi
          generalize c'[i] = p' at hp'
          have hw := (hc.up (s1.trans b3.same)).it i t p' ht hp'
          have rg := g.rg p' (List.mem_of_getElem? hp')
          unfold RgW at rg
          refine ⟨.ref t, rfl, t, rfl, ⟨_, hw⟩, for_tup (K := K) (a := t) (xs := [.int p'.1, .int p'.2])
            (fun j σ H4 => ∃ y, σ = [some (.ref a), y, some (.ref D), some (.ref t)] ∧ ∃ f, WB H1 H4 D L f ∧ H4 D = some (.dK (dkL L)) ∧ Same H H4 ∧ ∀ k, f k = wPart ts c' i j t p' k) ⟨_, rfl, f, b3, hD3, s1.trans b3.same, fun k => by rw [wPart_zero, hf]⟩
            (fun j σ H4 _ ⟨_, _, _, b4, _, _, _⟩ => SqT.up (s1.trans b4.same) (hc.it i t p' ht hp')) ?_ ?_⟩
          · rintro j x σ H4 hx ⟨y, rfl, f, b4, hD4, s4, hf⟩
            obtain ⟨n, rfl, hn⟩ : ∃ n, x = .int n ∧ ((j = 0 ∧ n = p'.1) ∨ (j = 1 ∧ n = p'.2)) := by
              match j, hx with
              | 0, hx => cases hx; exact ⟨_, rfl, .inl ⟨rfl, rfl⟩⟩
              | 1, hx => cases hx; exact ⟨_, rfl, .inr ⟨rfl, rfl⟩⟩
              | j + 2, hx => simp at hx
            have hn' : n ∈ L.map (·.1) := by
              rw [hk, mem_rooms g.rg]
              exact ⟨p', List.mem_of_getElem? hp', by omega⟩
            obtain ⟨⟨n', l⟩, hl, rfl⟩ := List.mem_map.mp hn'
            have fn := hf n'
            have ln := wPart_len (ts := ts) (c := c') (i := i) (j := j) (t := t) (p := p') n'
            have lc := len_good g.rg g.asc
            have dg : DGet H4 D (kV (Sum.inl n')) (some (V.ref l)) := by
              have z := DGet.k (k := Sum.inl n') hD4
              rw [val_in b4.nk hl] at z
              exact z
            refine ⟨.ref D, rfl, .int n', rfl, D, _, rfl, dg, .inl ⟨rfl, _, .inl (.inl (b4.ls _ hl))⟩, .ref t, rfl, l, _, _, rfl, rfl, b4.ls _ hl, (by rw [sizeLine_eq, fn]; omega), _, rfl, _, b4.app hl (fun k => rfl), ?_, ?_, fun k => ?_⟩
            · rw [upd_ne (rd_ne b4.rd (b4.ls _ hl))]
              exact hD4
            · exact fun b' o e => by
                rw [upd_ne (ne_of_none e (s1.free (b4.nL _ hl)))]
                exact s4 _ _ e
            · rw [hf k]
              unfold wPart
              by_cases e : k = n'
              · subst e
                rw [if_pos rfl, if_neg (by dsimp only at hn; omega), if_pos (by dsimp only at hn; omega), List.append_nil]
              · rw [if_neg e]
                congr 1
                by_cases z : (1 ≤ j ∧ k = p'.1) ∨ (2 ≤ j ∧ k = p'.2)
                · rw [if_pos z, if_pos (by omega)]
                · rw [if_neg z, if_neg (by dsimp only at hn; omega)]
          · rintro σ H4 ⟨y, rfl, f, b4, hD4, s4, hf⟩
            exact ⟨_, _, rfl, f, b4, hD4, fun k => by rw [hf k]; exact wPart_two ht hp' k⟩
        · rintro σ H3 ⟨y, z, rfl, f, b3, hD3, hf⟩
          have ef : f = wAt ts c' := funext fun k => by
            rw [hf k, List.length_map]
            unfold wAt
            rw [List.take_of_length_le (by rw [List.length_zip]; omega)]
          rw [ef] at b3
          exact ⟨.ref D, rfl, q H3 D L ⟨s1.trans b3.same, b3.rd, b3.ls, b3.nk, b3.na, s1.free b3.nD, fun q hq => s1.free (b3.nL q hq)⟩ hD3 hk⟩
    · rw [g.isCave] at e
      cases e
end
end Cv

/-! rooms_along: what can be reached -/
namespace Cv
open PySem PySem.Spec PyProof.Rows L2 CvT CvS CvW CvD
def Adj (c : List (Int × Int)) (x y : Int) : Prop := ∃ p ∈ c, (p.1 = x ∧ p.2 = y) ∨ (p.2 = x ∧ p.1 = y)
inductive Reach (c : List (Int × Int)) (x : Int) : Int → Prop
  | refl : Reach c x x
  | step {y z : Int} : Reach c x y → Adj c y z → Reach c x z
theorem Adj.symm {c : List (Int × Int)} {x y : Int} : Adj c x y → Adj c y x := fun ⟨p, hp, h⟩ => ⟨p, hp, by omega⟩
theorem Reach.trans {c : List (Int × Int)} {x y z : Int} (a : Reach c x y) (b : Reach c y z) : Reach c x z := by
  induction b with
  | refl => exact a
  | step _ h ih => exact ih.step h
theorem Reach.symm {c : List (Int × Int)} {x y : Int} (a : Reach c x y) : Reach c y x := by
  induction a with
  | refl => exact .refl
  | step _ h ih => exact (Reach.step .refl h.symm).trans ih
theorem Adj.room {c : List (Int × Int)} (r : ∀ p ∈ c, RgW p) {x y : Int} (h : Adj c x y) : y ∈ roomsM c := by
  obtain ⟨p, hp, h⟩ := h
  rw [mem_rooms r]
  exact ⟨p, hp, by omega⟩
theorem Reach.room {c : List (Int × Int)} (r : ∀ p ∈ c, RgW p) {x y : Int} (hx : x ∈ roomsM c) (h : Reach c x y) : y ∈ roomsM c := by
  cases h with
  | refl => exact hx
  | step _ a => exact a.room r
abbrev sAlong : Stmt := topS 12
theorem scAlong : FnScope ["ways_at", "start", "seen", "todo", "room", "way", "other"] ["ways_at", "start"] (defScope sAlong) := ⟨rfl, rfl, rfl, by decide +kernel, rfl, by decide +kernel, by decide +kernel⟩
def spAlong (K : PySem.W.Frag) : Sp := fun vs H Q _ => ∃ (H0 : Hp) (D a : Addr) (L : List (Int × Addr)) (ts : List Addr) (c : List (Int × Int)) (r : Int), vs = [.ref D, .int r] ∧ WB H0 H D L (wAt ts c) ∧ L.map (·.1) = roomsM c ∧ CvAt K H a ts c ∧ Good c ∧ r ∈ roomsM c ∧
  ∀ H' p (ns : List Int), Same H H' → H p = none → H' p = some (.lst (ns.map V.int)) → ns.Nodup → (∀ k, k ∈ ns ↔ Reach c r k) → Q (.ref p) H'
/-- rooms as keys, each with True -/
def dkT (S : List Int) : List (Key × V) := S.map fun k => (Sum.inl k, V.bl true)
theorem valT (S : List Int) (o : Int) : valV (dkT S) (Sum.inl o) = if o ∈ S then some (V.bl true) else none := by
  induction S with
  | nil => rfl
  | cons x S ih =>
    show valV ((Sum.inl x, V.bl true) :: dkT S) _ = _
    by_cases e : x = o
    · subst e
      rw [valV_pos rfl, if_pos List.mem_cons_self]
    · rw [valV_neg (fun z => e (Sum.inl.inj z)), ih]
      by_cases m : o ∈ S
      · rw [if_pos m, if_pos (List.mem_cons_of_mem _ m)]
      · rw [if_neg m, if_neg (fun z => (List.mem_cons.mp z).elim (fun q => e q.symm) m)]
theorem putT {S : List Int} {o : Int} (h : o ∉ S) : putK (dkT S) (Sum.inl o) (V.bl true) = dkT (S ++ [o]) := by
  rw [putK_new _ (by rw [valT, if_neg h])]
  unfold dkT
  rw [List.map_append]
  rfl
/-- the walk: S seen, T to do -/
structure Along (c : List (Int × Int)) (r : Int) (X : Int → Prop) (S T : List Int) : Prop where
  nd : S.Nodup
  sub : ∀ k ∈ T, k ∈ S
  start : r ∈ S
  reach : ∀ k ∈ S, Reach c r k
  shut : ∀ k ∈ S, k ∈ T ∨ X k ∨ ∀ y, Adj c k y → y ∈ S
theorem Along.len {c : List (Int × Int)} {r : Int} {X : Int → Prop} {S T : List Int} (g : ∀ p ∈ c, RgW p) (hr : r ∈ roomsM c) (h : Along c r X S T) : S.length ≤ 100 :=
  nd_len 100 S h.nd fun k hk => by
    have := (h.reach k hk).room g hr
    unfold roomsM at this
    exact mem_all.mp (List.mem_filter.mp this).1
def AlH (H H' : Hp) (Sd Td : Addr) (S T : List Int) : Prop := Same H H' ∧ H' Sd = some (.dK (dkT S)) ∧ H' Td = some (.lst (T.map V.int))
theorem isE {T : List Int} : (T.map V.int).isEmpty = T.isEmpty := by cases T <;> rfl
theorem last_of {T : List Int} (h : T ≠ []) : ∃ U y, T = U ++ [y] := ⟨T.dropLast, T.getLast h, (List.dropLast_concat_getLast h).symm⟩
section
variable {P : Program} {w : World} {K : PySem.W.Frag} {mg : Str → Option Value} {base : Heap}
theorem ok_along {f fF : Addr} {fd dF : FuncData} {k : Nat} (F : Fun K "rooms_along" "rooms_along" sAlong f fd) (FF : Fun K "far_end" "far_end" sFar fF dF) (bF : Binds K dF ["way", "room"] []) (gF : mg "far_end" = some (.ref fF)) (gl : mg "list" = none) :
    FnOk P w K mg base CX0 (k + 2) f fd ["ways_at", "start"] (spAlong K) := by
  have GF : FnOk P w K mg base CX0 (k + 1) fF dF ["way", "room"] (spFar K) := ok_far FF
  refine F.ok scAlong (fun vs H Q E h => ?_) (fun cdv A outer s H vs Q E hr h => ?_)
  · obtain ⟨H0, D, a, L, ts, c, r, rfl, _⟩ := h
    rfl
  · obtain ⟨H0, D, a, L, ts, c, r, rfl, b, hk, hc, g, hrm, q⟩ := h
    refine ⟨_, pss_cons (ps_set (i := 2) scAlong.nd rfl (.inl rfl) (pe_disp (pps_cons (pv 1) pe_bl pps_nil) (by rfl) (by rfl) (fun z => by cases z) (by decide)))
      (pss_cons (ps_set (i := 3) scAlong.nd rfl (.inl rfl) (pe_lst (pa_cons (pv 1) pa_nil)))
      (pss_cons (ps_while PassesOwn.never (pt_truth (pv 3) (fun _ => rfl))
        (pss_cons (ps_set (i := 4) scAlong.nd rfl (.inl rfl) (pe_bm0 PySem.F.plainAttrs_list PySem.F.slot_list_pop PySem.F.type_list_pop mt_pop (pv 3)))
        (pss_one (ps_for PassesOwn.never rfl (pi_list (pe_dget (hu_of hr) (pv 0) (pv 4) (fun _ _ => rfl))) (pg_name (i := 5) scAlong.nd rfl (.inl rfl))
          (pss_cons (ps_set (i := 6) scAlong.nd rfl (.inl rfl) (pe_call GF hr (by rfl) gF FF.kp bF .nil pass0 (pa_cons (pv 5) (pa_cons (pv 4) pa_nil))))
          (pss_one (ps_if (pt_cmp (pc_dnotin (hu_of hr) (pv 6) (pv 2)))
            (pss_cons (ps_dput (hu_of hr) (pv 2) (pv 6) pe_bl rfl) (pss_one (ps_expr (pe_bm PySem.F.plainAttrs_list PySem.F.slot_list_append PySem.F.type_list_append mt_append (pv 3) (pa_cons (pv 6) pa_nil))))) pss_nil)))))))
      (pss_one (ps_ret (pe_callTy (call_listD rfl) (by rfl) gl (by decide +kernel) (pa_cons (pv 2) pa_nil)))))), ?_⟩
    refine fun Sd nS => ⟨.int r, rfl, upd_same, [(Sum.inl r, V.bl true)], rfl, (by show 1 ≤ 15; decide), .int r, rfl, (by show 1 ≤ sizeLine; decide), fun Td nT => ?_⟩
    have nTd : Sd ≠ Td := ne_of_none upd_same nT
    have nS' : ∀ (H' : Hp) (u : HO), Same H H' → Same H (upd H' Sd u) := fun H' u s b' o e => by
      rw [upd_ne (ne_of_none e nS)]
      exact s _ _ e
    have nT0 : H Td = none := by
      rw [upd_ne nTd.symm, upd_ne nTd.symm] at nT
      exact nT
    have nT' : ∀ (H' : Hp) (u : HO), Same H H' → Same H (upd H' Td u) := fun H' u s b' o e => by
      rw [upd_ne (ne_of_none e nT0)]
      exact s _ _ e
    have a0 : AlH H (upd (upd (upd H Sd (.dK [])) Sd (.dK (mergeK [] [(Sum.inl r, V.bl true)]))) Td (.lst [V.int r])) Sd Td [r] [r] :=
      ⟨nT' _ _ (nS' _ _ (nS' _ _ (Same.refl H))), by rw [upd_ne nTd]; exact upd_same, upd_same⟩
    generalize upd (upd (upd H Sd (HO.dK [])) Sd (HO.dK (mergeK [] [(Sum.inl r, V.bl true)]))) Td (HO.lst [V.int r]) = Hs at a0
    dsimp only [gName]
    refine seqI ?_
    refine while_by (fun σ H' => ∃ x y z S T, σ = [some (.ref D), some (.int r), some (.ref Sd), some (.ref Td), x, y, z] ∧ AlH H H' Sd Td S T ∧ Along c r (fun _ => False) S T ∧ 2 * (100 - S.length) + T.length ≤ 200)
      (fun σ H' => (match H' Sd with | some (.dK kvs) => 2 * (100 - kvs.length) | _ => 0) + (match H' Td with | some (.lst xs) => xs.length | _ => 0)) ?_ ?_ ?_
    · exact ⟨_, _, _, [r], [r], rfl, a0, ⟨by simp, fun k hk => hk, by simp, fun k hk => by rw [List.mem_singleton.mp hk]; exact .refl, fun k hk => .inl hk⟩, (by show 2 * (100 - 1) + 1 ≤ 200; decide)⟩
    · rintro σ H1 ⟨x, y, z, S, T, rfl, ⟨s1, hS, hT⟩, al, hle⟩
      refine ⟨.ref Td, rfl, _, .inl ⟨_, SqL.of hT, rfl⟩, ite2 (fun e => ?_) (fun e => ?_)⟩
      · -- a turn
        have ne : T ≠ [] := fun z => by rw [z] at e; simp at e
        obtain ⟨U, o, rfl⟩ := last_of ne
        have sl := al.len g.rg hrm
        rw [List.length_append] at hle
        simp only [List.length_cons, List.length_nil] at hle
        have m0 : (match H1 Sd with | some (.dK kvs) => 2 * (100 - kvs.length) | _ => 0) + (match H1 Td with | some (.lst xs) => xs.length | _ => 0) = 2 * (100 - S.length) + (U.length + 1) := by
          rw [hS, hT]
          show 2 * (100 - (dkT S).length) + ((U ++ [o]).map V.int).length = _
          unfold dkT
          rw [List.length_map, List.length_map, List.length_append]
          rfl
        have om : o ∈ S := al.sub o (by simp)
        have oR := al.reach o om
        have orm := oR.room g.rg hrm
        have oL : o ∈ L.map (·.1) := hk ▸ orm
        obtain ⟨⟨o', l⟩, hl, rfl⟩ := List.mem_map.mp oL
        refine ⟨.ref Td, rfl, .inl ⟨rfl, _, SqL.of hT⟩, Td, _, .int o', rfl, rfl, hT, (by rw [List.map_append, List.length_append]; simp), ?_⟩
        rw [show ((U ++ [o']).map V.int).dropLast = U.map V.int by rw [List.map_append]; simp]
        obtain ⟨mm, hmm⟩ : ∃ mm, mm = 2 * (100 - S.length) + U.length := ⟨_, rfl⟩
        have sU := nT' H1 (.lst (U.map V.int)) s1
        have aU : AlH H (upd H1 Td (.lst (U.map V.int))) Sd Td S U := ⟨sU, by rw [upd_ne nTd]; exact hS, upd_same⟩
        generalize upd H1 Td (HO.lst (List.map V.int U)) = H2 at aU
        have bU := b.up aU.1
        have cU := hc.up aU.1
        -- the ways at the room
        generalize hZ : ((ts.zip c).filter fun q => decide (q.2.1 = o') || decide (q.2.2 = o')) = Z
        have eW : wAt ts c o' = Z.map fun q => V.ref q.1 := by
          unfold wAt
          rw [hZ]
        have alU : Along c r (fun k => k = o') S U := ⟨al.nd, fun k hk => al.sub k (by simp [hk]), al.start, al.reach, fun k hk => by
          rcases al.shut k hk with z | z | z
          · rcases List.mem_append.mp z with z | z
            · exact .inl z
            · exact .inr (.inl (List.mem_singleton.mp z))
          · exact z.elim
          · exact .inr (.inr z)⟩
        refine ⟨.ref D, rfl, .int o', rfl, D, _, rfl, .inl ⟨dkL L, Sum.inl o', bU.rd, rfl, (val_in bU.nk hl).symm⟩, l, rfl, ⟨_, SqL.of (bU.ls _ hl)⟩, for_list (K := K) (a := l) (xs := wAt ts c o')
          (fun i σ H' => ∃ y z S T, σ = [some (.ref D), some (.int r), some (.ref Sd), some (.ref Td), some (.int o'), y, z] ∧ AlH H H' Sd Td S T ∧ Along c r (fun k => k = o') S T ∧ 2 * (100 - S.length) + T.length ≤ mm ∧
            ∀ q ∈ Z.take i, (if q.2.1 = o' then q.2.2 else q.2.1) ∈ S)
          ⟨_, _, S, U, rfl, aU, alU, Nat.le_of_eq hmm.symm, fun q hq => by simp at hq⟩ (fun i σ H' _ ⟨_, _, _, _, _, a', _⟩ => SqL.of ((b.up a'.1).ls _ hl)) ?_ ?_⟩
        · rintro i x σ H3 hx ⟨y, z, S', T', rfl, ⟨s3, hS3, hT3⟩, al3, hm, far⟩
          rw [eW, List.getElem?_map] at hx
          obtain ⟨⟨t, p⟩, hq, rfl⟩ : ∃ q, Z[i]? = some q ∧ x = V.ref q.1 := by
            cases e : Z[i]? with
            | none => rw [e] at hx; cases hx
            | some t => rw [e] at hx; exact ⟨t, rfl, (Option.some.inj hx).symm⟩
          have hqm : (t, p) ∈ Z := List.mem_of_getElem? hq
          rw [← hZ, List.mem_filter] at hqm
          obtain ⟨hz, hend⟩ := hqm
          obtain ⟨jj, hj⟩ := List.getElem?_of_mem hz
          rw [List.getElem?_zip_eq_some] at hj
          have hw := (hc.up s3).it jj t p hj.1 hj.2
          have pm : p ∈ c := List.mem_of_getElem? hj.2
          have hend : p.1 = o' ∨ p.2 = o' := by simpa using hend
          have rp := g.rg p pm
          unfold RgW at rp
          have adj : Adj c o' (if p.1 = o' then p.2 else p.1) := ⟨p, pm, by
            by_cases e1 : p.1 = o'
            · rw [if_pos e1]
              exact .inl ⟨e1, rfl⟩
            · rw [if_neg e1]
              exact .inr ⟨hend.resolve_left e1, rfl⟩⟩
          refine ⟨.ref t, rfl, .int o', rfl, t, p.1, p.2, o', rfl, hw, ?_⟩
          have more : ∀ {S2 : List Int}, (∀ k ∈ S', k ∈ S2) → (if p.1 = o' then p.2 else p.1) ∈ S2 → ∀ q ∈ Z.take (i + 1), (if q.2.1 = o' then q.2.2 else q.2.1) ∈ S2 := fun {S2} h1 h2 q hq' => by
            rw [List.take_add_one, hq] at hq'
            rcases List.mem_append.mp hq' with z | z
            · exact h1 _ (far q z)
            · have : q = (t, p) := by simpa using z
              rw [this]
              exact h2
          generalize (if p.1 = o' then p.2 else p.1) = n at adj more
          have dg : DGet H3 Sd (kV (Sum.inl n)) (if n ∈ S' then some (V.bl true) else none) := by
            have z := DGet.k (k := Sum.inl n) hS3
            rw [valT] at z
            exact z
          have sl3 := al3.len g.rg hrm
          refine ⟨.int n, rfl, .ref Sd, rfl, Sd, _, rfl, dg, _, rfl, ite2 (fun e3 => ?_) (fun e3 => ?_)⟩
          · have nin : n ∉ S' := fun z => by rw [if_pos z] at e3; simp at e3
            have dl : (dkT S').length < sizeLine := by
              unfold dkT
              rw [List.length_map, sizeLine_eq]
              omega
            have rn : n ∈ roomsM c := adj.room g.rg
            refine ⟨.ref Sd, rfl, .int n, rfl, Sd, _, rfl, DPut.k (k := Sum.inl n) hS3 dl, ?_⟩
            rw [putT nin]
            have hT4 : upd H3 Sd (.dK (dkT (S' ++ [n]))) Td = some (.lst (T'.map V.int)) := by
              rw [upd_ne nTd.symm]
              exact hT3
            have Tl : T'.length ≤ 200 := by omega
            refine ⟨.ref Td, rfl, .inl ⟨rfl, _, SqL.of hT4⟩, .int n, rfl, Td, _, _, rfl, rfl, hT4, (by rw [List.length_map, sizeLine_eq]; omega), _, _, S' ++ [n], T' ++ [n], rfl, ⟨nT' _ _ (nS' _ _ s3), ?_, ?_⟩, ⟨?_, ?_, ?_, ?_, ?_⟩, ?_, ?_⟩
            · rw [upd_ne nTd]
              exact upd_same
            · rw [upd_same, List.map_append]
              rfl
            · rw [List.nodup_append]
              exact ⟨al3.nd, by simp, fun x hx y hy e => nin (by have : y = n := (by simpa using hy); rw [← this, ← e]; exact hx)⟩
            · exact fun k hk => (List.mem_append.mp hk).elim (fun z => List.mem_append_left _ (al3.sub k z)) (fun z => List.mem_append_right _ z)
            · exact List.mem_append_left _ al3.start
            · intro k hk
              rcases List.mem_append.mp hk with z | z
              · exact al3.reach k z
              · rw [List.mem_singleton.mp z]
                exact oR.step adj
            · intro k hk
              rcases List.mem_append.mp hk with z | z
              · rcases al3.shut k z with y | y | y
                · exact .inl (List.mem_append_left _ y)
                · exact .inr (.inl y)
                · exact .inr (.inr fun y' h' => List.mem_append_left _ (y y' h'))
              · exact .inl (List.mem_append_right _ z)
            · have lt : (S' ++ [n]).length ≤ 100 := nd_len 100 _ (List.nodup_append.mpr ⟨al3.nd, by simp, fun x hx y hy e => nin (by have : y = n := (by simpa using hy); rw [← this, ← e]; exact hx)⟩) fun k hk => by
                have kr : k ∈ roomsM c := (List.mem_append.mp hk).elim (fun z => (al3.reach k z).room g.rg hrm) fun z => by rw [List.mem_singleton.mp z]; exact rn
                unfold roomsM at kr
                exact mem_all.mp (List.mem_filter.mp kr).1
              rw [List.length_append] at lt ⊢
              rw [List.length_append]
              simp only [List.length_cons, List.length_nil] at lt ⊢
              omega
            · exact more (fun k hk => List.mem_append_left _ hk) (List.mem_append_right _ (by simp))
          · have isin : n ∈ S' := Decidable.byContradiction fun z => by rw [if_neg z] at e3; simp at e3
            exact ⟨_, _, S', T', rfl, ⟨s3, hS3, hT3⟩, al3, hm, more (fun k hk => hk) isin⟩
        · rintro σ H3 ⟨y, z, S', T', rfl, ⟨s3, hS3, hT3⟩, al3, hm, far⟩
          rw [eW, List.length_map, List.take_length] at far
          refine ⟨⟨_, _, _, S', T', rfl, ⟨s3, hS3, hT3⟩, ⟨al3.nd, al3.sub, al3.start, al3.reach, fun k hk => ?_⟩, by omega⟩, ?_⟩
          · rcases al3.shut k hk with z | z | z
            · exact .inl z
            · refine .inr (.inr fun y' ⟨p, hp, h'⟩ => ?_)
              obtain ⟨jj, hj⟩ := List.getElem?_of_mem hp
              have hjt : jj < ts.length := by rw [hc.len]; exact (List.getElem?_eq_some_iff.mp hj).1
              have hz : (ts[jj], p) ∈ Z := by
                rw [← hZ, List.mem_filter]
                refine ⟨List.mem_of_getElem? (i := jj) (zip_get (List.getElem?_eq_getElem hjt) hj), ?_⟩
                simp
                omega
              have fz := far _ hz
              dsimp only at fz
              have rp := g.rg p hp
              unfold RgW at rp
              by_cases e1 : p.1 = o'
              · rw [if_pos e1] at fz
                have : p.2 = y' := by omega
                rw [← this]
                exact fz
              · rw [if_neg e1] at fz
                have : p.1 = y' := by omega
                rw [← this]
                exact fz
            · exact .inr (.inr z)
          · show (match H3 Sd with | some (.dK kvs) => 2 * (100 - kvs.length) | _ => 0) + (match H3 Td with | some (.lst xs) => xs.length | _ => 0) < _
            rw [m0, hS3, hT3]
            show 2 * (100 - (dkT S').length) + (T'.map V.int).length < _
            unfold dkT
            rw [List.length_map, List.length_map]
            omega
      · have eT : T = [] := by
          cases T with
          | nil => rfl
          | cons _ _ => exact absurd rfl e
        subst eT
        refine ⟨.ref Sd, rfl, Sd, _, rfl, .inl hS, fun p np => ?_⟩
        have eK : (dkT S).map (fun kv => kV kv.1) = S.map V.int := by
          unfold dkT
          rw [List.map_map]
          rfl
        rw [eK]
        refine q _ p S (s1.trans (same_upd np)) (s1.free np) upd_same al.nd fun k => ⟨al.reach k, fun hR => ?_⟩
        induction hR with
        | refl => exact al.start
        | step _ ad ih =>
          rcases al.shut _ ih with z | z | z
          · simp at z
          · exact z.elim
          · exact z _ ad
    · rintro σ H1 Q1 Q2 hQ ⟨v, e1, k, e2, e3⟩
      exact ⟨v, e1, k, e2, hQ _ _ e3⟩
end
end Cv

/-! parts_of, is_tree -/
namespace Cv
open PySem PySem.Spec PyProof.Rows L2 CvT CvS CvW CvD
/-- T r is the least room from which one comes to r -/
def IsTag (c : List (Int × Int)) (T : Int → Int) : Prop := ∀ r ∈ roomsM c, T r ∈ roomsM c ∧ Reach c (T r) r ∧ ∀ s ∈ roomsM c, Reach c s r → T r ≤ s
theorem IsTag.eq {c : List (Int × Int)} {T U : Int → Int} (a : IsTag c T) (b : IsTag c U) {r : Int} (hr : r ∈ roomsM c) : T r = U r := by
  obtain ⟨a1, a2, a3⟩ := a r hr
  obtain ⟨b1, b2, b3⟩ := b r hr
  have := a3 _ b1 b2
  have := b3 _ a1 a2
  omega
/-- the tags, in the order of the first ways -/
def keysM (T : Int → Int) : List (Int × Int) → List Int → List Int
  | [], ks => ks
  | p :: c, ks => keysM T c (if T p.1 ∈ ks then ks else ks ++ [T p.1])
theorem keysM_app (T : Int → Int) : ∀ (c e : List (Int × Int)) (ks : List Int), keysM T (c ++ e) ks = keysM T e (keysM T c ks)
  | [], _, _ => rfl
  | p :: c, e, ks => keysM_app T c e _
theorem keysM_sub (T : Int → Int) : ∀ (c : List (Int × Int)) (ks : List Int) (k : Int), k ∈ ks → k ∈ keysM T c ks
  | [], _, _, h => h
  | p :: c, ks, k, h => keysM_sub T c _ k (by split; exact h; exact List.mem_append_left _ h)
theorem keysM_mem (T : Int → Int) : ∀ (c : List (Int × Int)) (ks : List Int) (q : Int × Int), q ∈ c → T q.1 ∈ keysM T c ks
  | [], _, _, h => absurd h (by simp)
  | p :: c, ks, q, h => by
    rcases List.mem_cons.mp h with rfl | h
    · refine keysM_sub T c _ _ ?_
      split
      · assumption
      · exact List.mem_append_right _ (by simp)
    · exact keysM_mem T c _ q h
theorem keysM_len (T : Int → Int) : ∀ (d : List (Int × Int)) (ks : List Int), (keysM T d ks).length ≤ ks.length + d.length
  | [], _ => Nat.le_refl _
  | q :: d, ks => by
    have z := keysM_len T d (if T q.1 ∈ ks then ks else ks ++ [T q.1])
    have z2 : (if T q.1 ∈ ks then ks else ks ++ [T q.1]).length ≤ ks.length + 1 := by split <;> simp
    show (keysM T d _).length ≤ _
    rw [List.length_cons]
    omega
def partsM (T : Int → Int) (c : List (Int × Int)) : List (List (Int × Int)) := (keysM T c []).map fun k => c.filter fun p => decide (T p.1 = k)
/-- a dict from rooms to numbers -/
def dkI (M : List (Int × Int)) : List (Key × V) := M.map fun q => (Sum.inl q.1, V.int q.2)
theorem valI_in : ∀ {M : List (Int × Int)} {r s : Int}, (M.map (·.1)).Nodup → (r, s) ∈ M → valV (dkI M) (Sum.inl r) = some (V.int s)
  | [], r, p, _, h => absurd h (by simp)
  | (a, b) :: L, r, p, nd, h => by
    obtain ⟨n1, n2⟩ := List.nodup_cons.mp nd
    show valV ((Sum.inl a, V.int b) :: dkI L) _ = _
    rcases List.mem_cons.mp h with e | h
    · cases e
      exact valV_pos rfl
    · rw [valV_neg (fun e => ?_)]
      · exact valI_in n2 h
      · cases e
        exact n1 (List.mem_map.mpr ⟨(a, p), h, rfl⟩)
theorem valI_out : ∀ {M : List (Int × Int)} {r : Int}, r ∉ M.map (·.1) → valV (dkI M) (Sum.inl r) = none
  | [], r, _ => rfl
  | (a, b) :: L, r, h => by
    show valV ((Sum.inl a, V.int b) :: dkI L) _ = _
    rw [valV_neg (fun e => ?_)]
    · exact valI_out fun z => h (List.mem_cons_of_mem _ z)
    · cases e
      exact h List.mem_cons_self
theorem putI {M : List (Int × Int)} {r s : Int} (h : r ∉ M.map (·.1)) : putK (dkI M) (Sum.inl r) (V.int s) = dkI (M ++ [(r, s)]) := by
  rw [putK_new _ (valI_out h)]
  unfold dkI
  rw [List.map_append]
  rfl
/-- a dict of lists gets a new key with an empty list -/
theorem WB.add {H0 H : Hp} {D l : Addr} {L : List (Int × Addr)} {f : Int → List V} {r : Int} (b : WB H0 H D L f) (hD : H D = some (.dK (dkL L))) (nl : H l = none) (fresh : r ∉ L.map (·.1)) (hf : f r = []) :
    WB H0 (upd (upd H l (.lst [])) D (.dK (dkL (L ++ [(r, l)])))) D (L ++ [(r, l)]) f := by
  have Dl : D ≠ l := ne_of_none hD nl
  refine ⟨fun b' o e => ?_, .inl upd_same, fun q hq => ?_, ?_, ?_, b.nD, fun q hq => ?_⟩
  · rw [upd_ne (ne_of_none e b.nD), upd_ne (ne_of_none (b.same _ _ e) nl)]
    exact b.same _ _ e
  · rcases List.mem_append.mp hq with z | z
    · have y := b.ls q z
      rw [upd_ne (fun e => by rw [e, hD] at y; cases y), upd_ne (ne_of_none y nl)]
      exact y
    · cases List.mem_singleton.mp z
      rw [upd_ne Dl.symm, hf]
      exact upd_same
  · rw [List.map_append, List.nodup_append]
    refine ⟨b.nk, by simp, fun x hx y hy e => ?_⟩
    have : y = r := by simpa using hy
    rw [e, this] at hx
    exact fresh hx
  · rw [List.map_append, List.nodup_append]
    refine ⟨b.na, by simp, fun x hx y hy e => ?_⟩
    have : y = l := by simpa using hy
    obtain ⟨q, hq, rfl⟩ := List.mem_map.mp hx
    rw [this] at e
    have y := b.ls q hq
    rw [e, nl] at y
    cases y
  · rcases List.mem_append.mp hq with z | z
    · exact b.nL q z
    · cases List.mem_singleton.mp z
      exact b.same.free nl
abbrev sParts : Stmt := topS 13
abbrev nParts : List Str := ["cave", "ways_at", "part_by_room", "start", "room", "parts", "way", "ways"]
theorem scParts : FnScope nParts ["cave"] (defScope sParts) := ⟨rfl, rfl, rfl, by decide +kernel, rfl, by decide +kernel, by decide +kernel⟩
/-- the rooms met so far, each with the room from which it was met first -/
structure Met (c : List (Int × Int)) (rs : List Int) (M : List (Int × Int)) : Prop where
  nk : (M.map (·.1)).Nodup
  rm : ∀ q ∈ M, q.1 ∈ roomsM c ∧ q.2 ∈ rs ∧ Reach c q.2 q.1 ∧ ∀ s ∈ rs, Reach c s q.1 → q.2 ≤ s
  all : ∀ s ∈ rs, ∀ k, Reach c s k → k ∈ M.map (·.1)
theorem WB.setD {H0 H : Hp} {D : Addr} {L : List (Int × Addr)} {f : Int → List V} {u : HO} (b : WB H0 H D L f) (hu : u = .dK (dkL L) ∨ ∃ o, u = .frz o (.dK (dkL L))) : WB H0 (upd H D u) D L f := by
  refine ⟨fun b' o e => ?_, ?_, fun q hq => ?_, b.nk, b.na, b.nD, b.nL⟩
  · rw [upd_ne (ne_of_none e b.nD)]
    exact b.same _ _ e
  · rcases hu with rfl | ⟨o, rfl⟩
    · exact .inl upd_same
    · exact .inr ⟨o, upd_same⟩
  · rw [upd_ne (fun e => rd_ne b.rd (b.ls q hq) e.symm)]
    exact b.ls q hq
theorem WB.oth {H0 H : Hp} {D p : Addr} {L : List (Int × Addr)} {f : Int → List V} {u : HO} {kvs : List (Key × V)} (b : WB H0 H D L f) (hp : H0 p = none) (pD : D ≠ p) (k : H p = some (.dK kvs)) : WB H0 (upd H p u) D L f := by
  refine ⟨fun b' o e => ?_, rd_upd b.rd pD, fun q hq => ?_, b.nk, b.na, b.nD, b.nL⟩
  · rw [upd_ne (ne_of_none e hp)]
    exact b.same _ _ e
  · rw [upd_ne (fun e => by have := b.ls q hq; rw [e, k] at this; cases this)]
    exact b.ls q hq
theorem len_keys {c : List (Int × Int)} {M : List (Int × Int)} (nk : (M.map (·.1)).Nodup) (h : ∀ q ∈ M, q.1 ∈ roomsM c) : M.length ≤ 100 := by
  have e : M.length = (M.map (·.1)).length := by simp
  rw [e]
  refine nd_len 100 _ nk fun k hk => ?_
  obtain ⟨q, hq, rfl⟩ := List.mem_map.mp hk
  have := h q hq
  unfold roomsM at this
  exact mem_all.mp (List.mem_filter.mp this).1
theorem Met.zero {c : List (Int × Int)} : Met c [] [] := ⟨List.nodup_nil, fun q h => by simp at h, fun s h => by simp at h⟩
/-- the next room was met already -/
theorem Met.old {c : List (Int × Int)} {M : List (Int × Int)} {i : Nat} {r : Int} (m : Met c ((roomsM c).take i) M) (hi : (roomsM c)[i]? = some r) (h : r ∈ M.map (·.1)) : Met c ((roomsM c).take (i + 1)) M := by
  obtain ⟨⟨r', s⟩, hs, rfl⟩ := List.mem_map.mp h
  obtain ⟨_, h2, h3, _⟩ := m.rm _ hs
  have lt : ∀ x ∈ (roomsM c).take i, x < r' := fun x hx => by
    obtain ⟨j, hj, rfl⟩ := List.getElem_of_mem hx
    rw [List.length_take] at hj
    rw [List.getElem_take]
    obtain ⟨hi', ei⟩ := List.getElem?_eq_some_iff.mp hi
    dsimp only at ei
    rw [← ei]
    exact List.pairwise_iff_getElem.mp (asc_rooms c) j i (by omega) hi' (by omega)
  refine ⟨m.nk, fun q hq => ?_, fun x hx k hk => ?_⟩
  · obtain ⟨a1, a2, a3, a4⟩ := m.rm q hq
    refine ⟨a1, ?_, a3, fun x hx hR => ?_⟩
    · rw [List.take_add_one]
      exact List.mem_append_left _ a2
    · rw [List.take_add_one, hi] at hx
      rcases List.mem_append.mp hx with z | z
      · exact a4 x z hR
      · have e : x = r' := by simpa using z
        have := lt q.2 a2
        omega
  · rw [List.take_add_one, hi] at hx
    rcases List.mem_append.mp hx with z | z
    · exact m.all x z k hk
    · have e : x = r' := by simpa using z
      rw [e] at hk
      exact m.all s h2 k (h3.trans hk)
/-- the next room is new -/
theorem Met.new {c : List (Int × Int)} {M : List (Int × Int)} {i : Nat} {r : Int} {ns : List Int} (g : ∀ p ∈ c, RgW p) (m : Met c ((roomsM c).take i) M) (hi : (roomsM c)[i]? = some r) (h : r ∉ M.map (·.1)) (nd : ns.Nodup) (mem : ∀ k, k ∈ ns ↔ Reach c r k) :
    (∀ j n, ns[j]? = some n → n ∉ (M ++ (ns.take j).map fun n => (n, r)).map (·.1)) ∧ (∀ j, (M ++ (ns.take j).map fun n => (n, r)).length ≤ 100) ∧ Met c ((roomsM c).take (i + 1)) (M ++ ns.map fun n => (n, r)) := by
  have rr : r ∈ roomsM c := List.mem_of_getElem? hi
  have apart : ∀ n ∈ ns, n ∉ M.map (·.1) := fun n hn z => by
    obtain ⟨q, hq, e⟩ := List.mem_map.mp z
    obtain ⟨_, h2, h3, _⟩ := m.rm q hq
    have hR := (mem n).mp hn
    rw [e] at h3
    exact h (m.all q.2 h2 r (h3.trans hR.symm))
  have fst : ∀ l : List Int, (l.map fun n => (n, r)).map (·.1) = l := fun l => by rw [List.map_map]; exact List.map_id _
  have keys : ∀ j, ((M ++ (ns.take j).map fun n => (n, r)).map (·.1)).Nodup := fun j => by
    rw [List.map_append, fst, List.nodup_append]
    exact ⟨m.nk, nd.sublist (List.take_sublist _ _), fun x hx y hy e => apart y (List.mem_of_mem_take hy) (e ▸ hx)⟩
  have rooms : ∀ l : List Int, (∀ x ∈ l, x ∈ ns) → ∀ q ∈ M ++ l.map (fun n => (n, r)), q.1 ∈ roomsM c := fun l hl q hq => by
    rcases List.mem_append.mp hq with z | z
    · exact (m.rm q z).1
    · obtain ⟨n, hn, rfl⟩ := List.mem_map.mp z
      exact ((mem n).mp (hl n hn)).room g rr
  refine ⟨fun j n hn z => ?_, fun j => len_keys (keys j) (rooms _ fun x hx => List.mem_of_mem_take hx), ?_, fun q hq => ?_, fun x hx k hk => ?_⟩
  · rw [List.map_append, fst] at z
    rcases List.mem_append.mp z with z | z
    · exact apart n (List.mem_of_getElem? hn) z
    · obtain ⟨i', hi', e⟩ := List.getElem_of_mem z
      rw [List.getElem_take] at e
      rw [List.length_take] at hi'
      obtain ⟨hj, ej⟩ := List.getElem?_eq_some_iff.mp hn
      have := List.pairwise_iff_getElem.mp nd i' j (by omega) hj (by omega)
      exact this (e.trans ej.symm)
  · have z := keys ns.length
    rw [List.take_length] at z
    exact z
  · refine ⟨rooms ns (fun x hx => hx) q hq, ?_⟩
    rw [List.take_add_one, hi]
    rcases List.mem_append.mp hq with z | z
    · obtain ⟨_, a2, a3, a4⟩ := m.rm q z
      refine ⟨List.mem_append_left _ a2, a3, fun x hx hR => ?_⟩
      rcases List.mem_append.mp hx with y | y
      · exact a4 x y hR
      · have e : x = r := by simpa using y
        rw [e] at hR
        exact absurd (List.mem_map.mpr ⟨q, z, rfl⟩) (apart q.1 ((mem _).mpr hR))
    · obtain ⟨n, hn, rfl⟩ := List.mem_map.mp z
      have hR := (mem n).mp hn
      refine ⟨List.mem_append_right _ (by simp), hR, fun x hx hx' => ?_⟩
      rcases List.mem_append.mp hx with y | y
      · exact absurd (m.all x y r (hx'.trans hR.symm)) h
      · have e : x = r := by simpa using y
        exact Int.le_of_eq e.symm
  · rw [List.map_append, fst]
    rw [List.take_add_one, hi] at hx
    rcases List.mem_append.mp hx with y | y
    · exact List.mem_append_left _ (m.all x y k hk)
    · have e : x = r := by simpa using y
      rw [e] at hk
      exact List.mem_append_right _ ((mem k).mpr hk)
def tagOf (M : List (Int × Int)) (k : Int) : Int := match valV (dkI M) (Sum.inl k) with | some (.int s) => s | _ => 0
theorem tagOf_in {M : List (Int × Int)} {r s : Int} (nk : (M.map (·.1)).Nodup) (h : (r, s) ∈ M) : tagOf M r = s := by
  unfold tagOf
  rw [valI_in nk h]
theorem Met.tag {c : List (Int × Int)} {M : List (Int × Int)} (m : Met c (roomsM c) M) : IsTag c (tagOf M) ∧ ∀ r ∈ roomsM c, valV (dkI M) (Sum.inl r) = some (V.int (tagOf M r)) := by
  have key : ∀ r ∈ roomsM c, ∃ s, (r, s) ∈ M := fun r hr => by
    obtain ⟨⟨r', s⟩, h, rfl⟩ := List.mem_map.mp (m.all r hr r .refl)
    exact ⟨s, h⟩
  refine ⟨fun r hr => ?_, fun r hr => ?_⟩
  · obtain ⟨s, hs⟩ := key r hr
    rw [tagOf_in m.nk hs]
    obtain ⟨_, h2, h3, h4⟩ := m.rm _ hs
    exact ⟨h2, h3, h4⟩
  · obtain ⟨s, hs⟩ := key r hr
    rw [tagOf_in m.nk hs]
    exact valI_in m.nk hs
theorem DqAll.of_get {K : PySem.W.Frag} {H : Hp} : ∀ {xs : List V} {ds : List PyData}, xs.length = ds.length → (∀ (i : Nat) x d, xs[i]? = some x → ds[i]? = some d → Dq K H x d) → DqAll K H xs ds
  | [], [], _, _ => .nil
  | [], _ :: _, h, _ => by simp at h
  | _ :: _, [], h, _ => by simp at h
  | x :: xs, d :: ds, h, g => .cons (g 0 x d rfl rfl) (DqAll.of_get (by simpa using h) fun i y e h1 h2 => g (i + 1) y e (by simpa using h1) (by simpa using h2))
theorem CvAt.way {K : PySem.W.Frag} {H : Hp} {a : Addr} {ts : List Addr} {c : List (Int × Int)} (h : CvAt K H a ts c) {q : Addr × Int × Int} (hq : q ∈ ts.zip c) : Dq K H (.ref q.1) (wayD q.2) := by
  obtain ⟨j, hj⟩ := List.getElem?_of_mem hq
  rw [List.getElem?_zip_eq_some] at hj
  exact .tup (h.it j q.1 q.2 hj.1 hj.2) (.cons (.int _) (.cons (.int _) .nil))
/-- some of a cave's ways, as data -/
theorem CvAt.some {K : PySem.W.Frag} {H : Hp} {a : Addr} {ts : List Addr} {c : List (Int × Int)} (h : CvAt K H a ts c) (f : Int × Int → Bool) :
    DqAll K H (((ts.zip c).filter fun q => f q.2).map fun q => V.ref q.1) ((c.filter f).map wayD) := by
  have e : c.filter f = ((ts.zip c).filter fun q => f q.2).map (·.2) := by
    have z : (ts.zip c).map (·.2) = c := List.map_snd_zip (by rw [h.len]; exact Nat.le_refl _)
    conv => lhs; rw [← z]
    rw [List.filter_map]
    rfl
  rw [e, List.map_map]
  refine DqAll.of_get (by rw [List.length_map, List.length_map]) fun i x d h1 h2 => ?_
  rw [List.getElem?_map] at h1 h2
  cases z : ((ts.zip c).filter fun q => f q.2)[i]? with
  | none => rw [z] at h1; cases h1
  | some q =>
    rw [z] at h1 h2
    cases h1
    cases h2
    exact h.way (List.mem_filter.mp (List.mem_of_getElem? z)).1
def spParts (K : PySem.W.Frag) (C : Addr) : Sp := fun vs H Q E => ∃ (v : V) (d : PyData), vs = [v] ∧ Dq K H v d ∧
  (∀ c, d = caveD c → Good c → ∀ H' p xs T, Same H H' → H p = none → H' p = some (.lst xs) → IsTag c T → DqAll K H' xs ((partsM T c).map caveD) → Q (.ref p) H') ∧ (isCaveD d = false → ∀ H', Same H H' → E (.ref C) none H')
section
variable {P : Program} {w : World} {K : PySem.W.Frag} {mg : Str → Option Value} {base : Heap}
theorem ok_parts {f fC fW fA C : Addr} {fd dC dW dA : FuncData} {k : Nat} (F : Fun K "parts_of" "parts_of" sParts f fd) (GC : FnOk P w K mg base (L2.CX P w) (k + 5) fC dC ["cave"] (spCk K C)) (bC : Binds K dC ["cave"] []) (gC : mg "check_cave" = some (.ref fC)) (kC : PySem.W.keepIn K (.ref fC) = true)
    (GW : FnOk P w K mg base CX0 (k + 7) fW dW ["cave"] (spWbr K)) (bW : Binds K dW ["cave"] []) (gW : mg "ways_by_room" = some (.ref fW)) (kW : PySem.W.keepIn K (.ref fW) = true)
    (GA : FnOk P w K mg base CX0 (k + 2) fA dA ["ways_at", "start"] (spAlong K)) (bA : Binds K dA ["ways_at", "start"] []) (gA : mg "rooms_along" = some (.ref fA)) (kA : PySem.W.keepIn K (.ref fA) = true) (gt : mg "tuple" = none) :
    FnOk P w K mg base (L2.CX P w) (k + 8) f fd ["cave"] (spParts K C) := by
  refine F.okX scParts (fun vs H Q E h => ?_) (fun cdv A outer s H vs Q E hr h => ?_)
  · obtain ⟨v, d, rfl, _⟩ := h
    rfl
  · obtain ⟨v, d, rfl, hd, q1, q2⟩ := h
    refine ⟨_, pss_cons (ps_expr (pe_call GC (hr.mono (by omega)) (by rfl) gC kC bC .nil (passes_call (takes_of rfl rfl rfl rfl) fun _ _ _ _ h => h) (pa_cons (pv 0) pa_nil)))
      (PSs.nox (pss_cons (ps_set (i := 1) scParts.nd rfl (.inl rfl) (pe_call GW (hr.mono (by omega)) (by rfl) gW kW bW .nil pass0 (pa_cons (pv 0) pa_nil)))
      (pss_cons (ps_set (i := 2) scParts.nd rfl (.inl rfl) pe_dnewK)
      (pss_cons (ps_lock (ps_for PassesOwn.never rfl (pi_keys (pv 1)) (pg_name (i := 3) scParts.nd rfl (.inl rfl)) (pss_one (ps_if (pt_cmp (pc_dnotin (hu_of hr) (pv 3) (pv 2)))
        (pss_one (ps_for PassesOwn.never rfl (pi_list (pe_call GA (hr.mono (by omega)) (by rfl) gA kA bA .nil pass0 (pa_cons (pv 1) (pa_cons (pv 3) pa_nil)))) (pg_name (i := 4) scParts.nd rfl (.inl rfl)) (pss_one (ps_dput (hu_of hr) (pv 2) (pv 4) (pv 3) rfl)))) pss_nil))))
      (pss_cons (ps_set (i := 5) scParts.nd rfl (.inl rfl) pe_dnewK)
      (pss_cons (ps_for PassesOwn.never rfl (pi_tup (pv 0)) (pg_name (i := 6) scParts.nd rfl (.inl rfl)) (pss_one (ps_expr (pe_bm PySem.F.plainAttrs_list PySem.F.slot_list_append PySem.F.type_list_append mt_append
          (pe_dsetd (pv 5) (pe_dget (hu_of hr) (pv 2) (pe_ix ix_tup (pv 6) pe_int (fun _ _ => rfl)) (fun _ _ => rfl)) (pe_lst pa_nil) ⟨rfl, rfl, rfl, rfl⟩) (pa_cons (pv 6) pa_nil)))))
      (pss_one (ps_ret (pe_lock (pe_lc (own := [("ways", 7)]) (g := gName 7) (tt := tYes) (te := tCB (fun xs H Q => ∃ p ys, xs = [.ref p] ∧ ((SqL K H p ys ∧ ∀ l, H l = none → Q (.ref l) (upd H l (.tup ys))) ∨ (SqT K H p ys ∧ Q (.ref p) H))) (tCons (tVar 7) tNil)) rfl scParts.nd (pi_values (pv 5))
          (blkOk_by (own := [("ways", 7)]) (N := nParts) (sc := defScope sParts) (by decide +kernel)) (fun _ _ _ _ _ => pg_name (i := 7) scParts.nd rfl (.inl rfl)) (fun _ _ _ _ _ => pts_nil) (fun _ _ _ _ _ => pe_callTy call_tuple_of (by rfl) gt (by decide +kernel) (pa_cons (pv 7) pa_nil)))))))))))), ?_⟩
    refine ⟨v, rfl, v, d, rfl, hd, fun e H1 s1 => ?_, q2⟩
    obtain ⟨c, rfl, g⟩ := cav_inv e
    have hd1 := Dq.up s1 _ hd
    obtain ⟨a, ts, rfl, hc⟩ := hd1.cave
    have q1 := q1 c rfl g
    refine ⟨.ref a, rfl, a, ts, c, rfl, hd1, hc, g, fun H2 D L b hD hk => ?_⟩
    refine fun Pb nP => ?_
    dsimp only [gName]
    refine seqI ?_
    have nP1 : H1 Pb = none := b.same.free nP
    have DPb : D ≠ Pb := ne_of_none hD nP
    have b3 := b.up (same_upd (o := .dK []) nP)
    have hD3 : upd H2 Pb (.dK []) D = some (.dK (dkL L)) := by rw [upd_ne DPb]; exact hD
    have hP3 : upd H2 Pb (.dK []) Pb = some (.dK []) := upd_same
    generalize upd H2 Pb (HO.dK []) = H3 at b3 hD3 hP3
    refine ⟨D, .dK (dkL L), hD3, trivial, fun od => ?_⟩
    have b4 := b3.setD (u := .frz od (.dK (dkL L))) (.inr ⟨od, rfl⟩)
    have hD4 : upd H3 D (.frz od (.dK (dkL L))) D = some (.frz od (.dK (dkL L))) := upd_same
    have hP4 : upd H3 D (.frz od (.dK (dkL L))) Pb = some (.dK (dkI [])) := by rw [upd_ne DPb.symm]; exact hP3
    generalize upd H3 D (HO.frz od (HO.dK (dkL L))) = H4 at b4 hD4 hP4
    have lenK : (dkL L).length = (roomsM c).length := by
      rw [← hk]
      unfold dkL
      rw [List.length_map, List.length_map]
    refine ⟨.ref D, rfl, D, od, rfl, .inl ⟨dkL L, hD4, for_keysD (fun i σ H' => ∃ x y z w u, σ = [some (.ref a), some (.ref D), some (.ref Pb), x, y, z, w, u] ∧ WB H1 H' D L (wAt ts c) ∧ H' D = some (.frz od (.dK (dkL L))) ∧
      ∃ M, H' Pb = some (.dK (dkI M)) ∧ Met c ((roomsM c).take i) M) ⟨_, _, _, _, _, rfl, b4, hD4, [], hP4, Met.zero⟩ (fun i σ H' ⟨_, _, _, _, _, _, _, e, _⟩ => e) ?_ ?_⟩⟩
    · rintro i key vv σ H5 hkey ⟨x, y, z, w', u, rfl, b5, hD5, M, hP5, m5⟩
      obtain ⟨r, l, hL, rfl⟩ : ∃ r l, L[i]? = some (r, l) ∧ key = Sum.inl r := by
        unfold dkL at hkey
        rw [List.getElem?_map] at hkey
        cases e : L[i]? with
        | none => rw [e] at hkey; cases hkey
        | some q =>
          rw [e] at hkey
          cases hkey
          exact ⟨q.1, q.2, rfl, rfl⟩
      have hr' : (roomsM c)[i]? = some r := by
        rw [← hk, List.getElem?_map, hL]
        rfl
      have rr : r ∈ roomsM c := List.mem_of_getElem? hr'
      refine ⟨.int r, rfl, .ref Pb, rfl, Pb, _, rfl, DGet.k (k := Sum.inl r) hP5, _, rfl, ite2 (fun e => ?_) (fun e => ?_)⟩
      · have fresh : r ∉ M.map (·.1) := fun z => by
          obtain ⟨⟨r', s⟩, h, rfl⟩ := List.mem_map.mp z
          rw [valI_in m5.nk h] at e
          simp at e
        refine ⟨.ref D, rfl, .int r, rfl, H1, D, a, L, ts, c, r, rfl, b5, hk, hc.up b5.same, g, rr, fun H6 p ns s6 np hp nd mem => ⟨p, rfl, ⟨_, SqL.of hp⟩, ?_⟩⟩
        obtain ⟨n1, n2, n3⟩ := m5.new g.rg hr' fresh nd mem
        refine for_list (K := K) (a := p) (xs := ns.map V.int) (fun j σ H' => ∃ y z w u, σ = [some (.ref a), some (.ref D), some (.ref Pb), some (.int r), y, z, w, u] ∧ WB H1 H' D L (wAt ts c) ∧ H' D = some (.frz od (.dK (dkL L))) ∧
          H' p = some (.lst (ns.map V.int)) ∧ H' Pb = some (.dK (dkI (M ++ (ns.take j).map fun n => (n, r))))) ⟨_, _, _, _, rfl, b5.up s6, s6 _ _ hD5, hp, by rw [s6 _ _ hP5]; simp⟩ (fun j σ H' _ ⟨_, _, _, _, _, _, _, e, _⟩ => SqL.of e) ?_ ?_
        · rintro j xx σ H7 hx ⟨y', z', w'', u', rfl, b7, hD7, hp7, hP7⟩
          obtain ⟨n, hn, rfl⟩ : ∃ n, ns[j]? = some n ∧ xx = V.int n := by
            rw [List.getElem?_map] at hx
            cases e : ns[j]? with
            | none => rw [e] at hx; cases hx
            | some t => rw [e] at hx; exact ⟨t, rfl, (Option.some.inj hx).symm⟩
          have len := n2 j
          refine ⟨.int r, rfl, .ref Pb, rfl, .int n, rfl, Pb, _, rfl, DPut.k (k := Sum.inl n) hP7 (by unfold dkI; rw [List.length_map, sizeLine_eq]; omega), ?_⟩
          rw [putI (n1 j n hn)]
          refine ⟨_, _, _, _, rfl, b7.oth nP1 DPb hP7, ?_, ?_, ?_⟩
          · rw [upd_ne DPb]
            exact hD7
          · rw [upd_ne (fun e => by rw [e, hP7] at hp7; cases hp7)]
            exact hp7
          · rw [upd_same, List.take_add_one, hn, List.map_append, List.append_assoc]
            rfl
        · rintro σ H7 ⟨y', z', w'', u', rfl, b7, hD7, hp7, hP7⟩
          rw [List.length_map, List.take_length] at hP7
          exact ⟨_, _, _, _, _, rfl, b7, hD7, _, hP7, n3⟩
      · have isin : r ∈ M.map (·.1) := Decidable.byContradiction fun z => by
          rw [valI_out z] at e
          simp at e
        exact ⟨_, _, _, _, _, rfl, b5, hD5, M, hP5, m5.old hr' isin⟩
    · rintro σ H5 ⟨x, y, z, w', u, rfl, b5, hD5, M, hP5, m5⟩
      rw [lenK, List.take_length] at m5
      obtain ⟨tg, hval⟩ := m5.tag
      have same6 : Same H1 (upd H5 D (.dK (dkL L))) := (b5.setD (u := .dK (dkL L)) (.inl rfl)).same
      have hP6 : upd H5 D (.dK (dkL L)) Pb = some (.dK (dkI M)) := by rw [upd_ne DPb.symm]; exact hP5
      refine ⟨hD5, ?_⟩
      generalize upd H5 D (HO.dK (dkL L)) = H6 at same6 hP6
      refine seqI fun Pd nPd => ?_
      dsimp only [gName]
      refine seqI ?_
      have b7 : WB H6 (upd H6 Pd (.dK [])) Pd [] (fun _ => []) := ⟨same_upd nPd, .inl upd_same, fun q h => by simp at h, List.nodup_nil, List.nodup_nil, nPd, fun q h => by simp at h⟩
      have hd7 : upd H6 Pd (.dK []) Pd = some (.dK (dkL [])) := upd_same
      generalize upd H6 Pd (HO.dK []) = H7 at b7 hd7
      have hc6 := hc.up same6
      generalize tagOf M = T at tg hval
      refine ⟨.ref a, rfl, a, rfl, ⟨_, (hc6.up b7.same).sq⟩, for_tup (K := K) (a := a) (xs := ts.map V.ref) (fun i σ H' => ∃ x y w u, σ = [some (.ref a), some (.ref D), some (.ref Pb), x, y, some (.ref Pd), w, u] ∧
        ∃ L' f, WB H6 H' Pd L' f ∧ H' Pd = some (.dK (dkL L')) ∧ L'.map (·.1) = keysM T (c.take i) [] ∧ ∀ k, f k = (((ts.zip c).take i).filter fun q => decide (T q.2.1 = k)).map fun q => V.ref q.1)
        ⟨_, _, _, _, rfl, [], _, b7, hd7, rfl, fun k => rfl⟩ (fun i σ H' _ ⟨_, _, _, _, _, _, _, b', _⟩ => (hc6.up b'.same).sq) ?_ ?_⟩
      · rintro i xx σ H8 hx ⟨x', y', w'', u', rfl, L', f, b8, hd8, hk8, hf8⟩
        obtain ⟨t, ht, rfl⟩ : ∃ t, ts[i]? = some t ∧ xx = V.ref t := by
          rw [List.getElem?_map] at hx
          cases e : ts[i]? with
          | none => rw [e] at hx; cases hx
          | some t => rw [e] at hx; exact ⟨t, rfl, (Option.some.inj hx).symm⟩
        have hi : i < c.length := by
          have := (List.getElem?_eq_some_iff.mp ht).1
          rw [hc.len] at this
          exact this
        have hp : c[i]? = some c[i] := List.getElem?_eq_getElem hi
        generalize c[i] = p at hp
        have hw := (hc6.up b8.same).it i t p ht hp
        have lc := len_good g.rg g.asc
        have pr : p.1 ∈ roomsM c := (mem_rooms g.rg).mpr ⟨p, List.mem_of_getElem? hp, .inl rfl⟩
        have dg : DGet H8 Pb (kV (Sum.inl p.1)) (some (V.int (T p.1))) := by
          have z := DGet.k (k := Sum.inl p.1) (b8.same _ _ hP6)
          rw [hval p.1 pr] at z
          exact z
        have stepK : keysM T (c.take (i + 1)) [] = if T p.1 ∈ L'.map (·.1) then L'.map (·.1) else L'.map (·.1) ++ [T p.1] := by
          rw [List.take_add_one, hp, keysM_app, hk8]
          rfl
        have stepF : ∀ k, (((ts.zip c).take (i + 1)).filter fun q => decide (T q.2.1 = k)).map (fun q => V.ref q.1) = if k = T p.1 then f k ++ [V.ref t] else f k := fun k => by
          rw [List.take_add_one, zip_get ht hp, List.filter_append, List.map_append, hf8 k]
          by_cases e : k = T p.1
          · rw [if_pos e]
            simp [e]
          · rw [if_neg e]
            have e' : ¬ T p.1 = k := fun z => e z.symm
            simp [e']
        have lenf : ∀ k, (f k).length ≤ i := fun k => by
          rw [hf8, List.length_map]
          have h1 := List.length_filter_le (fun q : Addr × Int × Int => decide (T q.2.1 = k)) ((ts.zip c).take i)
          rw [List.length_take] at h1
          omega
        have lenL : (dkL L').length ≤ 10000 := by
          have e1 : (dkL L').length = (keysM T (c.take i) []).length := by
            rw [← hk8]
            unfold dkL
            rw [List.length_map, List.length_map]
          have e2 : ∀ (d : List (Int × Int)) (ks : List Int), (keysM T d ks).length ≤ ks.length + d.length := fun d => by
            induction d with
            | nil => exact fun ks => Nat.le_refl _
            | cons q d ih =>
              intro ks
              have z := ih (if T q.1 ∈ ks then ks else ks ++ [T q.1])
              have z2 : (if T q.1 ∈ ks then ks else ks ++ [T q.1]).length ≤ ks.length + 1 := by split <;> simp
              show (keysM T d _).length ≤ _
              rw [List.length_cons]
              omega
          have z := e2 (c.take i) []
          rw [List.length_take] at z
          simp only [List.length_nil] at z
          omega
        refine ⟨.ref Pd, rfl, Pd, rfl, .inl ⟨_, .inl hd8⟩, .ref Pb, rfl, .ref t, rfl, t, _, 0, .int p.1, rfl, rfl, hw, atI_nat (j := 0) rfl, Pb, _, rfl, dg, Nat.zero_le _, fun l nl => ⟨dkL L', Sum.inl (T p.1), ?_, rfl, (by rw [sizeLine_eq]; omega), fun v hv => ?_, fun hv => ?_⟩⟩
        · rw [upd_ne (ne_of_none hd8 nl)]
          exact hd8
        · have isin : T p.1 ∈ L'.map (·.1) := Decidable.byContradiction fun z => by
            rw [val_out z] at hv
            cases hv
          obtain ⟨⟨k', l'⟩, hl', e'⟩ := List.mem_map.mp isin
          dsimp only at e'
          subst e'
          rw [val_in b8.nk hl'] at hv
          cases hv
          have b9 := b8.up (same_upd (o := .lst []) nl)
          have hd9 : upd H8 l (.lst []) Pd = some (.dK (dkL L')) := by rw [upd_ne (ne_of_none hd8 nl)]; exact hd8
          generalize upd H8 l (HO.lst []) = H9 at b9 hd9
          have lf := lenf (T p.1)
          refine ⟨.inl ⟨rfl, _, SqL.of (b9.ls _ hl')⟩, .ref t, rfl, l', _, _, rfl, rfl, b9.ls _ hl', (by rw [sizeLine_eq]; dsimp only; omega), _, _, _, _, rfl, L', _, b9.app hl' (fun k => rfl), ?_, ?_, fun k => (stepF k).symm⟩
          · rw [upd_ne (rd_ne b9.rd (b9.ls _ hl'))]
            exact hd9
          · rw [stepK, if_pos isin]
        · have fresh : T p.1 ∉ L'.map (·.1) := fun z => by
            obtain ⟨⟨k', l'⟩, hl', e'⟩ := List.mem_map.mp z
            dsimp only at e'
            subst e'
            rw [val_in b8.nk hl'] at hv
            cases hv
          have f0 : f (T p.1) = [] := by
            rw [hf8]
            refine List.map_eq_nil_iff.mpr (List.filter_eq_nil_iff.mpr fun q hq z => fresh ?_)
            have qc : q.2 ∈ c.take i := by
              obtain ⟨j, hj⟩ := List.getElem?_of_mem hq
              rw [List.getElem?_take] at hj
              split at hj
              · rename_i lt
                rw [List.getElem?_zip_eq_some] at hj
                exact List.mem_of_getElem? (i := j) (by rw [List.getElem?_take, if_pos lt]; exact hj.2)
              · cases hj
            rw [hk8, ← of_decide_eq_true z]
            exact keysM_mem T _ [] q.2 qc
          rw [put_new fresh]
          have b9 := b8.add hd8 nl fresh f0
          have hd9 : upd (upd H8 l (.lst [])) Pd (.dK (dkL (L' ++ [(T p.1, l)]))) Pd = some (.dK (dkL (L' ++ [(T p.1, l)]))) := upd_same
          generalize upd (upd H8 l (HO.lst [])) Pd (HO.dK (dkL (L' ++ [(T p.1, l)]))) = H9 at b9 hd9
          have hl' : (T p.1, l) ∈ L' ++ [(T p.1, l)] := List.mem_append_right _ (by simp)
          have lf := lenf (T p.1)
          refine ⟨.inl ⟨rfl, _, SqL.of (b9.ls _ hl')⟩, .ref t, rfl, l, _, _, rfl, rfl, b9.ls _ hl', (by rw [sizeLine_eq]; dsimp only; omega), _, _, _, _, rfl, _, _, b9.app hl' (fun k => rfl), ?_, ?_, fun k => (stepF k).symm⟩
          · rw [upd_ne (rd_ne b9.rd (b9.ls _ hl'))]
            exact hd9
          · rw [stepK, if_neg fresh, List.map_append]
            rfl
      · rintro σ H8 ⟨x', y', w'', u', rfl, L', f, b8, hd8, hk8, hf8⟩
        rw [List.length_map, hc.len, List.take_length] at hk8
        have ef : ∀ k, f k = ((ts.zip c).filter fun q => decide (T q.2.1 = k)).map fun q => V.ref q.1 := fun k => by
          rw [hf8, List.length_map, List.take_of_length_le (by rw [List.length_zip]; omega)]
        refine ⟨Pd, .dK (dkL L'), hd8, trivial, fun o2 => ?_⟩
        have b9 := b8.setD (u := .frz o2 (.dK (dkL L'))) (.inr ⟨o2, rfl⟩)
        have hd9 : upd H8 Pd (.frz o2 (.dK (dkL L'))) Pd = some (.frz o2 (.dK (dkL L'))) := upd_same
        generalize upd H8 Pd (HO.frz o2 (HO.dK (dkL L'))) = H9 at b9 hd9
        have lenL : L'.length ≤ 20000 := by
          have z := keysM_len T c []
          rw [← hk8, List.length_map, List.length_nil] at z
          have := len_good g.rg g.asc
          omega
        refine ⟨.ref Pd, rfl, Pd, o2, dkL L', rfl, hd9, fun D2 nD2 => ?_⟩
        refine walkV (fun j H' => Same H9 H' ∧ ∃ ps : List Addr, H' D2 = some (.lst (ps.map V.ref)) ∧ ps.length = j ∧ ∀ (i : Nat) (p : Addr) (q : Int × Addr), ps[i]? = some p → L'[i]? = some q → H' p = some (.tup (f q.1))) ⟨same_upd nD2, [], upd_same, rfl, fun i p q h => by simp at h⟩
          (fun j H' ⟨s, _⟩ => s _ _ hd9) ?_ ?_
        · rintro j key x H10 hj ⟨s10, ps, hps, hlen, hall⟩
          obtain ⟨q, hq, rfl, rfl⟩ : ∃ q : Int × Addr, L'[j]? = some q ∧ key = Sum.inl q.1 ∧ x = V.ref q.2 := by
            unfold dkL at hj
            rw [List.getElem?_map] at hj
            cases e : L'[j]? with
            | none => rw [e] at hj; cases hj
            | some q =>
              rw [e] at hj
              cases hj
              exact ⟨q, rfl, rfl, rfl⟩
          have hqm := List.mem_of_getElem? hq
          have jl := (List.getElem?_eq_some_iff.mp hq).1
          refine ⟨rfl, yesI ⟨.ref q.2, rfl, q.2, _, rfl, .inl ⟨SqL.of (s10 _ _ (b9.ls q hqm)), fun p np => ⟨ps.map V.ref, ?_, (by rw [List.length_map, sizeLine_eq]; omega), ?_, ps ++ [p], ?_, ?_, fun i p' q' h1 h2 => ?_⟩⟩⟩⟩
          · rw [upd_ne (ne_of_none hps np)]
            exact hps
          · intro b' o e
            have ne1 : b' ≠ D2 := ne_of_none e nD2
            rw [upd_ne ne1, upd_ne (ne_of_none (s10 _ _ e) np)]
            exact s10 _ _ e
          · rw [upd_same, List.map_append]
            rfl
          · rw [List.length_append, hlen]
            rfl
          · have pD : p ≠ D2 := fun e => by rw [e, hps] at np; cases np
            by_cases hi : i < ps.length
            · rw [List.getElem?_append_left hi] at h1
              have y := hall i p' q' h1 h2
              rw [upd_ne (fun e => by rw [e, hps] at y; cases y), upd_ne (ne_of_none y np)]
              exact y
            · rw [List.getElem?_append_right (by omega)] at h1
              have z0 : i - ps.length = 0 := by
                have := (List.getElem?_eq_some_iff.mp h1).1
                simp at this
                omega
              rw [z0] at h1
              cases h1
              have ei : i = j := by omega
              rw [ei, hq] at h2
              cases h2
              rw [upd_ne pD, upd_same]
        · rintro H10 ⟨s10, ps, hps, hlen, hall⟩
          refine ⟨s10 _ _ hd9, ?_⟩
          have nPd1 : H1 Pd = none := same6.free nPd
          have D2d : D2 ≠ Pd := fun e => by rw [e, hd9] at nD2; cases nD2
          have s9 : Same H1 H9 := same6.trans b9.same
          have sF : Same H (upd H10 Pd (.dK (dkL L'))) := fun b' o e => by
            rw [upd_ne (ne_of_none (s1 _ _ e) nPd1)]
            exact s10 _ _ (s9 _ _ (s1 _ _ e))
          have s1F : Same H1 (upd H10 Pd (.dK (dkL L'))) := fun b' o e => by
            rw [upd_ne (ne_of_none e nPd1)]
            exact s10 _ _ (s9 _ _ e)
          refine q1 _ D2 (ps.map V.ref) T sF (s1.free (s9.free nD2)) (by rw [upd_ne D2d]; exact hps) tg ?_
          have lenKs : L'.length = (keysM T c []).length := by rw [← hk8, List.length_map]
          have lenD : (dkL L').length = L'.length := by unfold dkL; rw [List.length_map]
          refine DqAll.of_get ?_ fun i x d h1 h2 => ?_
          · unfold partsM
            rw [List.length_map, List.length_map, List.length_map, ← lenKs, ← lenD]
            exact hlen
          · rw [List.getElem?_map] at h1 h2
            unfold partsM at h2
            rw [List.getElem?_map] at h2
            cases e1 : ps[i]? with
            | none => rw [e1] at h1; cases h1
            | some p =>
              rw [e1] at h1
              cases h1
              have ik : i < (keysM T c []).length := by
                have := (List.getElem?_eq_some_iff.mp e1).1
                omega
              have eL : L'[i]? = some L'[i] := List.getElem?_eq_getElem (by omega)
              have eK : (keysM T c [])[i]? = some (L'[i]'(by omega)).1 := by
                rw [← hk8, List.getElem?_map, eL]
                rfl
              rw [eK] at h2
              cases h2
              have y := hall i p _ e1 eL
              have pd : p ≠ Pd := fun e => by rw [e, s10 _ _ hd9] at y; cases y
              rw [ef] at y
              refine .tup (SqT.of ((upd_ne pd).trans y)) ?_
              exact (hc.up s1F).some fun p => decide (T p.1 = (L'[i]'(by omega)).1)
end
end Cv

/-! is_tree -/
namespace Cv
open PySem PySem.Spec PyProof.Rows L2 CvT CvS CvW CvD
theorem keysM_congr {T U : Int → Int} : ∀ (c : List (Int × Int)) (ks : List Int), (∀ p ∈ c, T p.1 = U p.1) → keysM T c ks = keysM U c ks
  | [], _, _ => rfl
  | p :: c, ks, h => by
    show keysM T c _ = keysM U c _
    rw [h p List.mem_cons_self]
    exact keysM_congr c _ fun q hq => h q (List.mem_cons_of_mem _ hq)
theorem partsM_congr {T U : Int → Int} {c : List (Int × Int)} (h : ∀ p ∈ c, T p.1 = U p.1) : partsM T c = partsM U c := by
  unfold partsM
  rw [keysM_congr c [] h]
  refine List.map_congr_left fun k _ => List.filter_congr fun p hp => ?_
  rw [h p hp]
theorem IsTag.parts {T U : Int → Int} {c : List (Int × Int)} (r : ∀ p ∈ c, RgW p) (a : IsTag c T) (b : IsTag c U) : partsM T c = partsM U c :=
  partsM_congr fun p hp => a.eq b ((mem_rooms r).mpr ⟨p, hp, .inl rfl⟩)
def treeM (T : Int → Int) (c : List (Int × Int)) : Bool := decide ((roomsM c).length = c.length + 1) && decide ((partsM T c).length = 1)
abbrev sTree : Stmt := topS 14
theorem scTree : FnScope ["thing"] ["thing"] (defScope sTree) := ⟨rfl, rfl, rfl, by decide +kernel, rfl, by decide +kernel, by decide +kernel⟩
def spTree (K : PySem.W.Frag) : Sp := fun vs H Q _ => ∃ (v : V) (d : PyData), vs = [v] ∧ Dq K H v d ∧
  ((∃ c T, d = caveD c ∧ Good c ∧ IsTag c T ∧ ∀ H', Same H H' → Q (.bl (treeM T c)) H') ∨ (isCaveD d = false ∧ ∀ H', Same H H' → Q (.bl false) H'))
section
variable {P : Program} {w : World} {K : PySem.W.Frag} {mg : Str → Option Value} {base : Heap}
theorem ok_tree {f fI fR fP C : Addr} {fd dI dR dP : FuncData} {k : Nat} (F : Fun K "is_tree" "is_tree" sTree f fd) (GI : FnOk P w K mg base CX0 (k + 4) fI dI ["thing"] (spD K isCaveD)) (bI : Binds K dI ["thing"] []) (gI : mg "is_cave" = some (.ref fI)) (kI : PySem.W.keepIn K (.ref fI) = true)
    (GR : FnOk P w K mg base (L2.CX P w) (k + 6) fR dR ["cave"] (spRooms K C)) (bR : Binds K dR ["cave"] []) (gR : mg "rooms_of" = some (.ref fR)) (kR : PySem.W.keepIn K (.ref fR) = true)
    (GP : FnOk P w K mg base (L2.CX P w) (k + 8) fP dP ["cave"] (spParts K C)) (bP : Binds K dP ["cave"] []) (gP : mg "parts_of" = some (.ref fP)) (kP : PySem.W.keepIn K (.ref fP) = true) (gl : mg "len" = none) :
    FnOk P w K mg base CX0 (k + 9) f fd ["thing"] (spTree K) := by
  refine F.ok scTree (fun vs H Q E h => ?_) (fun cdv A outer s H vs Q E hr h => ?_)
  · obtain ⟨v, d, rfl, _⟩ := h
    rfl
  · obtain ⟨v, d, rfl, hd, h⟩ := h
    refine ⟨_, pss_one (ps_ret (pe_and (pe_call GI (hr.mono (by omega)) (by rfl) gI kI bI .nil pass0 (pa_cons (pv 0) pa_nil))
      (pe_and (pe_cmpR op_eq (pe_callB call_len_seq (by rfl) gl PySem.boot_len (pa_cons (pe_call GR (hr.mono (by omega)) (by rfl) gR kR bR .nil passE (pa_cons (pv 0) pa_nil)) pa_nil)) (pe_op op_add (pe_callB call_len_seq (by rfl) gl PySem.boot_len (pa_cons (pv 0) pa_nil)) pe_int) (nomark _))
      (pe_one (pe_cmpR op_eq (pe_callB call_len_seq (by rfl) gl PySem.boot_len (pa_cons (pe_call GP (hr.mono (by omega)) (by rfl) gP kP bP .nil passE (pa_cons (pv 0) pa_nil)) pa_nil)) pe_int (nomark _)))))), ?_⟩
    refine ⟨v, rfl, v, d, rfl, hd, fun H1 s1 => ⟨_, rfl, ite2 (fun e => ?_) (fun e => ?_)⟩⟩
    · rcases h with ⟨c, T, rfl, g, tg, q⟩ | ⟨no, _⟩
      · have hd1 := Dq.up s1 _ hd
        refine ⟨v, rfl, v, caveD c, rfl, hd1, fun c' e' g' H2 p s2 np hp => ?_, fun z => ?_⟩
        · obtain rfl := caveD_inj e'
          obtain ⟨a, ts, rfl, hc⟩ := (Dq.up s2 _ hd1).cave
          have Q2 := q H2 (s1.trans s2)
          refine ⟨p, _, rfl, .inl (SqL.of hp), .ref a, rfl, a, _, rfl, .inr hc.sq, _, _, rfl, rfl, rfl, ?_⟩
          refine ⟨_, rfl, ite2 (fun e2 => ?_) (fun e2 => ?_)⟩
          · have e3 : (roomsM c).length = c.length + 1 := by
              have z := V.int.inj (of_decide_eq_true e2)
              rw [List.length_map, List.length_map, hc.len] at z
              omega
            refine ⟨.ref a, rfl, .ref a, caveD c, rfl, Dq.up s2 _ hd1, fun c'' e'' g'' H3 p3 xs U s3 np3 hp3 tU dq => ?_, fun z => ?_⟩
            · obtain rfl := caveD_inj e''
              refine ⟨p3, _, rfl, .inl (SqL.of hp3), rfl, ?_⟩
              have l3 : xs.length = (partsM T c).length := by
                rw [dq.len, List.length_map, tU.parts g.rg tg]
              have Q3 := q H3 ((s1.trans s2).trans s3)
              have z : treeM T c = decide (V.int ((xs.length : Nat) : Int) = V.int 1) := by
                unfold treeM
                rw [decide_eq_true e3, Bool.true_and, l3]
                exact decide_eq_decide.mpr ⟨fun y => by rw [y]; rfl, fun y => by have := V.int.inj y; omega⟩
              rw [z] at Q3
              exact Q3
            · rw [g.isCave] at z
              cases z
          · have e3 : ¬ (roomsM c).length = c.length + 1 := fun z => e2 (decide_eq_true (by rw [List.length_map, List.length_map, hc.len, z]; rfl))
            have z : treeM T c = false := by
              unfold treeM
              rw [decide_eq_false e3, Bool.false_and]
            rw [z] at Q2
            exact Q2
        · rw [g.isCave] at z
          cases z
      · rw [no] at e
        cases e
    · rcases h with ⟨c, T, rfl, g, tg, q⟩ | ⟨no, q⟩
      · exact absurd g.isCave e
      · exact q H1 s1
end
end Cv

/-! set(xs), a list of ints -/
namespace CvS
open PySem PySem.Spec PyProof.Rows L2
abbrev newS (w : World) : Obj := { cls := .type "set", dict := none, data := .set #[] 0 (.fresh 0 0 (!w.params.followText "set-order")) }
section
variable {P : Program} {w : World} {A : Around} {E : Value → Shared → Prop} {s : Shared}
theorem set_ints {l : Addr} {items : Array Value} (ns : List Int) {Q : Value → Shared → Prop} (hh : A.handled = none) (hl : s.heap.IsList l items) (hit : IntsAre items.toList ns) (hb : ns.length + 1 < scanBound)
    (h : ∀ (h' : Heap) (tk c : Nat), SetR w h' s.heap.objs.size (fun j => decide (j ∈ ns)) c → c ≤ ns.length → (∀ b o, s.heap.get? b = some o → h'.get? b = some o) → Q (.ref s.heap.objs.size) { s with heap := h', toks := tk }) :
    wpAny (model P w) A (call (.type "set") [.ref l]) Q E s := by
  have size : items.size = ns.length := (Array.length_toList (xs := items)).symm.trans (IntsAre.length hit)
  obtain ⟨c, tl, hmro⟩ := F.called_set.mro
  have hmade := F.called_set.made
  have hsub := F.called_set.sub
  refine wpAny_call (codeAny_of_tree ?_)
  show wpAny _ _ (callAny (.type "set") _) _ _ _
  refine wpAny_pure ⟨Code.quiet_builtin _ (by decide +kernel), codeAny_builtin F.entry_type_call ?_⟩
  rw [Around.under_plain (weight_type_call_type "set" [.ref l] []) rfl]
  have h1 := F.called_set.notType
  have h2 := F.called_set.canCreate
  have hct := F.typeCall_set_1 (.ref l)
  repeat (any_goals (first | assumption | wp_step))
  obtain ⟨ol, hol, hcl, nl, hdl⟩ := hl
  have hlS : l < s.heap.objs.size := Heap.lt_size hol
  generalize hN : s.heap.objs.size = N at h hlS ⊢
  have hnew : (s.heap.push (newS w)).get? N = some (newS w) := hN ▸ Heap.get?_push_size _ rfl
  have hsz : (s.heap.push (newS w)).objs.size = N + 1 := by rw [Heap.size_push, hN]
  refine codeAny_mono (code_set_led1 (.ref l) (E := E) (Q₁ := fun v m => v = .ref N ∧ m = { s with heap := s.heap.push (newS w) }) ⟨by rw [hN], rfl⟩) fun r m hr => ?_
  match r, hr with
  | .error e, hr => exact hr
  | .ok .next, hr => exact hr.elim
  | .ok .brk, hr => exact hr.elim
  | .ok .cont, hr => exact hr.elim
  | .ok (.ret v), hr =>
    obtain ⟨rfl, rfl⟩ := hr
    have hT : Shared.TypeIs { s with heap := s.heap.push (newS w) } (.ref N) "set" := ⟨_, hnew, rfl⟩
    have hli := F.called_set.init.lookup
    have hbi := F.called_set.init.bind (.ref N)
    repeat (any_goals (first | assumption | wp_step))
    refine codeAny_mono (codeAny_call_builtin (R := wants (fun r m => r = .none ∧ ∃ h' tk c, m = { s with heap := h', toks := tk } ∧ SetR w h' N (fun j => decide (j ∈ ns)) c ∧ c ≤ ns.length ∧ ∀ b o, s.heap.get? b = some o → h'.get? b = some o) E)
      F.called_set.init.plain F.entry_set_init (check_set_init_1 hT ?_)) fun r m hr => ?_
    · obtain ⟨ocls, odict, odata, oslots⟩ := ol
      dsimp only at hcl hdl
      subst hcl hdl
      have hol' := Heap.get?_push_of_some (newS w) hol
      have k1 := F.sub_list_set
      have k2 := F.sub_list_frozenset
      have k3 : (Value.type "list" == Value.type "dict") = false := by decide
      have isL : (s.heap.push (newS w)).IsList l items := ⟨_, hol', rfl, nl, rfl⟩
      unfold Builtin.«set.__init__» noKeywords Builtin.Frozenset.updateFrom
      generalize hPI : pyIter = PI
      wp_walk
      subst hPI
      refine wpAny_pyIter_list isL (wpAny_bind (wpAny_runValue ?_))
      have ne : l ≠ (s.heap.push (newS w)).objs.size := by rw [hsz]; exact Nat.ne_of_lt (Nat.lt_succ_of_lt hlS)
      refine set_update_ints ((Walks.list (show A.in1.in1.in1.handled = none by simp [hh]) _ l ne items).toS) N (fun z => (List.mem_cons.mp z).elim (fun e => Nat.ne_of_lt (Nat.lt_succ_self N) (e.trans hsz)) fun e => Nat.ne_of_gt hlS (List.mem_singleton.mp e)) ns size hb (fun i v hv => ?_) (items.size - 0) 0 _ (by omega) (Nat.zero_le _)
        ⟨⟨_, Heap.get?_push_size _ rfl, rfl, rfl⟩, isL.push _⟩ ⟨0, Nat.le_refl 0, setR_new_at (Heap.get?_push_of_some _ hnew)⟩ fun m c' hm hc' hS => ?_
      · have hi : i < ns.length := by rw [← size]; exact (Array.getElem?_eq_some_iff.mp hv).1
        obtain ⟨t, e⟩ := PyProof.Rows.IntsAre.int_at hit i v (by rw [Array.getElem?_toList]; exact hv)
        exact ⟨ns[i], t, List.getElem?_eq_getElem hi, by rw [e, List.getD_eq_getElem?_getD, List.getElem?_eq_getElem hi]; rfl⟩
      · obtain ⟨h', g2, d2, tk, os2⟩ := m
        obtain rfl : g2 = s.gens := hm.gens
        obtain rfl : d2 = s.drawn := hm.drawn
        obtain rfl : os2 = s.os := hm.os
        show wpAny _ _ _ _ _ _
        refine wpAny_pure ?_
        show wpAny _ _ (ret Value.none) _ _ _
        refine wpAny_pure ⟨rfl, h', tk, c', rfl, hS, size ▸ hc', fun b o e => hm.heap b o (fun z => ?_) (Heap.get?_push_of_some _ (Heap.get?_push_of_some _ e))⟩
        have lt : b < N := hN ▸ Heap.lt_size e
        rcases List.mem_cons.mp z with e | e
        · exact Nat.ne_of_lt lt e
        · exact Nat.ne_of_lt (Nat.lt_succ_of_lt lt) ((List.mem_singleton.mp e).trans hsz)
    · match r, hr with
      | .error e, hr => exact hr
      | .ok .next, hr => exact hr.elim
      | .ok .brk, hr => exact hr.elim
      | .ok .cont, hr => exact hr.elim
      | .ok (.ret v), hr =>
        obtain ⟨rfl, h', tk, c', rfl, hS, hc', hk⟩ := hr
        repeat (any_goals (first | assumption | wp_step))
        exact h _ _ _ hS hc' hk
end
section
variable {X : Cx}
def rSetL (K : PySem.W.Frag) (w : World) : List V → Hp → VK → Prop := fun xs H Q => ∃ (l : Addr) (ns : List Int), xs = [V.ref l] ∧ SqL K H l (ns.map V.int) ∧ ns.length ≤ 4000 ∧
  ∀ a c, H a = none → c ≤ ns.length → Q (.ref a) (upd H a (SetO w a (fun j => decide (j ∈ ns)) c))
theorem cr_setL (hc : X.calm = true) : CallR X (.type "set") (rSetL X.K X.w) := by
  intro pins s σ H xs us Q I r h
  obtain ⟨l, ns, rfl, hl, hn, q⟩ := h
  rw [Vals.ref1 r]
  obtain ⟨its, rv, pl, hz⟩ := I.list hl
  refine set_ints ns (I.ok.hd hc) pl.isList (by simpa using rv.ints) (by unfold scanBound; omega) fun h' tk c R hc' k => ?_
  exact ⟨.ref s.heap.objs.size, _, I.laid (t' := tk) k (Nat.le_refl _) (setO_new R), rfl, q _ c (I.hok.fresh (Nat.le_refl _)) hc'⟩
end
end CvS

/-! the law's own rooms -/
namespace Cv
open PySem PySem.Spec PyProof.Rows L2 CvT CvS CvW CvD
abbrev sLR : Stmt := topS 22
theorem scLR : FnScope ["ways", "way"] ["ways"] (defScope sLR) := ⟨rfl, rfl, rfl, by decide +kernel, rfl, by decide +kernel, by decide +kernel⟩
def spLR (K : PySem.W.Frag) : Sp := fun vs H Q _ => ∃ (a : Addr) (ts : List Addr) (c : List (Int × Int)), vs = [.ref a] ∧ CvAt K H a ts c ∧ Good c ∧ c.length ≤ 1000 ∧
  ∀ H' p, Same H H' → H p = none → H' p = some (.lst ((roomsM c).map V.int)) → Q (.ref p) H'
theorem map_get {α : Type} {f : α → V} {l : List α} {i : Nat} {x : V} (h : (l.map f)[i]? = some x) : ∃ t, l[i]? = some t ∧ x = f t := by
  rw [List.getElem?_map] at h
  cases e : l[i]? with
  | none => rw [e] at h; cases h
  | some t => rw [e] at h; exact ⟨t, rfl, (Option.some.inj h).symm⟩
theorem cv_get {K : PySem.W.Frag} {H : Hp} {a : Addr} {ts : List Addr} {c : List (Int × Int)} (h : CvAt K H a ts c) {i : Nat} {t : Addr} (ht : ts[i]? = some t) : ∃ p, c[i]? = some p ∧ SqT K H t [.int p.1, .int p.2] := by
  have hi : i < c.length := by
    have := (List.getElem?_eq_some_iff.mp ht).1
    rw [h.len] at this
    exact this
  exact ⟨_, List.getElem?_eq_getElem hi, h.it i t _ ht (List.getElem?_eq_getElem hi)⟩
section
variable {P : Program} {w : World} {K : PySem.W.Frag} {mg : Str → Option Value} {base : Heap}
theorem ok_lr {f : Addr} {fd : FuncData} {k : Nat} (F : Fun K "_law_rooms" "_law_rooms" sLR f fd) (gs : mg "sorted" = none) (gt : mg "set" = none) : FnOk P w K mg base CX0 (k + 1) f fd ["ways"] (spLR K) := by
  refine F.ok scLR (fun vs H Q E h => ?_) (fun cdv A outer s H vs Q E hr h => ?_)
  · obtain ⟨a, ts, c, rfl, _⟩ := h
    rfl
  · obtain ⟨a, ts, c, rfl, hc, g, h1000, q⟩ := h
    refine ⟨_, pss_one (ps_ret (pe_callB (cr_sortedA rfl) (by rfl) gs (by decide +kernel) (pa_cons (pe_callTy (cr_setL rfl) (by rfl) gt (by decide +kernel) (pa_cons (pe_op op_cat
        (pe_lc (own := [("way", 1)]) (g := gName 1) (tt := tYes) (te := tOp (rIxT K) (tVar 1) (tC (.int 0))) rfl scLR.nd (pi_tup (pv 0)) (blkOk_by (own := [("way", 1)]) (N := ["ways", "way"]) (sc := defScope sLR) (by decide +kernel)) (fun _ _ _ _ _ => pg_name (i := 1) scLR.nd rfl (.inl rfl)) (fun _ _ _ _ _ => pts_nil) (fun _ _ _ _ _ => pe_ix ix_tup (pv 1) pe_int (fun _ _ => rfl)))
        (pe_lc (own := [("way", 1)]) (g := gName 1) (tt := tYes) (te := tOp (rIxT K) (tVar 1) (tC (.int 1))) rfl scLR.nd (pi_tup (pv 0)) (blkOk_by (own := [("way", 1)]) (N := ["ways", "way"]) (sc := defScope sLR) (by decide +kernel)) (fun _ _ _ _ _ => pg_name (i := 1) scLR.nd rfl (.inl rfl)) (fun _ _ _ _ _ => pts_nil) (fun _ _ _ _ _ => pe_ix ix_tup (pv 1) pe_int (fun _ _ => rfl)))) pa_nil)) pa_nil))), ?_⟩
    have hlen := len_good g.rg g.asc
    have col : ∀ (j : Nat) (f : Int × Int → Int), (∀ p : Int × Int, [V.int p.1, V.int p.2][j]? = some (V.int (f p))) → ∀ (H1 : Hp) (D : Addr), Same H H1 → H1 D = none → ∀ i x H2, (ts.map V.ref)[i]? = some x → (Same H1 H2 ∧ H2 D = some (.lst ((c.take i).map fun p => V.int (f p)))) →
        ∃ (t : Addr) (p : Int × Int), x = .ref t ∧ SqT K H2 t [.int p.1, .int p.2] ∧ H2 D = some (.lst ((c.take i).map fun p => V.int (f p))) ∧ ((c.take i).map fun p => V.int (f p)).length < sizeLine ∧
          (Same H1 (upd H2 D (.lst ((c.take i).map (fun p => V.int (f p)) ++ [V.int (f p)]))) ∧ upd H2 D (.lst ((c.take i).map (fun p => V.int (f p)) ++ [V.int (f p)])) D = some (.lst ((c.take (i + 1)).map fun p => V.int (f p)))) := fun j f hf H1 D s1 nD i x H2 hx ⟨s2, hD⟩ => by
      obtain ⟨t, ht, rfl⟩ := map_get hx
      obtain ⟨p, hp, hw⟩ := cv_get (hc.up (s1.trans s2)) ht
      refine ⟨t, p, rfl, hw, hD, ?_, fun b o e => ?_, ?_⟩
      · rw [List.length_map, List.length_take, sizeLine_eq]
        omega
      · rw [upd_ne (ne_of_none e nD)]
        exact s2 _ _ e
      · rw [upd_same, List.take_add_one, hp, List.map_append]
        rfl
    refine ⟨.ref a, rfl, a, rfl, ⟨_, hc.sq⟩, fun D nD => walkT (K := K) (a := a) (xs := ts.map V.ref) (fun i H2 => Same H H2 ∧ H2 D = some (.lst ((c.take i).map fun p => V.int p.1))) ⟨same_upd nD, upd_same⟩ (fun j H2 ⟨s2, _⟩ => (hc.up s2).sq) (fun i x H2 hx I2 => ?_) (fun H2 ⟨s2, hD⟩ => ?_)⟩
    · obtain ⟨t, p, rfl, hw, e1, e2, e3⟩ := col 0 (·.1) (fun p => rfl) H D (Same.refl H) nD i x H2 hx I2
      exact ⟨rfl, yesI ⟨.ref t, rfl, t, _, 0, .int p.1, rfl, rfl, hw, atI_nat (j := 0) rfl, _, e1, e2, e3⟩⟩
    · rw [List.length_map, hc.len, List.take_length] at hD
      refine ⟨.ref a, rfl, a, rfl, ⟨_, (hc.up s2).sq⟩, fun D' nD' => walkT (K := K) (a := a) (xs := ts.map V.ref) (fun i H3 => Same H2 H3 ∧ H3 D' = some (.lst ((c.take i).map fun p => V.int p.2))) ⟨same_upd nD', upd_same⟩ (fun j H3 ⟨s3, _⟩ => (hc.up (s2.trans s3)).sq) (fun i x H3 hx I3 => ?_) (fun H3 ⟨s3, hD'⟩ => ?_)⟩
      · obtain ⟨t, p, rfl, hw, e1, e2, e3⟩ := col 1 (·.2) (fun p => rfl) H2 D' s2 nD' i x H3 hx I3
        exact ⟨rfl, yesI ⟨.ref t, rfl, t, _, 1, .int p.2, rfl, rfl, hw, atI_nat (j := 1) rfl, _, e1, e2, e3⟩⟩
      · rw [List.length_map, hc.len, List.take_length] at hD'
        refine ⟨D, D', _, _, rfl, rfl, s3 _ _ hD, hD', (by rw [List.length_map, List.length_map, sizeLine_eq]; omega), fun E3 nE => ?_⟩
        have eL : (c.map fun p => V.int p.1) ++ (c.map fun p => V.int p.2) = ((c.map (·.1)) ++ (c.map (·.2))).map V.int := by
          rw [List.map_append, List.map_map, List.map_map]
          rfl
        rw [eL]
        refine ⟨E3, _, rfl, SqL.of upd_same, ?_, fun S n nS _ => ⟨S, _, n, rfl, upd_same, fun ns p asc mem _ np => ?_⟩⟩
        · rw [List.length_append, List.length_map, List.length_map]
          omega
        · have e : ns = roomsM c := asc_ext asc (asc_rooms c) fun k => by
            rw [mem, mem_rooms g.rg, decide_eq_true_eq, List.mem_append, List.mem_map, List.mem_map]
            constructor
            · rintro (⟨p, hp, h⟩ | ⟨p, hp, h⟩)
              · exact ⟨p, hp, .inl h⟩
              · exact ⟨p, hp, .inr h⟩
            · rintro ⟨p, hp, h | h⟩
              · exact .inl ⟨p, hp, h⟩
              · exact .inr ⟨p, hp, h⟩
          rw [e]
          exact q _ p (s2.trans (s3.trans ((same_upd nE).trans ((same_upd nS).trans (same_upd np))))) (s2.free (s3.free ((same_upd nE).free ((same_upd nS).free np)))) upd_same
end
end Cv

/-! tags: the least room of a part, by laps over the ways; the parts in the order of their first ways -/
namespace Cv
open PySem PySem.Spec PyProof.Rows L2
def mn (i j : Int) : Int := if j < i then j else i
theorem mn_l (i j : Int) : mn i j ≤ i := by unfold mn; split <;> omega
theorem mn_r (i j : Int) : mn i j ≤ j := by unfold mn; split <;> omega
theorem mn_or (i j : Int) : mn i j = i ∨ mn i j = j := by unfold mn; split <;> simp
def tstep (t : Int → Int) (p : Int × Int) : Int → Int := fun k => if k = p.1 ∨ k = p.2 then mn (t p.1) (t p.2) else t k
def tlap (c : List (Int × Int)) (t : Int → Int) : Int → Int := c.foldl tstep t
def tlaps (c : List (Int × Int)) : Nat → Int → Int
  | 0 => id
  | n + 1 => tlap c (tlaps c n)
theorem tstep_le (t : Int → Int) (p : Int × Int) (k : Int) : tstep t p k ≤ t k := by
  unfold tstep
  split
  · rename_i h
    rcases h with rfl | rfl
    · exact mn_l _ _
    · exact mn_r _ _
  · exact Int.le_refl _
theorem tlap_le : ∀ (c : List (Int × Int)) (t : Int → Int) (k : Int), tlap c t k ≤ t k
  | [], _, _ => Int.le_refl _
  | p :: c, t, k => Int.le_trans (tlap_le c (tstep t p) k) (tstep_le t p k)
theorem tlap_way : ∀ (c : List (Int × Int)) (t : Int → Int) {p : Int × Int}, p ∈ c → tlap c t p.1 ≤ t p.2 ∧ tlap c t p.2 ≤ t p.1
  | q :: c, t, p, h => by
    rcases List.mem_cons.mp h with rfl | h
    · have a := tlap_le c (tstep t p) p.1
      have b := tlap_le c (tstep t p) p.2
      have e1 : tstep t p p.1 = mn (t p.1) (t p.2) := if_pos (.inl rfl)
      have e2 : tstep t p p.2 = mn (t p.1) (t p.2) := if_pos (.inr rfl)
      have l := mn_l (t p.1) (t p.2)
      have r := mn_r (t p.1) (t p.2)
      show tlap c (tstep t p) p.1 ≤ _ ∧ tlap c (tstep t p) p.2 ≤ _
      omega
    · obtain ⟨a, b⟩ := tlap_way c (tstep t q) h
      exact ⟨Int.le_trans a (tstep_le t q p.2), Int.le_trans b (tstep_le t q p.1)⟩
theorem tlap_adj {c : List (Int × Int)} {t : Int → Int} {x y : Int} (h : Adj c x y) : tlap c t y ≤ t x := by
  obtain ⟨p, hp, ⟨rfl, rfl⟩ | ⟨rfl, rfl⟩⟩ := h
  · exact (tlap_way c t hp).2
  · exact (tlap_way c t hp).1
/-- the tags stay rooms of the part -/
def TagIn (c : List (Int × Int)) (t : Int → Int) : Prop := ∀ k ∈ roomsM c, t k ∈ roomsM c ∧ Reach c (t k) k
theorem tagIn_step {c : List (Int × Int)} (r : ∀ p ∈ c, RgW p) {t : Int → Int} (h : TagIn c t) {p : Int × Int} (hp : p ∈ c) : TagIn c (tstep t p) := fun k hk => by
  unfold tstep
  split
  · rename_i e
    have a1 := h p.1 ((mem_rooms r).mpr ⟨p, hp, .inl rfl⟩)
    have a2 := h p.2 ((mem_rooms r).mpr ⟨p, hp, .inr rfl⟩)
    have adj : Adj c p.1 p.2 := ⟨p, hp, .inl ⟨rfl, rfl⟩⟩
    rcases mn_or (t p.1) (t p.2) with z | z <;> rw [z]
    · refine ⟨a1.1, ?_⟩
      rcases e with rfl | rfl
      · exact a1.2
      · exact a1.2.step adj
    · refine ⟨a2.1, ?_⟩
      rcases e with rfl | rfl
      · exact a2.2.step adj.symm
      · exact a2.2
  · exact h k hk
theorem tagIn_lap {c : List (Int × Int)} (r : ∀ p ∈ c, RgW p) : ∀ (d : List (Int × Int)) (t : Int → Int), (∀ p ∈ d, p ∈ c) → TagIn c t → TagIn c (d.foldl tstep t)
  | [], _, _, h => h
  | p :: d, t, s, h => tagIn_lap r d (tstep t p) (fun q hq => s q (List.mem_cons_of_mem _ hq)) (tagIn_step r h (s p List.mem_cons_self))
theorem tagIn_laps {c : List (Int × Int)} (r : ∀ p ∈ c, RgW p) : ∀ n, TagIn c (tlaps c n)
  | 0 => fun k hk => ⟨hk, .refl⟩
  | n + 1 => tagIn_lap r c _ (fun p hp => hp) (tagIn_laps r n)
/-- a way back, the newest room first -/
inductive Back (c : List (Int × Int)) (s : Int) : List Int → Prop
  | one : Back c s [s]
  | cons {y z : Int} {l : List Int} : Back c s (y :: l) → Adj c y z → Back c s (z :: y :: l)
theorem Back.cut {c : List (Int × Int)} {s : Int} {l : List Int} (b : Back c s l) : ∀ {z : Int}, z ∈ l → ∃ m, Back c s (z :: m) ∧ (z :: m).Sublist l := by
  induction b with
  | one =>
    intro z h
    obtain rfl := List.mem_singleton.mp h
    exact ⟨[], .one, List.Sublist.refl _⟩
  | cons b a ih =>
    intro z h
    rcases List.mem_cons.mp h with rfl | h
    · exact ⟨_, .cons b a, List.Sublist.refl _⟩
    · obtain ⟨m, b', s'⟩ := ih h
      exact ⟨m, b', s'.trans (List.sublist_cons_self _ _)⟩
theorem Back.of {c : List (Int × Int)} (r : ∀ p ∈ c, RgW p) {s z : Int} (hs : s ∈ roomsM c) (h : Reach c s z) : ∃ m, Back c s (z :: m) ∧ (z :: m).Nodup ∧ ∀ k ∈ z :: m, k ∈ roomsM c := by
  induction h with
  | refl => exact ⟨[], .one, by simp, fun k hk => by rw [List.mem_singleton.mp hk]; exact hs⟩
  | @step y z _ a ih =>
    obtain ⟨m, b, nd, hm⟩ := ih
    by_cases hz : z ∈ y :: m
    · obtain ⟨m', b', s'⟩ := b.cut hz
      exact ⟨m', b', nd.sublist s', fun k hk => hm k (s'.subset hk)⟩
    · exact ⟨y :: m, .cons b a, List.nodup_cons.mpr ⟨hz, nd⟩, fun k hk => (List.mem_cons.mp hk).elim (fun e => e ▸ a.room r) (hm k)⟩
theorem Back.le {c : List (Int × Int)} {s : Int} {l : List Int} (b : Back c s l) : ∀ {z : Int} {m : List Int}, l = z :: m → tlaps c m.length z ≤ s := by
  induction b with
  | one =>
    intro z m e
    cases e
    exact Int.le_refl _
  | cons b a ih =>
    intro z m e
    cases e
    exact Int.le_trans (tlap_adj a) (ih rfl)
theorem tlaps_mono (c : List (Int × Int)) (k : Int) : ∀ (m n : Nat), tlaps c (m + n) k ≤ tlaps c m k
  | m, 0 => Int.le_refl _
  | m, n + 1 => Int.le_trans (tlap_le c _ k) (tlaps_mono c k m n)
theorem nd_sub : ∀ {l m : List Int}, l.Nodup → (∀ k ∈ l, k ∈ m) → l.length ≤ m.length
  | [], _, _, _ => Nat.zero_le _
  | x :: l, m, nd, h => by
    obtain ⟨n1, n2⟩ := List.nodup_cons.mp nd
    have hx := h x List.mem_cons_self
    have ih := nd_sub (m := m.erase x) n2 fun k hk => (List.mem_erase_of_ne (fun e : k = x => n1 (e ▸ hk))).mpr (h k (List.mem_cons_of_mem _ hk))
    have := List.length_erase_of_mem hx
    have := List.length_pos_of_mem hx
    rw [List.length_cons]
    omega
/-- as many laps as rooms are enough -/
theorem isTag_laps {c : List (Int × Int)} (r : ∀ p ∈ c, RgW p) : IsTag c (tlaps c (roomsM c).length) := fun k hk => by
  obtain ⟨a1, a2⟩ := tagIn_laps r (roomsM c).length k hk
  refine ⟨a1, a2, fun s hs hR => ?_⟩
  obtain ⟨m, b, nd, hm⟩ := Back.of r hs hR
  have len := nd_sub nd hm
  rw [List.length_cons] at len
  have e : (roomsM c).length = m.length + ((roomsM c).length - m.length) := by omega
  have z := tlaps_mono c k m.length ((roomsM c).length - m.length)
  rw [← e] at z
  exact Int.le_trans z (b.le rfl)
/-! ### the parts -/
theorem tag_way {c : List (Int × Int)} (r : ∀ p ∈ c, RgW p) {T : Int → Int} (h : IsTag c T) {x y : Int} (hx : x ∈ roomsM c) (hR : Reach c x y) : T x = T y := by
  have hy := hR.room r hx
  obtain ⟨a1, a2, a3⟩ := h x hx
  obtain ⟨b1, b2, b3⟩ := h y hy
  have := a3 _ b1 (b2.trans hR.symm)
  have := b3 _ a1 (a2.trans hR)
  omega
theorem tag_tag {c : List (Int × Int)} (r : ∀ p ∈ c, RgW p) {T : Int → Int} (h : IsTag c T) {x : Int} (hx : x ∈ roomsM c) : T (T x) = T x :=
  tag_way r h (h x hx).1 (h x hx).2.1
def rootsM (T : Int → Int) (c : List (Int × Int)) : List Int := (roomsM c).filter fun k => decide (T k = k)
theorem mem_keysM (T : Int → Int) : ∀ (c : List (Int × Int)) (ks : List Int) (k : Int), k ∈ keysM T c ks → k ∈ ks ∨ ∃ p ∈ c, T p.1 = k
  | [], _, _, h => .inl h
  | p :: c, ks, k, h => by
    rcases mem_keysM T c _ k h with z | ⟨q, hq, e⟩
    · split at z
      · exact .inl z
      · rcases List.mem_append.mp z with z | z
        · exact .inl z
        · exact .inr ⟨p, List.mem_cons_self, (List.mem_singleton.mp z).symm⟩
    · exact .inr ⟨q, List.mem_cons_of_mem _ hq, e⟩
theorem keys_roots {c : List (Int × Int)} (r : ∀ p ∈ c, RgW p) {T : Int → Int} (h : IsTag c T) (k : Int) : k ∈ keysM T c [] ↔ k ∈ rootsM T c := by
  unfold rootsM
  rw [List.mem_filter, decide_eq_true_eq]
  constructor
  · intro z
    rcases mem_keysM T c [] k z with z | ⟨p, hp, rfl⟩
    · simp at z
    · have pr : p.1 ∈ roomsM c := (mem_rooms r).mpr ⟨p, hp, .inl rfl⟩
      exact ⟨(h p.1 pr).1, tag_tag r h pr⟩
  · rintro ⟨hk, e⟩
    obtain ⟨p, hp, z⟩ := (mem_rooms r).mp hk
    have pr : p.1 ∈ roomsM c := (mem_rooms r).mpr ⟨p, hp, .inl rfl⟩
    have m := keysM_mem T c [] p hp
    have q : T p.1 = k := by
      rcases z with z | z
      · rw [z, e]
      · rw [tag_way r h pr (.step .refl ⟨p, hp, .inl ⟨rfl, z⟩⟩), e]
    rw [q] at m
    exact m
/-- the first way of a part -/
def fw (T : Int → Int) (c : List (Int × Int)) (k : Int) : Int × Int := (c.find? fun p => decide (T p.1 = k)).getD (0, 0)
theorem fw_mem {T : Int → Int} {c : List (Int × Int)} {k : Int} (h : k ∈ keysM T c []) : fw T c k ∈ c ∧ T (fw T c k).1 = k := by
  rcases mem_keysM T c [] k h with z | ⟨p, hp, e⟩
  · simp at z
  · unfold fw
    cases f : c.find? fun p => decide (T p.1 = k) with
    | none =>
      have := List.find?_eq_none.mp f p hp
      simp [e] at this
    | some q => exact ⟨List.mem_of_find?_eq_some f, by simpa using List.find?_some f⟩
theorem fw_inj {T : Int → Int} {c : List (Int × Int)} {k l : Int} (hk : k ∈ keysM T c []) (hl : l ∈ keysM T c []) (h : fw T c k = fw T c l) : k = l := by
  rw [← (fw_mem hk).2, h]
  exact (fw_mem hl).2
theorem keys_asc {T : Int → Int} {c : List (Int × Int)} (asc : c.Pairwise (fun p q => ltP p q = true)) : ∀ i, i ≤ c.length → (keysM T (c.take i) []).Pairwise (fun k l => ltP (fw T c k) (fw T c l) = true) ∧ ∀ k ∈ keysM T (c.take i) [], fw T c k ∈ c.take i
  | 0, _ => ⟨by simp [keysM], fun k h => by simp [keysM] at h⟩
  | i + 1, hi => by
    obtain ⟨a, b⟩ := keys_asc asc i (by omega)
    have hp : c[i]? = some c[i] := List.getElem?_eq_getElem (by omega)
    have e : keysM T (c.take (i + 1)) [] = if T c[i].1 ∈ keysM T (c.take i) [] then keysM T (c.take i) [] else keysM T (c.take i) [] ++ [T c[i].1] := by
      rw [List.take_add_one, hp, keysM_app]
      rfl
    have sub : ∀ k ∈ keysM T (c.take i) [], fw T c k ∈ c.take (i + 1) := fun k hk => by
      rw [List.take_add_one]
      exact List.mem_append_left _ (b k hk)
    rw [e]
    by_cases m : T c[i].1 ∈ keysM T (c.take i) []
    · rw [if_pos m]
      exact ⟨a, sub⟩
    · rw [if_neg m]
      have first : fw T c (T c[i].1) = c[i] := by
        unfold fw
        have split : c = c.take i ++ c[i] :: c.drop (i + 1) := by rw [← List.drop_eq_getElem_cons, List.take_append_drop]
        have none : (c.take i).find? (fun p => decide (T p.1 = T c[i].1)) = none := List.find?_eq_none.mpr fun q hq z => m (by
          rw [← of_decide_eq_true z]
          exact keysM_mem T _ [] q hq)
        rw [congrArg (List.find? fun p => decide (T p.1 = T c[i].1)) split, List.find?_append, none, List.find?_cons_of_pos (by simp)]
        rfl
      refine ⟨?_, fun k hk => ?_⟩
      · rw [List.pairwise_append]
        refine ⟨a, by simp, fun k hk l hl => ?_⟩
        rw [List.mem_singleton.mp hl, first]
        obtain ⟨j, hj, ej⟩ := List.getElem_of_mem (b k hk)
        rw [List.getElem_take] at ej
        rw [List.length_take] at hj
        rw [← ej]
        exact List.pairwise_iff_getElem.mp asc j i (by omega) (by omega) (by omega)
      · rcases List.mem_append.mp hk with z | z
        · exact sub k z
        · rw [List.mem_singleton.mp z, first, List.take_add_one, hp]
          exact List.mem_append_right _ (by simp)
def cdW (p : Int × Int) : Int := p.1 * 100 + p.2
theorem cdW_lt {p q : Int × Int} (hp : RgW p) (hq : RgW q) : ltP p q = true ↔ cdW p < cdW q := by
  rw [ltP_iff]
  unfold cdW
  unfold RgW at hp hq
  omega
theorem cdW_inj {p q : Int × Int} (hp : RgW p) (hq : RgW q) (h : cdW p = cdW q) : p = q := by
  unfold cdW at h
  unfold RgW at hp hq
  exact Prod.ext (by omega) (by omega)
theorem map_inj_on {α β : Type} {f : α → β} : ∀ {l m : List α}, l.map f = m.map f → (∀ x ∈ l, ∀ y ∈ m, f x = f y → x = y) → l = m
  | [], [], _, _ => rfl
  | [], _ :: _, h, _ => by simp at h
  | _ :: _, [], h, _ => by simp at h
  | x :: l, y :: m, h, g => by
    rw [List.map_cons, List.map_cons] at h
    obtain ⟨h1, h2⟩ := List.cons.inj h
    rw [g x List.mem_cons_self y List.mem_cons_self h1, map_inj_on h2 fun a ha b hb => g a (List.mem_cons_of_mem _ ha) b (List.mem_cons_of_mem _ hb)]
/-- the tags, sorted by their first ways, are those in the order of the ways -/
theorem sorted_keys {c : List (Int × Int)} (g : Good c) {T : Int → Int} (h : IsTag c T) {ks : List Int} (pm : ks.Perm (rootsM T c)) (st : ks.Pairwise fun k l => SrtO.lexB (fw T c l) (fw T c k) = false) : ks = keysM T c [] := by
  have mem : ∀ k, k ∈ ks ↔ k ∈ keysM T c [] := fun k => by rw [pm.mem_iff, keys_roots g.rg h]
  have rg : ∀ k ∈ keysM T c [], RgW (fw T c k) := fun k hk => g.rg _ (fw_mem hk).1
  have nd : ks.Nodup := pm.nodup_iff.mpr (((asc_rooms c).imp fun {a b} h => by omega).sublist List.filter_sublist)
  have up : (keysM T c []).Pairwise (fun k l => cdW (fw T c k) < cdW (fw T c l)) := by
    have z := (keys_asc (T := T) g.asc c.length (Nat.le_refl _)).1
    rw [List.take_length] at z
    exact z.imp_of_mem fun {k l} hk hl q => (cdW_lt (rg k hk) (rg l hl)).mp q
  have up' : ks.Pairwise (fun k l => cdW (fw T c k) < cdW (fw T c l)) := by
    refine List.Pairwise.imp_of_mem (fun {k l} hk hl q => ?_) (st.and nd)
    have hk' := (mem k).mp hk
    have hl' := (mem l).mp hl
    obtain ⟨q1, q2⟩ := q
    have no := SrtO.lexB_no.mp q1
    have ne : cdW (fw T c k) ≠ cdW (fw T c l) := fun e => q2 (fw_inj hk' hl' (cdW_inj (rg k hk') (rg l hl') e))
    have a := rg k hk'
    have b := rg l hl'
    unfold cdW at ne ⊢
    unfold RgW at a b
    omega
  refine map_inj_on (f := fun k => cdW (fw T c k)) (asc_ext (List.pairwise_map.mpr up') (List.pairwise_map.mpr up) fun n => ?_) fun x hx y hy e => ?_
  · rw [List.mem_map, List.mem_map]
    exact ⟨fun ⟨k, hk, e⟩ => ⟨k, (mem k).mp hk, e⟩, fun ⟨k, hk, e⟩ => ⟨k, (mem k).mpr hk, e⟩⟩
  · have hx' := (mem x).mp hx
    exact fw_inj hx' hy (cdW_inj (rg x hx') (rg y hy) e)
/-- a part begins with its first way -/
theorem part_head {T : Int → Int} {c : List (Int × Int)} {k : Int} (h : k ∈ keysM T c []) : ∃ l, (c.filter fun p => decide (T p.1 = k)) = fw T c k :: l := by
  have e := List.head?_filter (p := fun p : Int × Int => decide (T p.1 = k)) (l := c)
  obtain ⟨m1, m2⟩ := fw_mem h
  unfold fw at m1 m2 ⊢
  cases f : c.find? fun p => decide (T p.1 = k) with
  | none =>
    rw [f] at m1 m2
    have := List.find?_eq_none.mp f _ m1
    simp at this m2
    exact absurd m2 this
  | some q =>
    rw [f] at e
    cases z : c.filter fun p => decide (T p.1 = k) with
    | nil => rw [z] at e; simp at e
    | cons x l =>
      rw [z] at e
      simp at e
      exact ⟨l, by rw [e]; rfl⟩
end Cv

/-! sorted of a list of tuples whose first items are pairs of ints, no two alike -/
namespace CvN
open PySem PySem.Spec PyProof.Rows SrtO SeqAt PySem.W
/-- v is a tuple; its first item is the pair k -/
def IsPart (h : Heap) (v : Value) (k : Int × Int) : Prop := ∃ (a t : Addr) (rest : List Value) (u1 u2 : Tok), v = .ref a ∧ h.IsTuple a (Value.ref t :: rest).toArray ∧ h.IsTuple t #[.int k.1 u1, .int k.2 u2]
theorem IsPart.keeps {h h' : Heap} {v : Value} {k : Int × Int} (p : IsPart h v k) (kp : ∀ b o, h.get? b = some o → o.cls = .type "tuple" → h'.get? b = some o) : IsPart h' v k := by
  obtain ⟨a, t, r, u1, u2, e, ⟨o1, g1, c1, d1⟩, ⟨o2, g2, c2, d2⟩⟩ := p
  exact ⟨a, t, r, u1, u2, e, ⟨o1, kp _ _ g1 c1, c1, d1⟩, ⟨o2, kp _ _ g2 c2, c2, d2⟩⟩
section
variable {prog : Program} {w : World} {A : Around} {E : Value → Shared → Prop} {s : Shared}
theorem lex_same {b fin : Bool} {Q : Bool → Shared → Prop} (h : Q fin s) : ∀ (l : List Value) (i : Nat), KatLex prog w A b fin Q (l.zip l) i s
  | [], i => kat_nil h
  | v :: l, i => kat_cons (EqAt.same v prog w _ _ (kat_yes (lex_same h l (i + 1))))
theorem part_cmp {vs : List Value} {k : Value → Int × Int} (hu : A.units + 2 < cLine) (hp : ∀ v ∈ vs, IsPart s.heap v (k v)) (one : ∀ v ∈ vs, ∀ u ∈ vs, k v = k u → v = u) : Cmp prog w A s (tuples' false) (fun p => p.1 ∈ vs) (lt2 fun v u => lexB (k v) (k u)) := by
  intro p q hm hm'
  show wpAny (model prog w) A (keyLt' (tuples' false) p.1 q.1) (fun r s' => s' = s ∧ r = lexB (k p.1) (k q.1)) (fun _ _ => False) s
  obtain ⟨a, t, r, u1, u2, e, ⟨o1, g1, c1, n1, d1⟩, ht⟩ := hp _ hm
  obtain ⟨a', t', r', u1', u2', e', ⟨o1', g1', c1', n1', d1'⟩, ht'⟩ := hp _ hm'
  by_cases eq : k p.1 = k q.1
  · have same := one _ hm _ hm' eq
    rw [e, e'] at same
    cases same
    rw [g1] at g1'
    cases g1'
    rw [e, e']
    refine kat_lt g1 d1 g1 d1 ?_
    rw [decide_eq_false (Nat.lt_irrefl _)]
    refine lex_same ⟨rfl, ?_⟩ _ 0
    exact (lexB_no.mpr (by omega)).symm
  · have tt : t ≠ t' := fun z => eq (by
      subst z
      obtain ⟨x, y, _, n, z⟩ := ht
      obtain ⟨x', y', _, n', z'⟩ := ht'
      rw [y] at y'
      cases y'
      rw [z] at z'
      injection z' with z1 z2
      have w1 := congrArg (·.toList) z1
      simp at w1
      exact Prod.ext w1.1.1 w1.2.1)
    generalize k p.1 = K1 at ht eq ⊢
    generalize k q.1 = K2 at ht' eq ⊢
    rw [e, e']
    refine kat_lt g1 d1 g1' d1' ?_
    refine kat_cons ?_
    have beq : ∀ x y : Int, (x == y) = decide (x = y) := fun x y => by
      by_cases z : x = y
      · rw [decide_eq_true z]; exact beq_iff_eq.mpr z
      · rw [decide_eq_false z]; exact beq_eq_false_iff_ne.mpr z
    have itemsE : ∀ (B : Around) (j : Nat) (h1 : j < (#[Value.int K1.1 u1, Value.int K1.2 u2] : Array Value).size) (h2 : j < (#[Value.int K2.1 u1', Value.int K2.2 u2'] : Array Value).size),
        EqAt B s (#[Value.int K1.1 u1, Value.int K1.2 u2] : Array Value)[j] (#[Value.int K2.1 u1', Value.int K2.2 u2'] : Array Value)[j] (if j = 0 then decide (K1.1 = K2.1) else decide (K1.2 = K2.2)) := fun B j h1 h2 =>
      match j, h1, h2 with
      | 0, _, _ => beq K1.1 K2.1 ▸ EqAt.int_int _ _ _ _
      | 1, _, _ => beq K1.2 K2.2 ▸ EqAt.int_int _ _ _ _
      | j + 2, h1, _ => absurd h1 (by simp)
    have differ : ((List.range (min 2 2)).all (fun j => if j = 0 then decide (K1.1 = K2.1) else decide (K1.2 = K2.2)) && (2 == 2)) = false := by
      refine Bool.eq_false_iff.mpr fun z => eq ?_
      rw [Bool.and_eq_true, List.all_eq_true] at z
      have a0 := z.1 0 (by simp)
      have a1 := z.1 1 (by simp)
      simp at a0 a1
      exact Prod.ext a0 a1
    refine EqAt.of_refs tt (RcAt.tuples (A := A) ht ht' (by omega) (itemsE A.in1)) prog w _ _ ?_
    refine Eq.mpr (congrArg (fun b => KatGo prog w A false _ _ _ _ _ 0 b s) differ) ?_
    refine kat_no (kat_one _ _ ?_)
    have R := Ob.RcOp.tuples_lt (A := A) (s := s) (r := fun j => if j = 0 then decide (K1.1 < K2.1) else decide (K1.2 < K2.2)) ht ht' (by omega) (itemsE A.in1) fun j h1 h2 _ => match j, h1, h2 with
      | 0, _, _ => Ob.RcOp.lt_int _ _ _ _
      | 1, _, _ => Ob.RcOp.lt_int _ _ _ _
      | j + 2, h1, _ => absurd h1 (by simp)
    refine R prog w _ _ ?_
    refine ⟨rfl, ?_⟩
    show (if (if (0 : Nat) = 0 then decide (K1.1 = K2.1) else decide (K1.2 = K2.2)) = true then (if (if (1 : Nat) = 0 then decide (K1.1 = K2.1) else decide (K1.2 = K2.2)) = true then _ else _) else _) = lexB K1 K2
    unfold lexB
    by_cases e1 : K1.1 = K2.1
    · have e2 : ¬ K1.2 = K2.2 := fun z => eq (Prod.ext e1 z)
      simp [e1, e2]
    · simp [e1]
theorem firsts : ∀ {h : Heap} {vs : List Value}, (∀ v ∈ vs, ∃ k, IsPart h v k) → ∃ fs : List Value, KatTups h vs fs ∧ fs.length = vs.length ∧ ∀ f ∈ fs, ∃ (t : Addr) (o : Obj), f = .ref t ∧ h.get? t = some o ∧ o.cls = .type "tuple"
  | h, [], _ => ⟨[], KatTups.nil, rfl, fun f hf => by simp at hf⟩
  | h, v :: vs, x => by
    obtain ⟨fs, k1, hl, hi⟩ := firsts (vs := vs) fun u hu => x u (List.mem_cons_of_mem _ hu)
    obtain ⟨k, a, t, r, u1, u2, rfl, ⟨o, ho, hc, n, hd⟩, ⟨o2, ho2, hc2, _⟩⟩ := x v List.mem_cons_self
    refine ⟨.ref t :: fs, KatTups.cons ho hc hd (by simp) k1, by rw [List.length_cons, List.length_cons, hl], fun f hf => ?_⟩
    rcases List.mem_cons.mp hf with rfl | hf
    · exact ⟨t, o2, rfl, ho2, hc2⟩
    · exact hi f hf
theorem parts_sortable {a : Addr} {vs : List Value} {k : Value → Int × Int} (hu : A.units + 2 < cLine) (h0 : 0 < vs.length) (hp : ∀ v ∈ vs, IsPart s.heap v (k v)) (one : ∀ v ∈ vs, ∀ u ∈ vs, k v = k u → v = u)
    (ha : ∀ o, s.heap.get? a = some o → o.cls ≠ .type "tuple") : SortableO prog w A s a vs fun v u => lexB (k v) (k u) := by
  intro h' keep
  have hp' : ∀ v ∈ vs, IsPart h' v (k v) := fun v hm => (hp v hm).keeps fun b o e c => keep b o (fun z => ha o (z ▸ e) c) e
  obtain ⟨fs, h1, h2, h3⟩ := firsts fun v hm => ⟨_, hp' v hm⟩
  refine ⟨tuples' false, fun Q E hq => ?_, part_cmp hu hp' one⟩
  refine kat_kind (T := .type "tuple") h1 (by omega) (fun f hm => ?_) (by rfl) ?_
  · obtain ⟨t, o, rfl, ho, hc⟩ := h3 f hm
    exact hc ▸ (Looks.ld ho).andThen .now
  · have e : (Value.type "tuple" != Value.type "tuple") = false := by first | decide +kernel | rfl | decide
    rw [e]
    exact hq
theorem sorted_parts {l : Addr} {vs : List Value} {k : Value → Int × Int} {Q : Value → Shared → Prop} (hu : A.units + 4 < cLine) (hl : s.heap.IsList l vs.toArray) (hz : vs.length ≤ sizeLine) (hp : ∀ v ∈ vs, IsPart s.heap v (k v)) (one : ∀ v ∈ vs, ∀ u ∈ vs, k v = k u → v = u)
    (h : ∀ (h' : Heap) (d : Addr) (out : List Value), Srtd (fun v u => lexB (k v) (k u)) out → out.Perm vs → (∀ b o, s.heap.get? b = some o → h'.get? b = some o) → s.heap.objs.size ≤ d → (∃ n, h'.get? d = some (seqObj "list" out.toArray n)) → Q (.ref d) { s with heap := h' }) :
    wpAny (model prog w) A (call (.builtin "sorted") [.ref l]) Q E s := by
  refine sorted_ord (swo_lex k) hl hz (fun h2 h₁ a ha kk => ?_) fun out hs hb => ?_
  · refine parts_sortable (s := { s with heap := h₁ }) (by show A.units + 1 + 1 + 2 < cLine; omega) (by omega) (fun v hm => (hp v hm).keeps fun b o e _ => (kk b o e).2) one fun o e => ?_
    have same : some o = some (seqObj "list" vs.toArray 0) := e.symm.trans ha
    cases same
    exact fun c => absurd (Value.type.inj c) (by decide)
  · exact h _ _ out hs hb.perm (fun b o e => sortedAll_old e) (Nat.le_succ _) (sortedAll_at s.heap vs out.toArray)
end
end CvN

namespace L2
open PySem PySem.Spec PyProof.Rows
def rSortedN (K : PySem.W.Frag) : List V → Hp → VK → Prop := fun vs H Q => ∃ (a : Addr) (xs : List V) (k : V → Int × Int), vs = [V.ref a] ∧ SqL K H a xs ∧ (∀ x ∈ xs, ∃ (p t : Addr) (rest : List V), x = V.ref p ∧ SqT K H p (V.ref t :: rest) ∧ SqT K H t [.int (k x).1, .int (k x).2]) ∧
  (∀ x ∈ xs, ∀ y ∈ xs, k x = k y → x = y) ∧ ∀ ys p, ys.Perm xs → ys.Pairwise (fun x y => SrtO.lexB (k y) (k x) = false) → H p = none → Q (.ref p) (upd H p (.lst ys))
section
variable {X : Cx}
theorem cr_sortedN (hu : X.A.units + 4 < cLine) : CallR X (.builtin "sorted") (rSortedN X.K) := by
  intro pins s σ H vs us Q I r h
  obtain ⟨a, xs, k, rfl, hs, hx, one, q⟩ := h
  obtain ⟨its, rv, hl, hz⟩ := I.list hs
  obtain ⟨u, rfl, ru⟩ := vals1 r
  obtain rfl : u = Value.ref a := ru
  obtain ⟨e1, e2⟩ := refs_back rv fun x m => let ⟨p, _, _, e, _⟩ := hx x m; ⟨p, e⟩
  have mem : ∀ v ∈ its, ∃ p, v = Value.ref p ∧ V.ref p ∈ xs := fun v hv => by
    obtain ⟨p, rfl⟩ := e2 v hv
    exact ⟨p, rfl, by rw [e1]; exact List.mem_map.mpr ⟨_, hv, rfl⟩⟩
  refine CvN.sorted_parts (k := fun u => k (backV u)) hu hl.isList (by rw [← rv.length]; exact hz) (fun v hv => ?_) (fun v hv u hu' e => ?_) fun h' d out h1 h2 kp hd hn => ?_
  · obtain ⟨p, rfl, hm⟩ := mem v hv
    obtain ⟨p', t, rest, e, hp, ht⟩ := hx _ hm
    cases e
    obtain ⟨i1, r1, q1, _⟩ := I.tuple hp
    obtain ⟨i2, r2, q2, _⟩ := I.tuple ht
    obtain ⟨u1, u2, rfl, ⟨t1, rfl⟩, ⟨t2, rfl⟩⟩ := vals2 r2
    cases r1 with
    | cons rt rr =>
      cases rt
      exact ⟨p, t, _, t1, t2, rfl, q1, q2⟩
  · obtain ⟨p, rfl, hm⟩ := mem v hv
    obtain ⟨p', rfl, hm'⟩ := mem u hu'
    cases one _ hm _ hm' e
    rfl
  · have h3 : ∀ u ∈ out, ∃ a, u = Value.ref a := fun u hu => e2 u (h2.mem_iff.mp hu)
    obtain ⟨n, hn⟩ := hn
    have pm : (out.map backV).Perm xs := by
      rw [e1]
      exact h2.map backV
    refine ⟨.ref d, upd H d (.lst (out.map backV)), I.laid (t' := s.toks) kp hd ⟨?_, out, n, vals_back h3, hn⟩, rfl, q _ d pm ?_ (I.hok.fresh hd)⟩
    · rw [pm.length_eq]
      exact hz
    · rw [List.pairwise_map]
      exact h1
end
end L2

/-! the law's own parts -/
namespace Cv
open PySem PySem.Spec PyProof.Rows L2 CvT CvS CvW CvD
abbrev sLP : Stmt := topS 26
abbrev nLP : List Str := ["cave", "tags", "room", "lap", "one", "other", "found", "tag", "way"]
theorem scLP : FnScope nLP ["cave"] (defScope sLP) := ⟨rfl, rfl, rfl, by decide +kernel, rfl, by decide +kernel, by decide +kernel⟩
/-- the tags as a dict, the rooms ascending -/
def dkF (c : List (Int × Int)) (t : Int → Int) : List (Key × V) := dkI ((roomsM c).map fun r => (r, t r))
theorem fst_pairs (l : List Int) (t : Int → Int) : (l.map fun r => (r, t r)).map (·.1) = l := by
  rw [List.map_map]
  exact List.map_id _
theorem nd_rooms (c : List (Int × Int)) : (roomsM c).Nodup := (asc_rooms c).imp fun {a b} h => by omega
theorem valF {c : List (Int × Int)} {t : Int → Int} {r : Int} (h : r ∈ roomsM c) : valV (dkF c t) (Sum.inl r) = some (V.int (t r)) :=
  valI_in (by rw [fst_pairs]; exact nd_rooms c) (List.mem_map.mpr ⟨r, h, rfl⟩)
theorem putF {c : List (Int × Int)} {t : Int → Int} {r v : Int} (h : r ∈ roomsM c) : putK (dkF c t) (Sum.inl r) (V.int v) = dkF c fun k => if k = r then v else t k := by
  unfold putK
  rw [if_pos]
  · unfold dkF dkI
    rw [List.map_map, List.map_map, List.map_map]
    refine List.map_congr_left fun k _ => ?_
    show (if (Sum.inl k : Key) = Sum.inl r then ((Sum.inl k : Key), V.int v) else (Sum.inl k, V.int (t k))) = _
    by_cases e : k = r
    · rw [if_pos (congrArg _ e)]
      simp [e]
    · rw [if_neg (fun z => e (Sum.inl.inj z))]
      simp [e]
  · rw [valV_any, valF h]
    rfl
theorem lenF (c : List (Int × Int)) (t : Int → Int) : (dkF c t).length = (roomsM c).length := by
  unfold dkF dkI
  rw [List.length_map, List.length_map]
theorem tstep_two (t : Int → Int) (p : Int × Int) : (fun k => if k = p.2 then (if p.1 = p.1 then mn (t p.1) (t p.2) else t p.1) else if k = p.1 then mn (t p.1) (t p.2) else t k) = tstep t p := by
  funext k
  unfold tstep
  rw [if_pos rfl]
  by_cases e2 : k = p.2
  · rw [if_pos e2, if_pos (.inr e2)]
  · rw [if_neg e2]
    by_cases e1 : k = p.1
    · rw [if_pos e1, if_pos (.inl e1)]
    · rw [if_neg e1, if_neg (by omega)]
/-- a part's ways, by their places -/
def partV (ts : List Addr) (c : List (Int × Int)) (t : Int → Int) (k : Int) : List V := ((ts.zip c).filter fun q => decide (t q.2.1 = k)).map fun q => V.ref q.1
theorem lookup_zip : ∀ {ps : List Addr} {rs : List Int} {i : Nat} {p : Addr} {k : Int}, ps.Nodup → ps[i]? = some p → rs[i]? = some k → (ps.zip rs).lookup p = some k
  | [], _, i, _, _, _, h, _ => by simp at h
  | _ :: _, [], i, _, _, _, _, h => by simp at h
  | q :: ps, l :: rs, 0, p, k, _, h1, h2 => by
    cases h1
    cases h2
    simp [List.lookup]
  | q :: ps, l :: rs, i + 1, p, k, nd, h1, h2 => by
    obtain ⟨n1, n2⟩ := List.nodup_cons.mp nd
    have h1 : ps[i]? = some p := by simpa using h1
    have ne : (p == q) = false := beq_eq_false_iff_ne.mpr fun e => n1 (e ▸ List.mem_of_getElem? h1)
    show List.lookup p ((q, l) :: ps.zip rs) = _
    rw [List.lookup, ne]
    exact lookup_zip n2 h1 (by simpa using h2)
def rootOf (ps : List Addr) (rs : List Int) : V → Int
  | .ref p => ((ps.zip rs).lookup p).getD 0
  | _ => 0
theorem part_zip {K : PySem.W.Frag} {H : Hp} {a : Addr} {ts : List Addr} {c : List (Int × Int)} {t : Int → Int} {k : Int} (h : CvAt K H a ts c) (hk : k ∈ keysM t c []) :
    ∃ (u : Addr) (rest : List V), partV ts c t k = V.ref u :: rest ∧ SqT K H u [.int (fw t c k).1, .int (fw t c k).2] := by
  obtain ⟨l, hl⟩ := part_head hk
  have e : c.filter (fun p => decide (t p.1 = k)) = ((ts.zip c).filter fun q => decide (t q.2.1 = k)).map (·.2) := by
    have z : (ts.zip c).map (·.2) = c := List.map_snd_zip (by rw [h.len]; exact Nat.le_refl _)
    conv => lhs; rw [← z]
    rw [List.filter_map]
    rfl
  unfold partV
  cases z : (ts.zip c).filter fun q => decide (t q.2.1 = k) with
  | nil =>
    rw [z, hl] at e
    cases e
  | cons q r =>
    rw [z, hl] at e
    have e1 : fw t c k = q.2 := (List.cons.inj e).1
    have hq : q ∈ ts.zip c := (List.mem_filter.mp (z ▸ List.mem_cons_self)).1
    obtain ⟨j, hj⟩ := List.getElem?_of_mem hq
    rw [List.getElem?_zip_eq_some] at hj
    rw [e1]
    exact ⟨q.1, _, rfl, h.it j q.1 q.2 hj.1 hj.2⟩
def spLP (K : PySem.W.Frag) : Sp := fun vs H Q _ => ∃ (a : Addr) (ts : List Addr) (c : List (Int × Int)), vs = [.ref a] ∧ CvAt K H a ts c ∧ Good c ∧ c.length ≤ 1000 ∧
  ∀ H' p xs T, Same H H' → H p = none → H' p = some (.lst xs) → IsTag c T → DqAll K H' xs ((partsM T c).map caveD) → Q (.ref p) H'
structure TxtL (mg : Str → Option Value) : Prop where
  srt : mg "sorted" = none
  set : mg "set" = none
  rng : mg "range" = none
  len : mg "len" = none
  min : mg "min" = none
  max : mg "max" = none
  tup : mg "tuple" = none
  list : mg "list" = none
section
variable {P : Program} {w : World} {K : PySem.W.Frag} {mg : Str → Option Value} {base : Heap}
theorem ok_lp {f fR : Addr} {fd dR : FuncData} {k : Nat} (F : Fun K "_law_parts" "_law_parts" sLP f fd) (T : TxtL mg) (FR : Fun K "_law_rooms" "_law_rooms" sLR fR dR) (bR : Binds K dR ["ways"] []) (gR : mg "_law_rooms" = some (.ref fR)) :
    FnOk P w K mg base CX0 (k + 2) f fd ["cave"] (spLP K) := by
  have GR : FnOk P w K mg base CX0 (k + 1) fR dR ["ways"] (spLR K) := ok_lr FR T.srt T.set
  refine F.ok scLP (fun vs H Q E h => ?_) (fun cdv A outer s H vs Q E hr h => ?_)
  · obtain ⟨a, ts, c, rfl, _⟩ := h
    rfl
  · obtain ⟨a, ts, c, rfl, hc, g, h1000, q⟩ := h
    have hu4 : (A.deeper (envOfC "_law_parts" (defScope sLP) s.heap.objs.size f cdv)).units + 4 < cLine := by
      have := hr.un
      omega
    refine ⟨_, pss_cons (ps_set (i := 1) scLP.nd rfl (.inr rfl) pe_dnewK)
      (pss_cons (ps_for PassesOwn.never rfl (pi_list (pe_call GR hr (by rfl) gR FR.kp bR .nil pass0 (pa_cons (pv 0) pa_nil))) (pg_name (i := 2) scLP.nd rfl (.inl rfl)) (pss_one (ps_dput (hu_of hr) (pv 1) (pv 2) (pv 2) rfl)))
      (pss_cons (ps_for PassesOwn.never rfl (pi_range1 (by rfl) T.rng (pa_cons (pe_callB call_lenD (by rfl) T.len PySem.boot_len (pa_cons (pv 1) pa_nil)) pa_nil)) (pg_name (i := 3) scLP.nd rfl (.inl rfl))
        (pss_one (ps_for PassesOwn.never rfl (pi_tup (pv 0)) (pg_tup rfl (pgs_cons (pg_name (i := 4) scLP.nd rfl (.inl rfl)) (pgs_cons (pg_name (i := 5) scLP.nd rfl (.inl rfl)) pgs_nil)))
          (pss_cons (ps_dput (hu_of hr) (pv 1) (pv 4) (pe_callB (call_min2 rfl) (by rfl) T.min (by decide +kernel) (pa_cons (pe_dget (hu_of hr) (pv 1) (pv 4) (fun _ _ => rfl)) (pa_cons (pe_dget (hu_of hr) (pv 1) (pv 5) (fun _ _ => rfl)) pa_nil))) rfl)
          (pss_one (ps_dput (hu_of hr) (pv 1) (pv 5) (pe_dget (hu_of hr) (pv 1) (pv 4) (fun _ _ => rfl)) rfl))))))
      (pss_cons (ps_setLc (i := 6) (own := [("tag", 7)]) (g := gName 7) (tt := tTest (tOp rEq (tDGet (tVar 1) (tVar 7)) (tVar 7)))
          (te := tCB (fun xs H Q => ∃ p ys, xs = [.ref p] ∧ ((SqL K H p ys ∧ ∀ l, H l = none → Q (.ref l) (upd H l (.tup ys))) ∨ (SqT K H p ys ∧ Q (.ref p) H)))
            (tCons (tLc (iTup K (tVar 0)) (gName 8) (tTest (tOp rEq (tDGet (tVar 1) (tOp (rIxT K) (tVar 8) (tC (.int 0)))) (tVar 7))) (tVar 8) [8]) tNil))
          rfl scLP.nd rfl rfl (sw_true rfl rfl rfl (by decide +kernel)) (pi_list (pe_call GR hr (by rfl) gR FR.kp bR .nil pass0 (pa_cons (pv 0) pa_nil)))
          (blkOk_by (own := [("tag", 7)]) (N := nLP) (sc := defScope sLP) (by decide +kernel)) (fun _ _ _ _ _ => pg_name (i := 7) scLP.nd rfl (.inr rfl)) (fun _ _ _ _ _ => pts_one (pt_cmpR op_eq (pe_dget (hu_of hr) (pv 1) (pv 7) (fun _ _ => rfl)) (pv 7) (nomark _)))
          (fun _ _ _ _ _ => pe_callTy call_tuple_of (by rfl) T.tup (by decide +kernel) (pa_cons (pe_lc (own := [("way", 8)]) (g := gName 8) rfl scLP.nd (pi_tup (pv 0)) (blkOk_by (own := [("way", 8)]) (N := nLP) (by rfl)) (fun _ _ _ _ _ => pg_name (i := 8) scLP.nd rfl (.inl rfl))
            (fun _ _ _ _ _ => pts_one (pt_cmpR op_eq (pe_dget (hu_of hr) (pv 1) (pe_ix ix_tup (pv 8) pe_int (fun _ _ => rfl)) (fun _ _ => rfl)) (pv 7) (nomark _))) (fun _ _ _ _ _ => pv 8)) pa_nil)))
      (pss_one (ps_ret (pe_callB (cr_sortedN hu4) (by rfl) T.srt (by decide +kernel) (pa_cons (pv 6) pa_nil))))))), ?_⟩
    refine fun Td nT => ?_
    dsimp only [gName]
    refine seqI ?_
    have s1 : Same H (upd H Td (.dK [])) := same_upd nT
    have hT1 : upd H Td (.dK []) Td = some (.dK (dkI [])) := upd_same
    have stT : ∀ (H' : Hp) (u : HO), Same H H' → Same H (upd H' Td u) := fun H' u s b o e => by
      rw [upd_ne (ne_of_none e nT)]
      exact s _ _ e
    generalize upd H Td (HO.dK []) = H1 at s1 hT1
    have l100 := len_rooms c
    refine ⟨.ref a, rfl, a, ts, c, rfl, hc.up s1, g, h1000, fun H2 p s2 np hp => ⟨p, rfl, ⟨_, SqL.of hp⟩, for_list (K := K) (a := p) (xs := (roomsM c).map V.int)
      (fun i σ H' => ∃ x, σ = [some (.ref a), some (.ref Td), x, none, none, none, none, none, none] ∧ Same H H' ∧ H' p = some (.lst ((roomsM c).map V.int)) ∧ H' Td = some (.dK (dkI (((roomsM c).take i).map fun r => (r, r)))))
      ⟨_, rfl, s1.trans s2, hp, s2 _ _ hT1⟩ (fun i σ H' _ ⟨_, _, _, e, _⟩ => SqL.of e) ?_ ?_⟩⟩
    · rintro i x σ H3 hx ⟨y, rfl, s3, hp3, hT3⟩
      obtain ⟨r, hr', rfl⟩ := map_get hx
      have fresh : r ∉ (((roomsM c).take i).map fun r => (r, r)).map (·.1) := fun z => by
        rw [fst_pairs] at z
        obtain ⟨j, hj, ej⟩ := List.getElem_of_mem z
        rw [List.getElem_take] at ej
        rw [List.length_take] at hj
        obtain ⟨hi, ei⟩ := List.getElem?_eq_some_iff.mp hr'
        have lt := List.pairwise_iff_getElem.mp (asc_rooms c) j i (by omega) hi (by omega)
        omega
      refine ⟨.int r, rfl, .ref Td, rfl, .int r, rfl, Td, _, rfl, DPut.k (k := Sum.inl r) hT3 (by unfold dkI; rw [List.length_map, List.length_map, List.length_take, sizeLine_eq]; omega), ?_⟩
      rw [putI fresh]
      refine ⟨_, rfl, stT _ _ s3, ?_, ?_⟩
      · rw [upd_ne (fun e => by rw [e, hT3] at hp3; cases hp3)]
        exact hp3
      · rw [upd_same, List.take_add_one, hr', List.map_append]
        rfl
    rintro σ H3 ⟨y, rfl, s3, _, hT3⟩
    rw [List.length_map, List.take_length] at hT3
    have hT3 : H3 Td = some (.dK (dkF c (tlaps c 0))) := hT3
    refine ⟨.ref Td, rfl, Td, _, rfl, hT3, _, rfl, by rw [lenF]; omega, by rw [lenF]; omega, for_range (lo := 0) (n := (((dkF c (tlaps c 0)).length : Nat) : Int).toNat)
      (fun i σ H' => ∃ x x2 x3 x4, σ = [some (.ref a), some (.ref Td), x, x2, x3, x4, none, none, none] ∧ Same H H' ∧ H' Td = some (.dK (dkF c (tlaps c i)))) ⟨_, _, _, _, rfl, s3, hT3⟩ ?_ ?_⟩
    · rintro i σ H4 hi ⟨x, x2, x3, x4, rfl, s4, hT4⟩
      refine ⟨.ref a, rfl, a, rfl, ⟨_, (hc.up s4).sq⟩, for_tup (K := K) (a := a) (xs := ts.map V.ref) (fun j σ H' => ∃ x3 x4, σ = [some (.ref a), some (.ref Td), x, some (.int (0 + (i : Nat))), x3, x4, none, none, none] ∧ Same H H' ∧
        H' Td = some (.dK (dkF c ((c.take j).foldl tstep (tlaps c i))))) ⟨_, _, rfl, s4, hT4⟩ (fun j σ H' _ ⟨_, _, _, s', _⟩ => (hc.up s').sq) ?_ ?_⟩
      · rintro j x σ H5 hx ⟨y3, y4, rfl, s5, hT5⟩
        obtain ⟨t, ht, rfl⟩ := map_get hx
        obtain ⟨p', hp', hw⟩ := cv_get (hc.up s5) ht
        have m1 : p'.1 ∈ roomsM c := (mem_rooms g.rg).mpr ⟨p', List.mem_of_getElem? hp', .inl rfl⟩
        have m2 : p'.2 ∈ roomsM c := (mem_rooms g.rg).mpr ⟨p', List.mem_of_getElem? hp', .inr rfl⟩
        have dg : ∀ {H' : Hp} {τ : Int → Int} {r : Int}, H' Td = some (.dK (dkF c τ)) → r ∈ roomsM c → DGet H' Td (kV (Sum.inl r)) (some (V.int (τ r))) := fun {H' τ r} h hr => by
          have z := DGet.k (k := Sum.inl r) h
          rw [valF hr] at z
          exact z
        have ll : ∀ τ, (dkF c τ).length < sizeLine := fun τ => by rw [lenF, sizeLine_eq]; omega
        generalize hτ : (c.take j).foldl tstep (tlaps c i) = τ at hT5
        refine ⟨t, _, rfl, hw, rfl, .int p'.1, [.int p'.2], rfl, .int p'.2, [], rfl, rfl, ?_⟩
        refine ⟨.ref Td, rfl, .int p'.1, rfl, Td, _, rfl, dg hT5 m1, .ref Td, rfl, .int p'.2, rfl, Td, _, rfl, dg hT5 m2, _, _, rfl, .ref Td, rfl, .int p'.1, rfl, Td, _, rfl, DPut.k (k := Sum.inl p'.1) hT5 (ll _), ?_⟩
        have s6 := stT H5 (.dK (putK (dkF c τ) (Sum.inl p'.1) (V.int (if τ p'.2 < τ p'.1 then τ p'.2 else τ p'.1)))) s5
        have hT6 : upd H5 Td (.dK (putK (dkF c τ) (Sum.inl p'.1) (V.int (if τ p'.2 < τ p'.1 then τ p'.2 else τ p'.1)))) Td = some (.dK (dkF c fun k => if k = p'.1 then mn (τ p'.1) (τ p'.2) else τ k)) := by rw [upd_same, putF m1]; rfl
        generalize upd H5 Td (HO.dK (putK (dkF c τ) (Sum.inl p'.1) (V.int (if τ p'.2 < τ p'.1 then τ p'.2 else τ p'.1)))) = H6 at s6 hT6
        refine ⟨.ref Td, rfl, .int p'.1, rfl, Td, _, rfl, dg hT6 m1, .ref Td, rfl, .int p'.2, rfl, Td, _, rfl, DPut.k (k := Sum.inl p'.2) hT6 (ll _), ?_⟩
        refine ⟨_, _, rfl, stT _ _ s6, ?_⟩
        rw [upd_same, putF m2, List.take_add_one, hp', List.foldl_append, hτ]
        exact congrArg (fun z => some (HO.dK (dkF c z))) (tstep_two τ p')
      · rintro σ H5 ⟨y3, y4, rfl, s5, hT5⟩
        rw [List.length_map, hc.len, List.take_length] at hT5
        exact ⟨_, _, _, _, rfl, s5, hT5⟩
    rintro σ H4 ⟨x, x2, x3, x4, rfl, s4, hT4⟩
    have en : (((dkF c (tlaps c 0)).length : Nat) : Int).toNat = (roomsM c).length := by rw [lenF]; omega
    rw [en] at hT4
    have tg := isTag_laps g.rg
    generalize tlaps c (roomsM c).length = τ at hT4 tg
    have dg : ∀ {H' : Hp} {r : Int}, Same H4 H' → r ∈ roomsM c → DGet H' Td (kV (Sum.inl r)) (some (V.int (τ r))) := fun {H' r} h hr => by
      have z := DGet.k (k := Sum.inl r) (h _ _ hT4)
      rw [valF hr] at z
      exact z
    refine ⟨.ref a, rfl, a, ts, c, rfl, hc.up s4, g, h1000, fun H5 p5 s5 np5 hp5 => ⟨p5, rfl, ⟨_, SqL.of hp5⟩, fun D nD => ?_⟩⟩
    refine walkL (K := K) (a := p5) (xs := (roomsM c).map V.int) (fun i H' => Same H5 H' ∧ ∃ ps : List Addr, H' D = some (.lst (ps.map V.ref)) ∧ ps.length = (((roomsM c).take i).filter fun k => decide (τ k = k)).length ∧ ps.Nodup ∧ (∀ p ∈ ps, H5 p = none) ∧
      ∀ (j : Nat) (p : Addr) (k : Int), ps[j]? = some p → (((roomsM c).take i).filter fun k => decide (τ k = k))[j]? = some k → H' p = some (.tup (partV ts c τ k))) ⟨same_upd nD, [], upd_same, rfl, List.nodup_nil, fun p h => by simp at h, fun j p k h => by simp at h⟩
      (fun j H' ⟨s', _⟩ => SqL.of (s' _ _ hp5)) ?_ ?_
    · rintro i x H6 hx ⟨s6, ps, hD6, hl6, nd6, nw6, al6⟩
      obtain ⟨r, hr', rfl⟩ := map_get hx
      have rr : r ∈ roomsM c := List.mem_of_getElem? hr'
      refine ⟨rfl, .ref Td, rfl, .int r, rfl, Td, _, rfl, dg (s5.trans s6) rr, .int r, rfl, rfl, _, rfl, ite2 (fun e => ?_) (fun e => ?_)⟩
      · have root : τ r = r := V.int.inj (of_decide_eq_true e)
        have step : ((roomsM c).take (i + 1)).filter (fun k => decide (τ k = k)) = ((roomsM c).take i).filter (fun k => decide (τ k = k)) ++ [r] := by
          rw [List.take_add_one, hr', List.filter_append]
          simp [root]
        have s46 := s5.trans s6
        refine ⟨.ref a, rfl, a, rfl, ⟨_, (hc.up (s4.trans s46)).sq⟩, fun D' nD' => walkT (K := K) (a := a) (xs := ts.map V.ref) (fun j H' => Same H6 H' ∧ H' D' = some (.lst ((((ts.zip c).take j).filter fun q => decide (τ q.2.1 = r)).map fun q => V.ref q.1)))
          ⟨same_upd nD', upd_same⟩ (fun j H' ⟨s', _⟩ => (hc.up (s4.trans (s46.trans s'))).sq) ?_ ?_⟩
        · rintro j x H7 hx ⟨s7, hD7⟩
          obtain ⟨t, ht, rfl⟩ := map_get hx
          obtain ⟨p', hp', hw⟩ := cv_get (hc.up (s4.trans (s46.trans s7))) ht
          have m1 : p'.1 ∈ roomsM c := (mem_rooms g.rg).mpr ⟨p', List.mem_of_getElem? hp', .inl rfl⟩
          have hz := zip_get ht hp'
          refine ⟨rfl, .ref Td, rfl, .ref t, rfl, t, _, 0, .int p'.1, rfl, rfl, hw, atI_nat (j := 0) rfl, Td, _, rfl, dg (s46.trans s7) m1, .int r, rfl, rfl, _, rfl, ite2 (fun e2 => ?_) (fun e2 => ?_)⟩
          · have z : τ p'.1 = r := V.int.inj (of_decide_eq_true e2)
            refine ⟨.ref t, rfl, _, hD7, ?_, fun b o e => ?_, ?_⟩
            · have h1 := List.length_filter_le (fun q : Addr × Int × Int => decide (τ q.2.1 = r)) ((ts.zip c).take j)
              rw [List.length_take, List.length_zip] at h1
              rw [List.length_map, sizeLine_eq]
              omega
            · rw [upd_ne (ne_of_none e nD')]
              exact s7 _ _ e
            · rw [upd_same, List.take_add_one, hz, List.filter_append, List.map_append]
              simp [z]
          · have z : ¬ τ p'.1 = r := fun z => e2 (decide_eq_true (congrArg V.int z))
            refine ⟨s7, ?_⟩
            rw [hD7, List.take_add_one, hz, List.filter_append, List.map_append]
            simp [z]
        · rintro H7 ⟨s7, hD7⟩
          have eP : (((ts.zip c).take (ts.map V.ref).length).filter fun q => decide (τ q.2.1 = r)).map (fun q => V.ref q.1) = partV ts c τ r := by
            unfold partV
            rw [List.length_map, List.take_of_length_le (by rw [List.length_zip]; omega)]
          rw [eP] at hD7
          have lenps : ps.length ≤ 100 := by
            have h1 := List.length_filter_le (fun k => decide (τ k = k)) ((roomsM c).take i)
            rw [List.length_take] at h1
            omega
          refine ⟨D', _, rfl, .inl ⟨SqL.of hD7, fun p np => ⟨ps.map V.ref, ?_, (by rw [List.length_map, sizeLine_eq]; omega), fun b o e => ?_, ps ++ [p], ?_, ?_, ?_, fun p' hp' => ?_, fun j p' k' h1 h2 => ?_⟩⟩⟩
          · rw [upd_ne (ne_of_none (s7 _ _ hD6) np)]
            exact s7 _ _ hD6
          · rw [upd_ne (ne_of_none e nD), upd_ne (ne_of_none (s7 _ _ (s6 _ _ e)) np)]
            exact s7 _ _ (s6 _ _ e)
          · rw [upd_same, List.map_append]
            rfl
          · rw [List.length_append, hl6, step, List.length_append]
            rfl
          · rw [List.nodup_append]
            refine ⟨nd6, by simp, fun y hy z hz e => ?_⟩
            have : z = p := by simpa using hz
            obtain ⟨jj, hj, rfl⟩ := List.getElem_of_mem hy
            have y' := al6 jj ps[jj] _ (List.getElem?_eq_getElem hj) (List.getElem?_eq_getElem (by omega))
            rw [e, this] at y'
            have := s7 _ _ y'
            rw [np] at this
            cases this
          · rcases List.mem_append.mp hp' with z | z
            · exact nw6 p' z
            · rw [List.mem_singleton.mp z]
              exact s6.free (s7.free np)
          · have pD : p ≠ D := fun e => by rw [e, s7 _ _ hD6] at np; cases np
            rw [step] at h2
            by_cases hj : j < ps.length
            · rw [List.getElem?_append_left hj] at h1
              rw [List.getElem?_append_left (by omega)] at h2
              have y := al6 j p' k' h1 h2
              rw [upd_ne (fun e => by rw [e, hD6] at y; cases y), upd_ne (ne_of_none (s7 _ _ y) np)]
              exact s7 _ _ y
            · rw [List.getElem?_append_right (by omega)] at h1
              rw [List.getElem?_append_right (by omega)] at h2
              have z0 : j - ps.length = 0 := by
                have := (List.getElem?_eq_some_iff.mp h1).1
                simp at this
                omega
              rw [z0] at h1
              rw [← hl6, z0] at h2
              cases h1
              cases h2
              rw [upd_ne pD, upd_same]
      · have noroot : ¬ τ r = r := fun z => e (decide_eq_true (congrArg V.int z))
        have step : ((roomsM c).take (i + 1)).filter (fun k => decide (τ k = k)) = ((roomsM c).take i).filter (fun k => decide (τ k = k)) := by
          rw [List.take_add_one, hr', List.filter_append]
          simp [noroot]
        exact ⟨s6, ps, hD6, by rw [step]; exact hl6, nd6, nw6, fun j p k h1 h2 => al6 j p k h1 (by rw [step] at h2; exact h2)⟩
    · rintro H6 ⟨s6, ps, hD6, hl6, nd6, nw6, al6⟩
      rw [List.length_map, List.take_length] at hl6
      rw [List.length_map, List.take_length] at al6
      have rs : (roomsM c).filter (fun k => decide (τ k = k)) = rootsM τ c := rfl
      rw [rs] at hl6 al6
      have hc6 := hc.up (s4.trans (s5.trans s6))
      -- each found tuple has its root
      have each : ∀ x ∈ ps.map V.ref, ∃ (p : Addr) (k : Int), x = .ref p ∧ k ∈ keysM τ c [] ∧ rootOf ps (rootsM τ c) x = k ∧ H6 p = some (.tup (partV ts c τ k)) ∧ ∃ i, ps[i]? = some p ∧ (rootsM τ c)[i]? = some k := fun x hx => by
        obtain ⟨p, hp, rfl⟩ := List.mem_map.mp hx
        obtain ⟨i, hi, rfl⟩ := List.getElem_of_mem hp
        have e1 : ps[i]? = some ps[i] := List.getElem?_eq_getElem hi
        have e2 : (rootsM τ c)[i]? = some ((rootsM τ c)[i]'(by omega)) := List.getElem?_eq_getElem (by omega)
        refine ⟨_, _, rfl, (keys_roots g.rg tg _).mpr (List.mem_of_getElem? e2), ?_, al6 i _ _ e1 e2, i, e1, e2⟩
        show ((ps.zip (rootsM τ c)).lookup ps[i]).getD 0 = _
        rw [lookup_zip nd6 e1 e2]
        rfl
      have ndR : (rootsM τ c).Nodup := (nd_rooms c).sublist List.filter_sublist
      refine ⟨.ref D, rfl, D, ps.map V.ref, fun x => fw τ c (rootOf ps (rootsM τ c) x), rfl, SqL.of hD6, fun x hx => ?_, fun x hx y hy e => ?_, fun ys p pm st np => ?_⟩
      · obtain ⟨p, k, rfl, hk, e, hp, _⟩ := each x hx
        obtain ⟨u, rest, e1, hu⟩ := part_zip hc6 hk
        rw [e1] at hp
        dsimp only
        rw [e]
        exact ⟨p, u, rest, rfl, SqT.of hp, hu⟩
      · obtain ⟨p, k, rfl, hk, e1, _, i, h1, h2⟩ := each x hx
        obtain ⟨p', k', rfl, hk', e1', _, i', h1', h2'⟩ := each y hy
        dsimp only at e
        rw [e1, e1'] at e
        have kk := fw_inj hk hk' e
        subst kk
        have ii : i = i' := by
          obtain ⟨l1, g1⟩ := List.getElem?_eq_some_iff.mp h2
          obtain ⟨l2, g2⟩ := List.getElem?_eq_some_iff.mp h2'
          rcases Nat.lt_trichotomy i i' with z | z | z
          · exact absurd (g1.trans g2.symm) (List.pairwise_iff_getElem.mp ndR i i' l1 l2 z)
          · exact z
          · exact absurd (g2.trans g1.symm) (List.pairwise_iff_getElem.mp ndR i' i l2 l1 z)
        subst ii
        rw [h1] at h1'
        cases h1'
        rfl
      · have eR : (ps.map V.ref).map (rootOf ps (rootsM τ c)) = rootsM τ c := by
          refine List.ext_getElem (by rw [List.length_map, List.length_map]; exact hl6) fun i h1 h2 => ?_
          rw [List.getElem_map, List.getElem_map]
          rw [List.length_map, List.length_map] at h1
          show ((ps.zip (rootsM τ c)).lookup ps[i]).getD 0 = _
          rw [lookup_zip nd6 (List.getElem?_eq_getElem h1) (List.getElem?_eq_getElem h2)]
          rfl
        have pmK := pm.map (rootOf ps (rootsM τ c))
        rw [eR] at pmK
        have eK := sorted_keys g tg pmK (List.pairwise_map.mpr st)
        have sF : Same H (upd H6 p (.lst ys)) := s4.trans (s5.trans (s6.trans (same_upd np)))
        refine q _ p ys τ sF (s4.free (s5.free (s6.free np))) upd_same tg (DqAll.of_get ?_ fun i x d h1 h2 => ?_)
        · unfold partsM
          rw [List.length_map, List.length_map, ← eK, List.length_map]
        · unfold partsM at h2
          rw [← eK, List.map_map, List.map_map, List.getElem?_map, h1] at h2
          cases h2
          obtain ⟨p', k', rfl, hk', e1, hp', _⟩ := each x (pm.mem_iff.mp (List.mem_of_getElem? h1))
          show Dq K _ (V.ref p') (caveD (c.filter fun p => decide (τ p.1 = rootOf ps (rootsM τ c) (V.ref p'))))
          rw [e1]
          refine .tup (SqT.of (same_upd np _ _ hp')) ?_
          exact (hc.up sF).some fun p => decide (τ p.1 = k')
end
end Cv

/-! the law's own is_cave -/
namespace Cv
open PySem PySem.Spec PyProof.Rows L2 CvT CvS CvW CvD
abbrev sLI : Stmt := topS 25
abbrev nLI : List Str := ["thing", "one", "rows_here", "part"]
theorem scLI : FnScope nLI ["thing"] (defScope sLI) := ⟨rfl, rfl, rfl, by decide +kernel, rfl, by decide +kernel, by decide +kernel⟩
theorem Dq.tyX {K : PySem.W.Frag} {H : Hp} {v : V} {d : PyData} (h : Dq K H v d) : TyX K H v (.type (tyD d)) := by
  cases h with
  | non => exact .base .non
  | bl b => exact .base (.bl b)
  | int i => exact .base (.int i)
  | str x => exact .base (.str x)
  | lst h _ =>
    rcases h with (h | ⟨o, h⟩) | ⟨o, _, _, h, c, _⟩
    · exact .base (.lst h)
    · exact .base (.frz h)
    · exact .kList h c
  | tup h _ =>
    rcases h with (h | ⟨o, h⟩) | ⟨o, _, _, h, c, _⟩
    · exact .base (.tup h)
    · exact .fTuple h
    · exact .kTuple h c
  | emp h => exact .base (.dK h)
theorem ty_mem (d : PyData) : tyD d ∈ ["NoneType", "bool", "int", "str", "list", "tuple", "dict"] := by
  cases d <;> simp [tyD]
theorem kitT {K : PySem.W.Frag} (d : PyData) : PySem.W.kitOne K (.type (tyD d)) (.type "tuple") = some (decide (tyD d = "tuple")) :=
  kit_ty ((by decide +kernel : ∀ t ∈ ["NoneType", "bool", "int", "str", "list", "tuple", "dict"], L2.kitB t "tuple" = some (decide (t = "tuple"))) _ (ty_mem d))
theorem kitI {K : PySem.W.Frag} (d : PyData) : PySem.W.kitOne K (.type (tyD d)) (.type "int") = some (decide (tyD d = "int") || decide (tyD d = "bool")) :=
  kit_ty ((by decide +kernel : ∀ t ∈ ["NoneType", "bool", "int", "str", "list", "tuple", "dict"], L2.kitB t "int" = some (decide (t = "int") || decide (t = "bool"))) _ (ty_mem d))
theorem kitO {K : PySem.W.Frag} (d : PyData) : PySem.W.kitOne K (.type (tyD d)) (.type "bool") = some (decide (tyD d = "bool")) :=
  kit_ty ((by decide +kernel : ∀ t ∈ ["NoneType", "bool", "int", "str", "list", "tuple", "dict"], L2.kitB t "bool" = some (decide (t = "bool"))) _ (ty_mem d))
/-- t == (), t a tuple -/
def rEmp (K : PySem.W.Frag) : R2 := fun x y H Q => ∃ (a b : Addr) (xs : List V), x = .ref a ∧ y = .ref b ∧ SqT K H a xs ∧ SqT K H b [] ∧ Q (.bl xs.isEmpty) H
theorem op_emp {X : Cx} (hu : X.A.units < cLine) : OpR X (compareOp .Eq) (rEmp X.K) := by
  intro pins s σ H x y v u Q I rx ry h
  obtain ⟨a, b, xs, rfl, rfl, ha, hb, q⟩ := h
  obtain rfl : v = Value.ref a := rx
  obtain rfl : u = Value.ref b := ry
  obtain ⟨its, r1, p1, _⟩ := I.tuple ha
  obtain ⟨its2, r2, p2, _⟩ := I.tuple hb
  cases r2
  refine SeqAt.eq_tupleAt (e := fun _ => true) p1 p2 hu (fun j h1 h2 => absurd h2 (by simp)) ⟨.bl xs.isEmpty, H, I, ?_, q⟩
  show Value.bool _ = Value.bool _
  congr 1
  cases r1 <;> simp
/-- two rooms, the first not yet below the other -/
def twoD : PyData → Bool
  | .tuple [x, y] => isRoomD x && isRoomD y
  | _ => false
theorem two_inv {d : PyData} (h : twoD d = true) : ∃ p : Int × Int, d = wayD p ∧ (0 ≤ p.1 ∧ p.1 < 100) ∧ 0 ≤ p.2 ∧ p.2 < 100 := by
  unfold twoD at h
  split at h
  · rename_i x y
    rw [Bool.and_eq_true] at h
    cases x <;> simp [isRoomD] at h
    cases y <;> simp [isRoomD] at h
    exact ⟨(_, _), rfl, by omega, by omega⟩
  · cases h
theorem way_twoD {d : PyData} (h : isWayD d = true) : twoD d = true := by
  obtain ⟨i, j, rfl, h1, h2, h3, h4, h5⟩ := way_inv h
  simp [twoD, isRoomD]
  omega
/-- what the law's own look tells -/
theorem isCave_two {c : List (Int × Int)} (h2 : ∀ p ∈ c, (0 ≤ p.1 ∧ p.1 < 100) ∧ 0 ≤ p.2 ∧ p.2 < 100) (ne : c ≠ []) : isCaveD (caveD c) = (decide (c.Pairwise fun p q => ltP p q = true) && c.all fun p => decide (p.1 < p.2)) := by
  by_cases h : c.Pairwise (fun p q => ltP p q = true) ∧ ∀ p ∈ c, p.1 < p.2
  · have g : Good c := ⟨fun p hp => by have := h2 p hp; have := h.2 p hp; unfold RgW; omega, h.1, ne⟩
    rw [g.isCave, decide_eq_true h.1, Bool.true_and]
    exact (List.all_eq_true.mpr fun p hp => decide_eq_true (h.2 p hp)).symm
  · have z : isCaveD (caveD c) = false := Bool.eq_false_iff.mpr fun e => by
      obtain ⟨e', e1, g⟩ := cav_inv e
      have := caveD_inj e1
      subst this
      exact h ⟨g.asc, fun p hp => (g.rg p hp).2.1⟩
    rw [z]
    symm
    refine Bool.eq_false_iff.mpr fun e => h ?_
    rw [Bool.and_eq_true, decide_eq_true_eq, List.all_eq_true] at e
    exact ⟨e.1, fun p hp => of_decide_eq_true (e.2 p hp)⟩
theorem isCave_no {ds : List PyData} {d : PyData} (hd : d ∈ ds) (h : twoD d = false) : isCaveD (.tuple ds) = false := Bool.eq_false_iff.mpr fun e => by
  obtain ⟨c, e1, g⟩ := cav_inv e
  have : ds = c.map wayD := PyData.tuple.inj e1
  subst this
  obtain ⟨p, hp, rfl⟩ := List.mem_map.mp hd
  rw [way_twoD (isWay_way.mpr (g.rg p hp))] at h
  cases h
theorem eqv_way (p q : Int × Int) : PyData.eqv (wayD p) (wayD q) = decide (p = q) := by
  unfold wayD
  simp only [PyData.eqv, PyData.eqvAll, Bool.and_true]
  by_cases h : p = q
  · subst h
    simp
  · rw [decide_eq_false h]
    refine Bool.eq_false_iff.mpr fun z => h ?_
    rw [Bool.and_eq_true] at z
    exact Prod.ext (by simpa using z.1) (by simpa using z.2)
theorem eqv_ways : ∀ c e : List (Int × Int), PyData.eqvAll (c.map wayD) (e.map wayD) = decide (c = e)
  | [], [] => by simp [PyData.eqvAll]
  | [], _ :: _ => by simp [PyData.eqvAll]
  | _ :: _, [] => by simp [PyData.eqvAll]
  | p :: c, q :: e => by
    simp only [List.map_cons, PyData.eqvAll, eqv_way, eqv_ways c e]
    by_cases h : p = q <;> by_cases h' : c = e <;> simp [h, h']
theorem dp_way {K : PySem.W.Frag} {H : Hp} {t : Addr} {p : Int × Int} (h : SqT K H t [.int p.1, .int p.2]) : Dp K H (.ref t) (wayD p) := .tup h (.cons (.int _) (.cons (.int _) .nil))
theorem lay_ways : ∀ c : List (Int × Int), PyData.canLayAll0 (c.map wayD) = true
  | [] => by simp [PyData.canLayAll0]
  | p :: c => by simp [PyData.canLayAll0, wayD, PyData.canLay0, lay_ways c]
theorem depth_ways : ∀ c : List (Int × Int), PyData.depthAll (c.map wayD) ≤ 4
  | [] => by simp [PyData.depthAll]
  | p :: c => by
    have h := depth_ways c
    simp only [List.map_cons, PyData.depthAll, wayD, PyData.depth]
    omega
theorem shaped_ways (c : List (Int × Int)) : SeqAt.shaped (.list (c.map wayD)) = true := by
  have h1 := depth_ways c
  have h2 : PyData.depth (.list (c.map wayD)) ≤ 64 := by
    simp only [PyData.depth]
    omega
  show (PyData.canLay0 (.list (c.map wayD)) && decide (PyData.depth (.list (c.map wayD)) ≤ 64)) = true
  rw [Bool.and_eq_true]
  exact ⟨by simp only [PyData.canLay0]; exact lay_ways c, decide_eq_true h2⟩
theorem code100 (x y : Int) : TS.code 100 [x, y] = x * 100 + y := by
  have e1 : (100 : Int) ^ 1 = 100 := by decide
  have e0 : (100 : Int) ^ 0 = 1 := by decide
  show x * 100 ^ 1 + (y * 100 ^ 0 + 0) = x * 100 + y
  rw [e1, e0, Int.mul_one, Int.add_zero]
def toP : List Int → Int × Int
  | [x, y] => (x, y)
  | _ => (0, 0)
theorem cdW_inj2 {p q : Int × Int} (hp : (0 ≤ p.1 ∧ p.1 < 100) ∧ 0 ≤ p.2 ∧ p.2 < 100) (hq : (0 ≤ q.1 ∧ q.1 < 100) ∧ 0 ≤ q.2 ∧ q.2 < 100) (h : cdW p = cdW q) : p = q := by
  unfold cdW at h
  exact Prod.ext (by omega) (by omega)
theorem cdW_lt2 {p q : Int × Int} (hp : (0 ≤ p.1 ∧ p.1 < 100) ∧ 0 ≤ p.2 ∧ p.2 < 100) (hq : (0 ≤ q.1 ∧ q.1 < 100) ∧ 0 ≤ q.2 ∧ q.2 < 100) : ltP p q = true ↔ cdW p < cdW q := by
  rw [ltP_iff]
  unfold cdW
  omega
/-- a list is its own sorted set exactly if it ascends -/
theorem asc_iff {c e : List (Int × Int)} (hc : ∀ p ∈ c, (0 ≤ p.1 ∧ p.1 < 100) ∧ 0 ≤ p.2 ∧ p.2 < 100) (mem : ∀ p, p ∈ e ↔ p ∈ c) (asc : e.Pairwise fun p q => cdW p < cdW q) : decide (c = e) = decide (c.Pairwise fun p q => ltP p q = true) := by
  refine decide_eq_decide.mpr ⟨fun h => ?_, fun h => ?_⟩
  · subst h
    exact asc.imp_of_mem fun {p q} hp hq z => (cdW_lt2 (hc p hp) (hc q hq)).mpr z
  · refine map_inj_on (f := cdW) (asc_ext (List.pairwise_map.mpr (h.imp_of_mem fun {p q} hp hq z => (cdW_lt2 (hc p hp) (hc q hq)).mp z)) (List.pairwise_map.mpr asc) fun n => ?_) fun p hp q hq z => cdW_inj2 (hc p hp) (hc q ((mem q).mp hq)) z
    rw [List.mem_map, List.mem_map]
    exact ⟨fun ⟨p, hp, e⟩ => ⟨p, (mem p).mpr hp, e⟩, fun ⟨p, hp, e⟩ => ⟨p, (mem p).mp hp, e⟩⟩
theorem DpAll.of_get {K : PySem.W.Frag} {H : Hp} : ∀ {xs : List V} {ds : List PyData}, xs.length = ds.length → (∀ (i : Nat) x d, xs[i]? = some x → ds[i]? = some d → Dp K H x d) → DpAll K H xs ds
  | [], [], _, _ => .nil
  | [], _ :: _, h, _ => by simp at h
  | _ :: _, [], h, _ => by simp at h
  | x :: xs, d :: ds, h, g => .cons (g 0 x d rfl rfl) (DpAll.of_get (by simpa using h) fun i y e h1 h2 => g (i + 1) y e (by simpa using h1) (by simpa using h2))
def spLI (K : PySem.W.Frag) : Sp := fun vs H Q _ => ∃ (v : V) (d : PyData), vs = [v] ∧ Dq K H v d ∧ (∀ ds, d = .tuple ds → ds.length < 64) ∧ ∀ H', Same H H' → Q (.bl (isCaveD d)) H'
structure TxtI (mg : Str → Option Value) : Prop extends TxtL mg where
  isi : mg "isinstance" = none
  int : mg "int" = none
  bool : mg "bool" = none
  all : mg "all" = none
section
variable {P : Program} {w : World} {K : PySem.W.Frag} {mg : Str → Option Value} {base : Heap}
theorem ok_li {f : Addr} {fd : FuncData} {k : Nat} (F : Fun K "_law_is_cave" "_law_is_cave" sLI f fd) (T : TxtI mg) : FnOk P w K mg base CX0 (k + 1) f fd ["thing"] (spLI K) := by
  refine F.ok scLI (fun vs H Q E h => ?_) (fun cdv A outer s H vs Q E hr h => ?_)
  · obtain ⟨v, d, rfl, _⟩ := h
    rfl
  · obtain ⟨v, d, rfl, hd, h64, q⟩ := h
    have hu1 : (A.deeper (envOfC "_law_is_cave" (defScope sLI) s.heap.objs.size f cdv)).units < cLine := by
      have := hr.un
      omega
    refine ⟨_, pss_cons (ps_if (PW.pt (pw_or (pt_not (pt_val (pe_callB call_isi (by rfl) T.isi (by decide +kernel) (pa_cons (pv 0) (pa_cons (pe_bltn (v := .ty "tuple") (by rfl) T.tup boot_tu rfl) pa_nil)))))
          (pw_or1 (pt_cmpR (op_emp hu1) (pv 0) (pe_tup pa_nil) (nomark _))))) (pss_one (ps_ret pe_bl)) pss_nil)
      (pss_cons (ps_for PassesOwn.never rfl (pi_tup (pv 0)) (pg_name (i := 1) scLI.nd rfl (.inl rfl))
        (pss_cons (ps_if (PW.pt (pw_or (pt_not (pt_val (pe_callB call_isi (by rfl) T.isi (by decide +kernel) (pa_cons (pv 1) (pa_cons (pe_bltn (v := .ty "tuple") (by rfl) T.tup boot_tu rfl) pa_nil)))))
            (pw_or1 (pt_cmpR op_ne (pe_callB call_len_seq (by rfl) T.len PySem.boot_len (pa_cons (pv 1) pa_nil)) pe_int (nomark _))))) (pss_one (ps_ret pe_bl)) pss_nil)
        (pss_one (ps_if (pt_not (pt_val (pe_callB (cr_all rfl) (by rfl) T.all (by decide +kernel) (pa_cons (pe_lc (own := [("part", 3)]) (g := gName 3) (tt := tYes)
            (te := tAndV (tCB (rIsi K) (tCons (tVar 3) (tCons (tC (.ty "int")) tNil))) (tAndV (tNotV (tCB (rIsi K) (tCons (tVar 3) (tCons (tC (.ty "bool")) tNil)))) (tChain (rI0 fun i j => .bl (decide (i ≤ j))) (rI0 fun i j => .bl (decide (i ≤ j))) (tC (.int 0)) (tVar 3) (tC (.int 99)))))
            rfl scLI.nd (pi_tup (pv 1)) (blkOk_by (own := [("part", 3)]) (N := nLI) (sc := defScope sLI) (by decide +kernel)) (fun _ _ _ _ _ => pg_name (i := 3) scLI.nd rfl (.inl rfl)) (fun _ _ _ _ _ => pts_nil)
            (fun _ _ _ _ _ => pe_and (pe_callB call_isi (by rfl) T.isi (by decide +kernel) (pa_cons (pv 3) (pa_cons (pe_bltn (v := .ty "int") (by rfl) T.int boot_in rfl) pa_nil)))
              (pe_and (pe_not (pe_callB call_isi (by rfl) T.isi (by decide +kernel) (pa_cons (pv 3) (pa_cons (pe_bltn (v := .ty "bool") (by rfl) T.bool (by decide +kernel) rfl) pa_nil)))) (pe_one (pe_chain op_le op_le pe_int (pv 3) pe_int))))) pa_nil)))) (pss_one (ps_ret pe_bl)) pss_nil))))
      (pss_cons (ps_set (i := 2) scLI.nd rfl (.inl rfl) (pe_callTy call_list_of (by rfl) T.list (by decide +kernel) (pa_cons (pv 0) pa_nil)))
      (pss_one (ps_ret (pe_and (pe_cmpR (op_eqD hr.units) (pv 2) (pe_callB (cr_sortedT rfl) (by rfl) T.srt (by decide +kernel) (pa_cons (pe_callTy (cr_setOfT rfl hr.units) (by rfl) T.set (by decide +kernel) (pa_cons (pv 2) pa_nil)) pa_nil)) (nomark _))
        (pe_one (pe_callB (cr_all rfl) (by rfl) T.all (by decide +kernel) (pa_cons (pe_lc (own := [("one", 1)]) (g := gName 1) (tt := tYes) (te := tOp (rI0 fun i j => .bl (decide (i < j))) (tOp (rIxT K) (tVar 1) (tC (.int 0))) (tOp (rIxT K) (tVar 1) (tC (.int 1))))
            rfl scLI.nd (pi_list (pv 2)) (blkOk_by (own := [("one", 1)]) (N := nLI) (sc := defScope sLI) (by decide +kernel)) (fun _ _ _ _ _ => pg_name (i := 1) scLI.nd rfl (.inl rfl)) (fun _ _ _ _ _ => pts_nil)
            (fun _ _ _ _ _ => pe_cmpR op_lt (pe_ix ix_tup (pv 1) pe_int (fun _ _ => rfl)) (pe_ix ix_tup (pv 1) pe_int (fun _ _ => rfl)) (nomark _))) pa_nil)))))))), ?_⟩
    have no : ∀ H', Same H H' → isCaveD d = false → Q (.bl false) H' := fun H' s' e => by
      have z := q H' s'
      rw [e] at z
      exact z
    refine ⟨v, rfl, v, .ty "tuple", _, _, _, rfl, .ty _, hd.tyX, kitT d, _, rfl, ite2 (fun e => ?_) (fun e => ?_)⟩
    · exact no H (Same.refl H) (asc_no (by simpa using e))
    have ety : tyD d = "tuple" := by simpa using e
    obtain ⟨ds, rfl⟩ : ∃ ds, d = .tuple ds := by cases d <;> first | exact ⟨_, rfl⟩ | (simp [tyD] at ety)
    have l64 := h64 ds rfl
    obtain ⟨a, xs, rfl, hT, hA⟩ := hd.tup_inv
    have hl := hA.len
    refine ⟨.ref a, rfl, Nat.zero_le _, fun t nt => ⟨a, t, xs, rfl, rfl, SqT.up (same_upd nt) hT, SqT.of upd_same, _, rfl, ite2 (fun e1 => ?_) (fun e1 => ?_)⟩⟩
    · refine no _ (same_upd nt) ?_
      have : ds = [] := by
        cases hA with
        | nil => rfl
        | cons _ _ => simp at e1
      rw [this]
      rfl
    have s1 := same_upd (o := .tup []) nt
    have ne : ds ≠ [] := fun z => by
      subst z
      cases hA
      exact e1 rfl
    refine ⟨.ref a, rfl, a, rfl, ⟨_, SqT.up s1 hT⟩, for_tup (K := K) (a := a) (xs := xs) (fun i σ H' => ∃ y, σ = [some (.ref a), y, none, none] ∧ Same H H' ∧ ∀ d ∈ ds.take i, twoD d = true) ⟨_, rfl, s1, fun d h => by simp at h⟩
      (fun i σ H' _ ⟨_, _, s', _⟩ => SqT.up s' hT) ?_ ?_⟩
    · rintro i x σ H1 hx ⟨y, rfl, s2, all⟩
      obtain ⟨dx, edx, hdx⟩ := (DqAll.up s2 ds hA).get hx
      have dm : dx ∈ ds := List.mem_of_getElem? edx
      have bad : ∀ H', Same H H' → twoD dx = false → Q (.bl false) H' := fun H' s' e => no H' s' (isCave_no dm e)
      refine ⟨x, rfl, x, .ty "tuple", _, _, _, rfl, .ty _, hdx.tyX, kitT dx, _, rfl, ite2 (fun e2 => ?_) (fun e2 => ?_)⟩
      · refine bad H1 s2 ?_
        have : tyD dx ≠ "tuple" := by simpa using e2
        cases dx <;> first | rfl | exact absurd rfl this
      have ety2 : tyD dx = "tuple" := by simpa using e2
      obtain ⟨es, rfl⟩ : ∃ es, dx = .tuple es := by cases dx <;> first | exact ⟨_, rfl⟩ | (simp [tyD] at ety2)
      obtain ⟨b, ys, rfl, hTb, hAb⟩ := hdx.tup_inv
      refine ⟨.ref b, rfl, b, ys, rfl, .inr hTb, rfl, _, rfl, ite2 (fun e3 => ?_) (fun e3 => ?_)⟩
      · refine bad H1 s2 ?_
        have ll := hAb.len
        match es, ll with
        | [], _ => rfl
        | [_], _ => rfl
        | [_, _], ll => rw [ll] at e3; simp at e3
        | _ :: _ :: _ :: _, _ => rfl
      have l2 : ys.length = 2 := by
        have z : decide (V.int ((ys.length : Nat) : Int) = V.int 2) = true := by simpa using e3
        have := V.int.inj (of_decide_eq_true z)
        omega
      obtain ⟨y1, y2, rfl⟩ : ∃ y1 y2, ys = [y1, y2] := by
        match ys, l2 with
        | [y1, y2], _ => exact ⟨y1, y2, rfl⟩
      obtain ⟨d1, d2, rfl, hd1, hd2⟩ : ∃ d1 d2, es = [d1, d2] ∧ Dq K H1 y1 d1 ∧ Dq K H1 y2 d2 := by
        cases hAb with
        | cons h1 hAb =>
          cases hAb with
          | cons h2 hAb =>
            cases hAb
            exact ⟨_, _, rfl, h1, h2⟩
      refine ⟨.ref b, rfl, b, rfl, ⟨_, hTb⟩, fun D nD => walkT (K := K) (a := b) (xs := [y1, y2]) (fun j H' => Same H1 H' ∧ H' D = some (.lst ((([d1, d2] : List PyData).take j).map fun d => V.bl (isRoomD d)))) ⟨same_upd nD, upd_same⟩
        (fun j H' ⟨s', _⟩ => SqT.up s' hTb) ?_ ?_⟩
      · rintro j z H2 hz ⟨s3, hD⟩
        obtain ⟨dz, edz, hdz⟩ : ∃ dz, ([d1, d2] : List PyData)[j]? = some dz ∧ Dq K H2 z dz := by
          match j, hz with
          | 0, hz => cases hz; exact ⟨d1, rfl, Dq.up s3 _ hd1⟩
          | 1, hz => cases hz; exact ⟨d2, rfl, Dq.up s3 _ hd2⟩
          | j + 2, hz => simp at hz
        have fin : ∀ bb, bb = isRoomD dz → ∃ acc, H2 D = some (.lst acc) ∧ acc.length < sizeLine ∧ (Same H1 (upd H2 D (.lst (acc ++ [V.bl bb]))) ∧ upd H2 D (.lst (acc ++ [V.bl bb])) D = some (.lst ((([d1, d2] : List PyData).take (j + 1)).map fun d => V.bl (isRoomD d)))) := fun bb hb => by
          refine ⟨_, hD, ?_, fun b' o e => ?_, ?_⟩
          · rw [List.length_map, List.length_take, sizeLine_eq]
            simp only [List.length_cons, List.length_nil]
            omega
          · rw [upd_ne (ne_of_none e nD)]
            exact s3 _ _ e
          · rw [upd_same, List.take_add_one, edz, List.map_append, hb]
            rfl
        refine ⟨rfl, yesI ⟨z, rfl, z, .ty "int", _, _, _, rfl, .ty _, hdz.tyX, kitI dz, _, rfl, ite2 (fun e4 => ?_) (fun e4 => ?_)⟩⟩
        · refine ⟨z, rfl, z, .ty "bool", _, _, _, rfl, .ty _, hdz.tyX, kitO dz, _, rfl, _, rfl, ite2 (fun e5 => ?_) (fun e5 => ?_)⟩
          · cases hdz with
            | int i =>
              refine ⟨.int i, rfl, _, _, rfl, rfl, _, rfl, ite2 (fun e6 => ⟨_, _, rfl, rfl, fin _ ?_⟩) (fun e6 => fin _ ?_)⟩
              · show decide (i ≤ 99) = (decide (0 ≤ i) && decide (i ≤ 99))
                rw [e6, Bool.true_and]
              · show false = (decide (0 ≤ i) && decide (i ≤ 99))
                rw [Bool.eq_false_iff.mpr e6, Bool.false_and]
            | bl b => simp [tyD] at e5
            | non => simp [tyD] at e4
            | str x => simp [tyD] at e4
            | lst _ _ => simp [tyD] at e4
            | tup _ _ => simp [tyD] at e4
            | emp _ => simp [tyD] at e4
          · refine fin _ ?_
            cases hdz with
            | int i => simp [tyD] at e5
            | _ => rfl
        · refine fin _ ?_
          cases hdz with
          | int i => simp [tyD] at e4
          | _ => rfl
      · rintro H2 ⟨s3, hD⟩
        refine ⟨D, [isRoomD d1, isRoomD d2], rfl, SqL.of hD, _, rfl, ite2 (fun e4 => ?_) (fun e4 => ?_)⟩
        · refine bad H2 (s2.trans s3) ?_
          show (isRoomD d1 && isRoomD d2) = false
          cases z1 : isRoomD d1 <;> cases z2 : isRoomD d2 <;> simp_all
        · refine ⟨_, rfl, s2.trans s3, fun d hd => ?_⟩
          rw [List.take_add_one, edx] at hd
          rcases List.mem_append.mp hd with z | z
          · exact all d z
          · have : d = .tuple [d1, d2] := by simpa using z
            rw [this]
            simpa [twoD] using e4
    rintro σ H1 ⟨y, rfl, s2, all⟩
    rw [hl, List.take_length] at all
    obtain ⟨c, rfl, hc⟩ : ∃ c : List (Int × Int), ds = c.map wayD ∧ ∀ p ∈ c, (0 ≤ p.1 ∧ p.1 < 100) ∧ 0 ≤ p.2 ∧ p.2 < 100 := by
      refine ⟨ds.map pairOf, ?_, fun p hp => ?_⟩
      · refine List.ext_getElem (by simp) fun i h1 h2 => ?_
        rw [List.getElem_map, List.getElem_map]
        obtain ⟨p, e, _⟩ := two_inv (all _ (List.getElem_mem h1))
        rw [e]
        rfl
      · obtain ⟨d, hd, rfl⟩ := List.mem_map.mp hp
        obtain ⟨p, e, h⟩ := two_inv (all d hd)
        rw [e]
        exact h
    have cne : c ≠ [] := fun z => ne (by rw [z]; rfl)
    have val := isCave_two hc cne
    obtain ⟨a', ts, ea, hcv⟩ := Dq.cave (c := c) (Dq.up s2 _ hd)
    cases ea
    have lc : c.length < 64 := by simpa using l64
    have hT1 := hcv.sq
    refine ⟨.ref a, rfl, a, _, rfl, .inr hT1, fun l nl => ?_⟩
    dsimp only [gName]
    have s3 : Same H1 (upd H1 l (.lst (ts.map V.ref))) := same_upd nl
    have hL : upd H1 l (.lst (ts.map V.ref)) l = some (.lst (ts.map V.ref)) := upd_same
    generalize upd H1 l (HO.lst (List.map V.ref ts)) = H2 at s3 hL
    have hc2 := hcv.up s3
    generalize hks : (ts.zip c).map (fun q => (q.1, [q.2.1, q.2.2])) = ks
    have eks : ks.map (fun p => V.ref p.1) = ts.map V.ref := by
      rw [← hks, List.map_map]
      have z : (ts.zip c).map (·.1) = ts := List.map_fst_zip (by rw [hcv.len]; exact Nat.le_refl _)
      conv => rhs; rw [← z]
      rw [List.map_map]
      rfl
    have kin : ∀ p ∈ ks, ∃ q ∈ c, p.2 = [q.1, q.2] ∧ SqT K H2 p.1 [.int q.1, .int q.2] := fun p hp => by
      rw [← hks] at hp
      obtain ⟨q, hq, rfl⟩ := List.mem_map.mp hp
      obtain ⟨j, hj⟩ := List.getElem?_of_mem hq
      rw [List.getElem?_zip_eq_some] at hj
      exact ⟨q.2, List.mem_of_getElem? hj.2, rfl, hc2.it j q.1 q.2 hj.1 hj.2⟩
    have kout : ∀ q ∈ c, ∃ p ∈ ks, p.2 = [q.1, q.2] := fun q hq => by
      obtain ⟨j, hj⟩ := List.getElem?_of_mem hq
      have hjt : j < ts.length := by rw [hcv.len]; exact (List.getElem?_eq_some_iff.mp hj).1
      refine ⟨(ts[j], [q.1, q.2]), ?_, rfl⟩
      rw [← hks]
      exact List.mem_map.mpr ⟨(ts[j], q), List.mem_of_getElem? (i := j) (zip_get (List.getElem?_eq_getElem hjt) hj), rfl⟩
    have klen : ks.length < 64 := by
      have z := congrArg List.length eks
      rw [List.length_map, List.length_map, hcv.len] at z
      omega
    refine ⟨.ref l, rfl, .ref l, rfl, l, ks, rfl, (by rw [eks]; exact SqL.of hL), fun p hp => ?_, klen, fun S M nS sub cov => ?_⟩
    · obtain ⟨q', _, e1, e2⟩ := kin p hp
      rw [e1]
      exact e2
    refine ⟨S, M, 2, 100, rfl, upd_same, fun p hp => ?_, by decide, fun p hp => ?_, fun L' p pm nd lt pw np => ?_⟩
    · obtain ⟨q', _, e1, e2⟩ := kin p (sub p hp)
      rw [e1]
      exact SqT.up (same_upd nS) e2
    · obtain ⟨q', hq', e1, _⟩ := kin p (sub p hp)
      have b := hc q' hq'
      rw [e1]
      refine ⟨rfl, fun m hm => ?_⟩
      rcases List.mem_cons.mp hm with rfl | hm
      · exact b.1
      · rw [List.mem_singleton.mp hm]
        exact b.2
    have s4 : Same H2 (upd (upd H2 S (SetTO P w S M)) p (.lst (L'.map fun q => V.ref q.1))) := (same_upd nS).trans (same_upd np)
    have hp4 : upd (upd H2 S (SetTO P w S M)) p (.lst (L'.map fun q => V.ref q.1)) p = some (.lst (L'.map fun q => V.ref q.1)) := upd_same
    show rEqD K (V.ref l) (V.ref p) (upd (upd H2 S (SetTO P w S M)) p (HO.lst (List.map (fun q => V.ref q.fst) L'))) _
    generalize upd (upd H2 S (SetTO P w S M)) p (HO.lst (List.map (fun q => V.ref q.fst) L')) = H3 at s4 hp4
    have hc3 := hc2.up s4
    have lin : ∀ r ∈ L', ∃ q ∈ c, r.2 = [q.1, q.2] ∧ SqT K H2 r.1 [.int q.1, .int q.2] := fun r hr => kin r (sub r (pm.mem_iff.mp hr))
    have pin : ∀ r ∈ L', toP r.2 ∈ c ∧ r.2 = [(toP r.2).1, (toP r.2).2] ∧ SqT K H2 r.1 [.int (toP r.2).1, .int (toP r.2).2] := fun r hr => by
      obtain ⟨q', hq', e1, e2⟩ := lin r hr
      rw [e1]
      exact ⟨hq', rfl, e2⟩
    have memE : ∀ q', q' ∈ L'.map (fun r => toP r.2) ↔ q' ∈ c := fun q' => by
      rw [List.mem_map]
      constructor
      · rintro ⟨r, hr, rfl⟩
        exact (pin r hr).1
      · intro hq'
        obtain ⟨r, hr, e1⟩ := kout q' hq'
        obtain ⟨r', hr', e2⟩ := List.mem_map.mp (cov r hr)
        exact ⟨r', pm.mem_iff.mpr hr', by rw [e2, e1]; rfl⟩
    have ascE : (L'.map fun r => toP r.2).Pairwise (fun p q => cdW p < cdW q) := by
      rw [List.pairwise_map]
      have nd' : L'.Pairwise (fun r r' => r.2 ≠ r'.2) := List.pairwise_map.mp nd
      refine List.Pairwise.imp_of_mem (fun {r r'} hr hr' z => ?_) (pw.and nd')
      obtain ⟨p1, p2, _⟩ := pin r hr
      obtain ⟨q1, q2, _⟩ := pin r' hr'
      obtain ⟨z1, z2⟩ := z
      rw [p2, q2, code100, code100] at z1
      have ne2 : cdW (toP r.2) ≠ cdW (toP r'.2) := fun e => z2 (by rw [p2, q2, cdW_inj2 (hc _ p1) (hc _ q1) e])
      unfold cdW at ne2 ⊢
      omega
    refine ⟨.list (c.map wayD), .list ((L'.map fun r => toP r.2).map wayD), .lst (SqL.of (s4 _ _ hL)) ?_, .lst (SqL.of hp4) ?_, shaped_ways _, shaped_ways _, ?_⟩
    · refine DpAll.of_get (by rw [List.length_map, List.length_map, hcv.len]) fun i x d h1 h2 => ?_
      obtain ⟨t', ht, rfl⟩ := map_get h1
      obtain ⟨p', hp', hw⟩ := cv_get hc3 ht
      rw [List.getElem?_map, hp'] at h2
      cases h2
      exact dp_way hw
    · refine DpAll.of_get (by rw [List.length_map, List.length_map, List.length_map]) fun i x d h1 h2 => ?_
      obtain ⟨r, hr', rfl⟩ := map_get h1
      rw [List.getElem?_map, List.getElem?_map, hr'] at h2
      cases h2
      exact dp_way (SqT.up s4 (pin r (List.mem_of_getElem? hr')).2.2)
    have ev : PyData.eqv (.list (c.map wayD)) (.list ((L'.map fun r => toP r.2).map wayD)) = decide (c.Pairwise fun p q => ltP p q = true) := by
      simp only [PyData.eqv]
      rw [eqv_ways, asc_iff hc memE ascE]
    rw [ev]
    refine ⟨_, rfl, ite2 (fun e1 => ?_) (fun e1 => ?_)⟩
    · refine ⟨.ref l, rfl, l, rfl, ⟨_, SqL.of (s4 _ _ hL)⟩, fun D nD => walkL (K := K) (a := l) (xs := ts.map V.ref) (fun j H' => Same H3 H' ∧ H' D = some (.lst ((c.take j).map fun p => V.bl (decide (p.1 < p.2))))) ⟨same_upd nD, upd_same⟩
        (fun j H' ⟨s', _⟩ => SqL.of (s' _ _ (s4 _ _ hL))) (fun j x H4 hx ⟨s5, hD⟩ => ?_) (fun H4 ⟨s5, hD⟩ => ?_)⟩
      · obtain ⟨t', ht, rfl⟩ := map_get hx
        obtain ⟨p', hp', hw⟩ := cv_get (hc3.up s5) ht
        refine ⟨rfl, yesI ⟨.ref t', rfl, t', _, 0, .int p'.1, rfl, rfl, hw, atI_nat (j := 0) rfl, .ref t', rfl, t', _, 1, .int p'.2, rfl, rfl, hw, atI_nat (j := 1) rfl, _, _, rfl, rfl, _, hD, ?_, fun b o e => ?_, ?_⟩⟩
        · rw [List.length_map, List.length_take, sizeLine_eq]
          omega
        · rw [upd_ne (ne_of_none e nD)]
          exact s5 _ _ e
        · rw [upd_same, List.take_add_one, hp', List.map_append]
          rfl
      · rw [List.length_map, hcv.len, List.take_length] at hD
        refine ⟨D, c.map fun p => decide (p.1 < p.2), rfl, SqL.of (by rw [hD, List.map_map]; rfl), ?_⟩
        have z := q H4 (s2.trans (s3.trans (s4.trans s5)))
        rw [show isCaveD (.tuple (c.map wayD)) = _ from val, e1, Bool.true_and] at z
        rw [List.all_map]
        exact z
    · have z := q H3 (s2.trans (s3.trans s4))
      rw [show isCaveD (.tuple (c.map wayD)) = _ from val, Bool.eq_false_iff.mpr e1, Bool.false_and] at z
      exact z
end
end Cv

/-! drawn items, trees, caves -/
namespace Cv
open PySem PySem.Spec PyProof.Rows L2 CvT CvS CvW CvD
abbrev sSome : Stmt := topS 19
abbrev nSome : List Str := ["pen", "pool", "most", "rest", "lap"]
theorem scSome : FnScope nSome ["pen", "pool", "most"] (defScope sSome) := ⟨rfl, rfl, rfl, by decide +kernel, rfl, by decide +kernel, by decide +kernel⟩
theorem PenAt.keepU {H : Hp} {p l c : Addr} {N : Nat} {u : HO} (P : PenAt H p l N) (h1 : c ≠ p) (h2 : c ≠ l) : PenAt (upd H c u) p l N := by
  obtain ⟨⟨i, r, e, h⟩, ⟨ns, e2, h2'⟩, ne⟩ := P
  exact ⟨⟨i, r, by rw [upd_ne h1.symm]; exact e, h⟩, ⟨ns, by rw [upd_ne h2.symm]; exact e2, h2'⟩, ne⟩
theorem PenAt.at {H : Hp} {p l : Addr} {N : Nat} (P : PenAt H p l N) : (∃ o, H p = some o) ∧ ∃ o, H l = some o := by
  obtain ⟨⟨i, r, e, h⟩, ⟨ns, e2, _⟩, _⟩ := P
  exact ⟨⟨_, e⟩, _, e2⟩
theorem penNe {H : Hp} {p l c : Addr} {N : Nat} (P : PenAt H p l N) (h : H c = none) : c ≠ p ∧ c ≠ l := by
  obtain ⟨⟨o, e⟩, o2, e2⟩ := P.at
  exact ⟨(ne_of_none e h).symm, (ne_of_none e2 h).symm⟩
theorem But.free {p c : Addr} {H H' : Hp} (b : But p H H') (ne : c ≠ p) (h : H' c = none) : H c = none := by
  cases e : H c with
  | none => rfl
  | some o =>
    have := b _ _ e ne
    rw [h] at this
    cases this
theorem But.updN' {p c : Addr} {H H' : Hp} {u : HO} (b : But p H H') (h : H c = none) : But p H (L2.upd H' c u) := fun x o e n => by
  rw [upd_ne (ne_of_none e h)]
  exact b x o e n
theorem sqL_but {K : PySem.W.Frag} {p a : Addr} {H H' : Hp} {xs : List V} (b : But p H H') (ne : a ≠ p) (h : SqL K H a xs) : SqL K H' a xs := by
  rcases h with (h | ⟨o, h⟩) | h
  · exact .inl (.inl (b _ _ h ne))
  · exact .inl (.inr ⟨o, b _ _ h ne⟩)
  · exact .inr h
theorem six {d : Int} {n : Nat} (h0 : 0 ≤ d) (h1 : d < n) : seqIndex? d n = some d.toNat := by
  unfold seqIndex?
  simp only []
  rw [if_neg (show ¬ d < 0 by omega)]
  simp [h0, h1]
/-- some of a list's items, in a drawn order -/
def spSome (K : PySem.W.Frag) : Sp := fun vs H Q _ => ∃ (p l b : Addr) (N : Nat) (xs : List V) (m : Int), vs = [.ref p, .ref b, .int m] ∧ PenAt H p l N ∧ N < 1000000 ∧ SqL K H b xs ∧ xs.length ≤ 1000 ∧ 0 ≤ m ∧
  ∀ H' r (ys zs : List V), But p H H' → H r = none → H' r = some (.lst ys) → PenAt H' p l (N + 2000) → (ys ++ zs).Perm xs → (ys.length : Int) ≤ m → Q (.ref r) H'
section
variable {P : Program} {w : World} {K : PySem.W.Frag} {mg : Str → Option Value} {base : Heap}
theorem ok_some {f fD : Addr} {fd dD : FuncData} {k : Nat} (F : Fun K "_law_some" "_law_some" sSome f fd) (T : TxtI mg) (GD : FnOk P w K mg base CX0 (k + 2) fD dD ["pen", "under"] spDraw) (bD : Binds K dD ["pen", "under"] []) (gD : mg "_law_draw" = some (.ref fD)) (kD : PySem.W.keepIn K (.ref fD) = true) :
    FnOk P w K mg base CX0 (k + 3) f fd ["pen", "pool", "most"] (spSome K) := by
  refine F.ok scSome (fun vs H Q E h => ?_) (fun cdv A outer s H vs Q E hr h => ?_)
  · obtain ⟨p, l, b, N, xs, m, rfl, _⟩ := h
    rfl
  · obtain ⟨p, l, b, N, xs, m, rfl, PA0, hN, hb, hx, hm, q⟩ := h
    refine ⟨_, pss_cons (ps_set (i := 3) scSome.nd rfl (.inr rfl) (pe_callTy call_list_of (by rfl) T.list (by decide +kernel) (pa_cons (pv 1) pa_nil)))
      (pss_one (ps_ret (pe_lc (own := [("lap", 4)]) (g := gName 4) (tt := tYes)
        (te := tBM K "list" rPopAt (tVar 3) (tCons (tCall spDraw [] E0 (tCons (tVar 0) (tCons (tCB (fun xs H Q => ∃ p ys, xs = [.ref p] ∧ (SqL K H p ys ∨ SqT K H p ys) ∧ Q (.int ys.length) H) (tCons (tVar 3) tNil)) tNil))) tNil)) rfl scSome.nd
        (pi_range1 (by rfl) T.rng (pa_cons (pe_call GD hr (by rfl) gD kD bD .nil pass0 (pa_cons (pv 0) (pa_cons (pe_op op_add (pe_callB (call_min2 rfl) (by rfl) T.min (by decide +kernel) (pa_cons (pv 2) (pa_cons (pe_callB call_len_seq (by rfl) T.len PySem.boot_len (pa_cons (pv 3) pa_nil)) pa_nil))) pe_int) pa_nil))) pa_nil))
        (blkOk_by (own := [("lap", 4)]) (N := nSome) (sc := defScope sSome) (by decide +kernel)) (fun _ _ _ _ _ => pg_name (i := 4) scSome.nd rfl (.inl rfl)) (fun _ _ _ _ _ => pts_nil)
        (fun _ _ _ _ _ => pe_bm PySem.F.plainAttrs_list PySem.F.slot_list_pop PySem.F.type_list_pop mt_popAt (pv 3) (pa_cons (pe_call GD hr (by rfl) gD kD bD .nil pass0 (pa_cons (pv 0) (pa_cons (pe_callB call_len_seq (by rfl) T.len PySem.boot_len (pa_cons (pv 3) pa_nil)) pa_nil))) pa_nil))))), ?_⟩
    refine ⟨.ref b, rfl, b, xs, rfl, .inl hb, fun c nc => ?_⟩
    dsimp only [gName]
    obtain ⟨cp, cl⟩ := penNe PA0 nc
    have b1 : But p H (upd H c (.lst xs)) := (But.refl p H).updN' nc
    have PA1 : PenAt (upd H c (.lst xs)) p l N := PA0.keepU cp cl
    have hc1 : upd H c (.lst xs) c = some (.lst xs) := upd_same
    generalize upd H c (HO.lst xs) = H1 at b1 PA1 hc1
    have u0 : 0 < (if ((xs.length : Nat) : Int) < m then ((xs.length : Nat) : Int) else m) + 1 := by split <;> omega
    have u1 : (if ((xs.length : Nat) : Int) < m then ((xs.length : Nat) : Int) else m) + 1 < 1073741824 := by split <;> omega
    refine ⟨.ref p, rfl, .int m, rfl, .ref c, rfl, c, _, rfl, .inl (SqL.of hc1), m, _, rfl, _, _, rfl, rfl, p, l, N, _, rfl, PA1, by omega, u0, u1, fun H2 d d0 d1 PA2 b2 => ⟨d, rfl, by omega, ?_, fun D nD => ?_⟩⟩
    · have := u1
      omega
    have hd : d ≤ m ∧ d ≤ (xs.length : Int) := by
      by_cases z : ((xs.length : Nat) : Int) < m
      · rw [if_pos z] at d1
        omega
      · rw [if_neg z] at d1
        omega
    have hc2 : H2 c = some (.lst xs) := b2 _ _ hc1 cp
    have nDH : H D = none := by
      cases e : H D with
      | none => rfl
      | some o =>
        by_cases z : D = p
        · obtain ⟨⟨o', e'⟩, _⟩ := PA2.at
          rw [z, e'] at nD
          cases nD
        · have := b2 _ _ (b1 _ _ e z) z
          rw [nD] at this
          cases this
    obtain ⟨Dp, Dl⟩ := penNe PA2 nD
    have Dc : D ≠ c := fun e => by rw [e, hc2] at nD; cases nD
    refine walkR (lo := 0) (n := d.toNat) (fun j H' => But p H H' ∧ PenAt H' p l (N + 1 + j) ∧ ∃ ys zs : List V, H' D = some (.lst ys) ∧ H' c = some (.lst zs) ∧ (ys ++ zs).Perm xs ∧ ys.length = j)
      ⟨(b1.trans b2).updN' nDH, PA2.keepU Dp Dl, [], xs, upd_same, by rw [upd_ne Dc.symm]; exact hc2, List.Perm.refl _, rfl⟩ ?_ ?_
    · rintro j H3 hj ⟨b3, PA3, ys, zs, hD3, hc3, pm, hl⟩
      have lz : zs.length = xs.length - j := by
        have := pm.length_eq
        rw [List.length_append] at this
        omega
      have zpos : 0 < zs.length := by omega
      refine ⟨rfl, yesI ⟨.ref c, rfl, .inl ⟨rfl, _, SqL.of hc3⟩, .ref p, rfl, .ref c, rfl, c, _, rfl, .inl (SqL.of hc3), p, l, N + 1 + j, _, rfl, PA3, by omega, by omega, by omega, fun H4 e e0 e1 PA4 b4 => ?_⟩⟩
      have hc4 : H4 c = some (.lst zs) := b4 _ _ hc3 cp
      have hD4 : H4 D = some (.lst ys) := b4 _ _ hD3 Dp
      have ek : e.toNat < zs.length := by omega
      refine ⟨c, zs, e, e.toNat, zs[e.toNat], rfl, rfl, hc4, by omega, by omega, six e0 e1, List.getElem?_eq_getElem ek, ys, by rw [upd_ne Dc]; exact hD4, by rw [sizeLine_eq]; omega, ((b3.trans b4).updN' nc).updN' nDH, ?_, ys ++ [zs[e.toNat]], zs.eraseIdx e.toNat, upd_same, ?_, ?_, ?_⟩
      · exact ((PA4.keepU cp cl).keepU Dp Dl).more (by omega)
      · rw [upd_ne Dc.symm]
        exact upd_same
      · refine List.Perm.trans ?_ pm
        rw [List.append_assoc]
        exact List.Perm.append_left ys (erase_perm zs e.toNat _ (List.getElem?_eq_getElem ek))
      · rw [List.length_append, hl]
        rfl
    · rintro H3 ⟨b3, PA3, ys, zs, hD3, hc3, pm, hl⟩
      exact q H3 D ys zs b3 nDH hD3 (PA3.more (by omega)) pm (by omega)
end
end Cv

/-! drawn trees -/
namespace Cv
open PySem PySem.Spec PyProof.Rows L2 CvT CvS CvW CvD
theorem sqT_but {K : PySem.W.Frag} {p l a : Addr} {N : Nat} {H H' : Hp} {xs : List V} (P : PenAt H p l N) (b : But p H H') (h : SqT K H a xs) : SqT K H' a xs := by
  obtain ⟨⟨i, r, e, _⟩, _⟩ := P
  rcases h with (h | ⟨o, h⟩) | h
  · exact .inl (.inl (b _ _ h fun z => by rw [z, e] at h; cases h))
  · exact .inl (.inr ⟨o, b _ _ h fun z => by rw [z, e] at h; cases h⟩)
  · exact .inr h
theorem CvAt.but {K : PySem.W.Frag} {p l a : Addr} {N : Nat} {H H' : Hp} {ts : List Addr} {c : List (Int × Int)} (P : PenAt H p l N) (b : But p H H') (h : CvAt K H a ts c) : CvAt K H' a ts c :=
  ⟨sqT_but P b h.sq, h.len, fun i t q h1 h2 => sqT_but P b (h.it i t q h1 h2)⟩
theorem CvAt.dq {K : PySem.W.Frag} {a : Addr} {H : Hp} {ts : List Addr} {c : List (Int × Int)} (h : CvAt K H a ts c) : Dq K H (.ref a) (caveD c) :=
  .tup h.sq (DqAll.of_get (by rw [List.length_map, List.length_map, h.len]) fun i x d h1 h2 => by
    obtain ⟨t, ht, rfl⟩ := map_get h1
    obtain ⟨p, hp, hw⟩ := cv_get h ht
    rw [List.getElem?_map, hp] at h2
    cases h2
    exact .tup hw (.cons (.int _) (.cons (.int _) .nil)))
/-- the pair that a tuple holds -/
def kH (H : Hp) : V → Int × Int
  | .ref t => (match H t with | some (.tup [.int i, .int j]) => (i, j) | _ => (0, 0))
  | _ => (0, 0)
theorem kH_at {H : Hp} {t : Addr} {p : Int × Int} (h : H t = some (.tup [.int p.1, .int p.2])) : kH H (.ref t) = p := by
  show (match H t with | some (.tup [.int i, .int j]) => (i, j) | _ => (0, 0)) = p
  rw [h]
theorem mk_cave {K : PySem.W.Frag} {H H' : Hp} {xs ys : List V} {a : Addr} (hx : ∀ x ∈ xs, ∃ (t : Addr) (p : Int × Int), x = .ref t ∧ H t = some (.tup [.int p.1, .int p.2]) ∧ RgW p) (nd : (xs.map (kH H)).Nodup) (ne : xs ≠ []) (pm : ys.Perm xs)
    (st : ys.Pairwise fun x y => SrtO.lexB (kH H y) (kH H x) = false) (s : Same H H') (ha : H' a = some (.tup ys)) : ∃ ts, CvAt K H' a ts (ys.map (kH H)) ∧ Good (ys.map (kH H)) := by
  have all : ∀ y ∈ ys, ∃ (t : Addr) (p : Int × Int), y = .ref t ∧ H t = some (.tup [.int p.1, .int p.2]) ∧ RgW p ∧ kH H y = p := fun y hy => by
    obtain ⟨t, p, rfl, h, r⟩ := hx y (pm.mem_iff.mp hy)
    exact ⟨t, p, rfl, h, r, kH_at h⟩
  have ets : ys = (ys.map fun y => match y with | .ref t => t | _ => 0).map V.ref := by
    rw [List.map_map]
    refine (List.map_id ys).symm.trans (List.map_congr_left fun y hy => ?_)
    obtain ⟨t, p, rfl, _⟩ := all y hy
    rfl
  refine ⟨ys.map fun y => match y with | .ref t => t | _ => 0, ⟨by rw [← ets]; exact SqT.of ha, by rw [List.length_map, List.length_map], fun i t p h1 h2 => ?_⟩, fun p hp => ?_, ?_, ?_⟩
  · rw [List.getElem?_map] at h1 h2
    cases e : ys[i]? with
    | none => rw [e] at h1; cases h1
    | some y =>
      rw [e] at h1 h2
      obtain ⟨t', p', rfl, h, _, k⟩ := all y (List.mem_of_getElem? e)
      cases h1
      cases h2
      rw [k]
      exact SqT.of (s _ _ h)
  · obtain ⟨y, hy, rfl⟩ := List.mem_map.mp hp
    obtain ⟨t', p', rfl, h, r, k⟩ := all y hy
    rw [k]
    exact r
  · rw [List.pairwise_map]
    have nd' : ys.Pairwise fun x y => kH H x ≠ kH H y := List.pairwise_map.mp ((pm.map (kH H)).nodup_iff.mpr nd)
    refine (st.and nd').imp fun {x y} ⟨z1, z2⟩ => ?_
    have no := SrtO.lexB_no.mp z1
    rw [ltP_iff]
    have : ¬ (kH H x).1 = (kH H y).1 ∨ ¬ (kH H x).2 = (kH H y).2 := by
      by_cases e1 : (kH H x).1 = (kH H y).1
      · exact .inr fun e2 => z2 (Prod.ext e1 e2)
      · exact .inl e1
    omega
  · intro z
    have : ys = [] := List.map_eq_nil_iff.mp z
    rw [this] at pm
    exact ne pm.symm.eq_nil
theorem atI_int {α : Type} {xs : List α} {i : Int} {v : α} (h0 : 0 ≤ i) (h : xs[i.toNat]? = some v) : atI xs i = some v := by
  have z := atI_nat h
  rw [Int.toNat_of_nonneg h0] at z
  exact z
theorem penNo {H H' : Hp} {p l : Addr} {N : Nat} {c : Addr} (P : PenAt H' p l N) (b : But p H H') (h : H' c = none) : H c = none := by
  cases e : H c with
  | none => rfl
  | some o =>
    by_cases z : c = p
    · obtain ⟨⟨o', e'⟩, _⟩ := P.at
      rw [z, e'] at h
      cases h
    · have := b _ _ e z
      rw [h] at this
      cases this
def R0 : List Int := [3, 0, 12, 1, 99, 2, 7, 50, 8, 20, 21, 33]
abbrev sTr : Stmt := topS 20
abbrev nTr : List Str := ["pen", "most", "rooms", "ways", "k", "one"]
theorem scTr : FnScope nTr ["pen", "most"] (defScope sTr) := ⟨rfl, rfl, rfl, by decide +kernel, rfl, by decide +kernel, by decide +kernel⟩
/-- a drawn cave -/
def spTr (K : PySem.W.Frag) : Sp := fun vs H Q _ => ∃ (p l : Addr) (N : Nat) (m : Int), vs = [.ref p, .int m] ∧ PenAt H p l N ∧ N < 1000000 ∧ 1 ≤ m ∧ m ≤ 11 ∧
  ∀ H' a ts c, But p H H' → CvAt K H' a ts c → Good c → c.length ≤ 11 → PenAt H' p l (N + 3000) → Q (.ref a) H'
section
variable {P : Program} {w : World} {K : PySem.W.Frag} {mg : Str → Option Value} {base : Heap}
theorem ok_tr {f fD : Addr} {fd dD : FuncData} {k : Nat} (F : Fun K "_law_tree" "_law_tree" sTr f fd) (T : TxtI mg) (GD : FnOk P w K mg base CX0 (k + 2) fD dD ["pen", "under"] spDraw) (bD : Binds K dD ["pen", "under"] []) (gD : mg "_law_draw" = some (.ref fD)) (kD : PySem.W.keepIn K (.ref fD) = true) :
    FnOk P w K mg base CX0 (k + 3) f fd ["pen", "most"] (spTr K) := by
  refine F.ok scTr (fun vs H Q E h => ?_) (fun cdv A outer s H vs Q E hr h => ?_)
  · obtain ⟨p, l, N, m, rfl, _⟩ := h
    rfl
  · obtain ⟨p, l, N, m, rfl, PA0, hN, m1, m11, q⟩ := h
    refine ⟨_, pss_cons (ps_par (i := 2) (j := 3) rfl scTr.nd rfl rfl (by decide) rfl rfl (pa_cons (pe_lst (pa_cons pe_int (pa_cons pe_int (pa_cons pe_int (pa_cons pe_int (pa_cons pe_int (pa_cons pe_int (pa_cons pe_int (pa_cons pe_int (pa_cons pe_int (pa_cons pe_int (pa_cons pe_int (pa_cons pe_int pa_nil))))))))))))) (pa_cons (pe_lst pa_nil) pa_nil)) (by rfl))
      (C8.pss_cut (ps_if (pt_cmpR op_eq (pe_call GD hr (by rfl) gD kD bD .nil pass0 (pa_cons (pv 0) (pa_cons pe_int pa_nil))) pe_int (nomark _)) (pss_one (ps_set (i := 2) scTr.nd rfl (.inl rfl) (pe_callB cr_sortedI (by rfl) T.srt (by decide +kernel) (pa_cons (pv 2) pa_nil)))) pss_nil)
      (pss_cons (ps_for PassesOwn.never rfl (pi_range1 (by rfl) T.rng (pa_cons (pe_op op_add pe_int (pe_call GD hr (by rfl) gD kD bD .nil pass0 (pa_cons (pv 0) (pa_cons (pv 1) pa_nil)))) pa_nil)) (pg_name (i := 4) scTr.nd rfl (.inl rfl))
        (pss_cons (ps_set (i := 5) scTr.nd rfl (.inl rfl) (pe_ix ix_list (pv 2) (pe_ix ix_list (pe_lst (pa_cons (pe_call GD hr (by rfl) gD kD bD .nil pass0 (pa_cons (pv 0) (pa_cons (pe_op op_add (pv 4) pe_int) pa_nil))) (pa_cons (pv 4) (pa_cons pe_int pa_nil))))
            (pe_call GD hr (by rfl) gD kD bD .nil pass0 (pa_cons (pv 0) (pa_cons pe_int pa_nil))) (fun _ _ => rfl)) (fun _ _ => rfl)))
        (pss_one (ps_expr (pe_bm PySem.F.plainAttrs_list PySem.F.slot_list_append PySem.F.type_list_append mt_append (pv 3) (pa_cons (pe_tup
            (pa_cons (pe_callB (call_min2 rfl) (by rfl) T.min (by decide +kernel) (pa_cons (pv 5) (pa_cons (pe_ix ix_list (pv 2) (pe_op op_add (pv 4) pe_int) (fun _ _ => rfl)) pa_nil)))
            (pa_cons (pe_callB (call_max2 rfl) (by rfl) T.max (by decide +kernel) (pa_cons (pv 5) (pa_cons (pe_ix ix_list (pv 2) (pe_op op_add (pv 4) pe_int) (fun _ _ => rfl)) pa_nil))) pa_nil))) pa_nil))))))
      (pss_one (ps_ret (pe_callTy call_tuple_of (by rfl) T.tup (by decide +kernel) (pa_cons (pe_callB cr_sortedPO (by rfl) T.srt (by decide +kernel) (pa_cons (pv 3) pa_nil)) pa_nil)))))), ?_⟩
    refine ⟨(by show 12 ≤ sizeLine; decide), fun R nR => ⟨Nat.zero_le _, fun W nW => ⟨_, _, rfl, ?_⟩⟩⟩
    have nWH : H W = none := (same_upd nR).free nW
    have RW : R ≠ W := fun e => by rw [e, upd_same] at nW; cases nW
    obtain ⟨Rp, Rl⟩ := penNe PA0 nR
    obtain ⟨Wp, Wl⟩ := penNe PA0 nWH
    have b2 : But p H (upd (upd H R (.lst (R0.map V.int))) W (.lst [])) := ((But.refl p H).updN' nR).updN' nWH
    have PA2 : PenAt (upd (upd H R (.lst (R0.map V.int))) W (.lst [])) p l N := (PA0.keepU Rp Rl).keepU Wp Wl
    have hR2 : upd (upd H R (.lst (R0.map V.int))) W (.lst []) R = some (.lst (R0.map V.int)) := by rw [upd_ne RW]; exact upd_same
    have hW2 : upd (upd H R (.lst (R0.map V.int))) W (.lst []) W = some (.lst []) := upd_same
    refine ⟨fun σ H' => ∃ (S : Addr) (rs : List Int), σ = [some (.ref p), some (.int m), some (.ref S), some (.ref W), none, none] ∧ But p H H' ∧ PenAt H' p l (N + 1) ∧ H S = none ∧ S ≠ W ∧ H' S = some (.lst (rs.map V.int)) ∧ rs.Perm R0 ∧ H' W = some (.lst []), ?_, ?_⟩
    · show tIfS _ _ _ _ _ (upd (upd H R (.lst (R0.map V.int))) W (.lst []))
      generalize upd (upd H R (HO.lst (List.map V.int R0))) W (HO.lst []) = H2 at b2 PA2 hR2 hW2
      refine ⟨.ref p, rfl, p, l, N, 2, rfl, PA2, by omega, by decide, by decide, fun H3 d d0 d1 PA3 b3 => ⟨rfl, _, rfl, ite2 (fun e => ?_) (fun e => ?_)⟩⟩
      · refine ⟨.ref R, rfl, R, R0, rfl, SqL.of (b3 _ _ hR2 Rp), fun ns S pm _ nS => ⟨S, ns, rfl, ?_, ?_, ?_, ?_, upd_same, pm, ?_⟩⟩
        · have nSH : H S = none := by
            cases e : H S with
            | none => rfl
            | some o =>
              by_cases z : S = p
              · obtain ⟨⟨o', e'⟩, _⟩ := PA3.at
                rw [z, e'] at nS
                cases nS
              · have := b3 _ _ (b2 _ _ e z) z
                rw [nS] at this
                cases this
          exact (b2.trans b3).updN' nSH
        · obtain ⟨Sp, Sl⟩ := penNe PA3 nS
          exact PA3.keepU Sp Sl
        · cases e : H S with
          | none => rfl
          | some o =>
            by_cases z : S = p
            · obtain ⟨⟨o', e'⟩, _⟩ := PA3.at
              rw [z, e'] at nS
              cases nS
            · have := b3 _ _ (b2 _ _ e z) z
              rw [nS] at this
              cases this
        · exact fun e => by rw [e, b3 _ _ hW2 Wp] at nS; cases nS
        · rw [upd_ne (fun e => by rw [← e, b3 _ _ hW2 Wp] at nS; cases nS)]
          exact b3 _ _ hW2 Wp
      · exact ⟨R, R0, rfl, b2.trans b3, PA3, nR, RW, b3 _ _ hR2 Rp, List.Perm.refl _, b3 _ _ hW2 Wp⟩
    · rintro σ H3 ⟨S, rs, rfl, b3, PA3, nS, SW, hS3, pm, hW3⟩
      have Sp : S ≠ p := (penNe PA0 nS).1
      have ndR : rs.Nodup := pm.nodup_iff.mpr (by decide)
      have rgR : ∀ r ∈ rs, 0 ≤ r ∧ r ≤ 99 := fun r hr => (by decide : ∀ r ∈ R0, 0 ≤ r ∧ r ≤ 99) r (pm.mem_iff.mp hr)
      have lenR : rs.length = 12 := pm.length_eq
      refine ⟨.ref p, rfl, .int m, rfl, p, l, N + 1, m, rfl, PA3, by omega, by omega, by omega, fun H4 d d0 d1 PA4 b4 => ⟨1, d, rfl, rfl, 1 + d, rfl, by omega, by omega, ?_⟩⟩
      refine for_range (lo := 0) (n := (1 + d).toNat) (fun i σ H' => ∃ x y ts cs, σ = [some (.ref p), some (.int m), some (.ref S), some (.ref W), x, y] ∧ But p H H' ∧ PenAt H' p l (N + 2 + 2 * i) ∧ H' S = some (.lst (rs.map V.int)) ∧ H' W = some (.lst (ts.map V.ref)) ∧ ts.length = i ∧ cs.length = i ∧
        (∀ (j : Nat) (t : Addr) (q : Int × Int), ts[j]? = some t → cs[j]? = some q → H' t = some (.tup [.int q.1, .int q.2])) ∧ cs.Nodup ∧ ∀ q ∈ cs, RgW q ∧ q.1 ∈ rs.take (i + 1) ∧ q.2 ∈ rs.take (i + 1))
        ⟨_, _, [], [], rfl, b3.trans b4, PA4, b4 _ _ hS3 Sp, b4 _ _ hW3 Wp, rfl, rfl, fun j t q h => by simp at h, List.nodup_nil, fun q h => by simp at h⟩ ?_ ?_
      · rintro i σ H5 hi ⟨x, y, ts, cs, rfl, b5, PA5, hS5, hW5, lt, lc, al, nd, rg⟩
        have hi11 : i < 11 := by omega
        have e0i : (0 : Int) + (i : Nat) = ((i : Nat) : Int) := by omega
        rw [e0i]
        refine ⟨.ref S, rfl, .ref p, rfl, .int (i : Nat), rfl, _, _, rfl, rfl, p, l, _, _, rfl, PA5, by omega, by omega, by omega, fun H6 d2 d20 d21 PA6 b6 => ⟨.int (i : Nat), rfl, (by show 3 ≤ sizeLine; decide), fun Z nZ => ?_⟩⟩
        have nZH := penNo PA6 (b5.trans b6) nZ
        obtain ⟨Zp, Zl⟩ := penNe PA6 nZ
        have PA7 : PenAt (upd H6 Z (.lst [.int d2, .int (i : Nat), .int 0])) p l (N + 2 + 2 * i + 1) := PA6.keepU Zp Zl
        have b7 : But p H (upd H6 Z (.lst [.int d2, .int (i : Nat), .int 0])) := (b5.trans b6).updN' nZH
        have hZ7 : upd H6 Z (.lst [.int d2, .int (i : Nat), .int 0]) Z = some (.lst [.int d2, .int (i : Nat), .int 0]) := upd_same
        have b67 : But p H5 (upd H6 Z (.lst [.int d2, .int (i : Nat), .int 0])) := b6.updN' (penNo PA6 b6 nZ)
        generalize upd H6 Z (HO.lst [V.int d2, V.int (i : Nat), V.int 0]) = H7 at PA7 b7 hZ7 b67
        refine ⟨.ref p, rfl, p, l, _, 3, rfl, PA7, by omega, by decide, by decide, fun H8 d3 d30 d31 PA8 b8 => ?_⟩
        obtain ⟨v, hv, v0, v1⟩ : ∃ v : Int, ([.int d2, .int (i : Nat), .int 0] : List V)[d3.toNat]? = some (.int v) ∧ 0 ≤ v ∧ v ≤ (i : Int) := by
          have : d3 = 0 ∨ d3 = 1 ∨ d3 = 2 := by omega
          rcases this with rfl | rfl | rfl
          · exact ⟨d2, rfl, d20, by omega⟩
          · exact ⟨_, rfl, by omega, Int.le_refl _⟩
          · exact ⟨0, rfl, Int.le_refl _, by omega⟩
        have b58 : But p H5 H8 := b67.trans b8
        have vlt : v.toNat < rs.length := by omega
        have one : (rs.map V.int)[v.toNat]? = some (.int rs[v.toNat]) := by rw [List.getElem?_map, List.getElem?_eq_getElem vlt]; rfl
        have nxt : (rs.map V.int)[i + 1]? = some (.int (rs[i + 1]'(by omega))) := by rw [List.getElem?_map, List.getElem?_eq_getElem (show i + 1 < rs.length by omega)]; rfl
        have hS8 := b58 _ _ hS5 Sp
        have hW8 := b58 _ _ hW5 Wp
        refine ⟨Z, _, d3, .int v, rfl, rfl, SqL.of (b8 _ _ hZ7 Zp), atI_int d30 hv, S, _, v, _, rfl, rfl, SqL.of hS8, atI_int v0 one, ?_⟩
        have oin : rs[v.toNat] ∈ rs.take (i + 1) := by
          rw [List.mem_take_iff_getElem]
          exact ⟨v.toNat, by omega, rfl⟩
        have nin : (rs[i + 1]'(by omega)) ∉ rs.take (i + 1) := fun z => by
          obtain ⟨j, hj, ej⟩ := List.getElem_of_mem z
          rw [List.getElem_take] at ej
          rw [List.length_take] at hj
          exact absurd ej (List.pairwise_iff_getElem.mp ndR j (i + 1) (by omega) (by omega) (by omega))
        have nmem : (rs[i + 1]'(by omega)) ∈ rs := List.getElem_mem _
        have omem : rs[v.toNat] ∈ rs := List.getElem_mem _
        have ne : rs[v.toNat] ≠ (rs[i + 1]'(by omega)) := fun z => nin (z ▸ oin)
        have inn : (rs[i + 1]'(by omega)) ∈ rs.take (i + 1 + 1) := by
          rw [List.mem_take_iff_getElem]
          exact ⟨i + 1, by omega, rfl⟩
        have up : ∀ r, r ∈ rs.take (i + 1) → r ∈ rs.take (i + 1 + 1) := fun r hr => by
          rw [List.take_add_one]
          exact List.mem_append_left _ hr
        generalize rs[v.toNat] = o at one oin omem ne
        generalize (rs[i + 1]'(by omega)) = r at nxt nin nmem ne inn
        have ix : atI (rs.map V.int) (((i : Nat) : Int) + 1) = some (.int r) := atI_int (by omega) (by rw [show ((((i : Nat) : Int) + 1).toNat) = i + 1 by omega]; exact nxt)
        refine ⟨.ref W, rfl, .inl ⟨rfl, _, SqL.of hW8⟩, .int o, rfl, .ref S, rfl, .int (i : Nat), rfl, _, _, rfl, rfl, S, _, _, _, rfl, rfl, SqL.of hS8, ix, _, _, rfl, .int o, rfl, .ref S, rfl, .int (i : Nat), rfl, _, _, rfl, rfl, S, _, _, _, rfl, rfl, SqL.of hS8, ix, _, _, rfl, (by show 2 ≤ sizeLine; decide), fun t nt => ?_⟩
        have ro := rgR o omem
        have rr := rgR r nmem
        obtain ⟨mm, hmm⟩ : ∃ mm : Int × Int, mm = (if r < o then r else o, if r > o then r else o) := ⟨_, rfl⟩
        have m1' : (if r < o then r else o) = mm.1 := by rw [hmm]
        have m2' : (if r > o then r else o) = mm.2 := by rw [hmm]
        rw [m1', m2']
        have Wt : W ≠ t := ne_of_none hW8 nt
        have ntH := penNo PA8 (b5.trans b58) nt
        obtain ⟨tp, tl⟩ := penNe PA8 nt
        have lenW : (ts.map V.ref).length < sizeLine := by rw [List.length_map, sizeLine_eq]; omega
        refine ⟨W, _, _, rfl, rfl, by rw [upd_ne Wt]; exact hW8, lenW, _, _, ts ++ [t], cs ++ [mm], rfl, ((b5.trans b58).updN' ntH).updN' nWH, ((PA8.keepU tp tl).keepU Wp Wl).more (by omega), ?_, ?_, ?_, ?_, fun j t' q' h1 h2 => ?_, ?_, fun q' hq' => ?_⟩
        · rw [upd_ne SW, upd_ne (ne_of_none hS8 nt)]
          exact hS8
        · rw [upd_same, List.map_append]
          rfl
        · rw [List.length_append, lt]; rfl
        · rw [List.length_append, lc]; rfl
        · by_cases hj : j < ts.length
          · rw [List.getElem?_append_left hj] at h1
            rw [List.getElem?_append_left (by omega)] at h2
            have z := al j t' q' h1 h2
            have z8 := b58 _ _ z (fun e => by obtain ⟨⟨i', r', e', _⟩, _⟩ := PA5; rw [e, e'] at z; cases z)
            rw [upd_ne (fun e => by rw [e, hW8] at z8; cases z8), upd_ne (ne_of_none z8 nt)]
            exact z8
          · rw [List.getElem?_append_right (by omega)] at h1
            rw [List.getElem?_append_right (by omega)] at h2
            have z0 : j - ts.length = 0 := by
              have := (List.getElem?_eq_some_iff.mp h1).1
              simp at this
              omega
            rw [z0] at h1
            rw [lc, ← lt, z0] at h2
            cases h1
            cases h2
            rw [upd_ne Wt.symm, upd_same]
        · rw [List.nodup_append]
          refine ⟨nd, by simp, fun a ha b hb e => ?_⟩
          have hb' : b = mm := by simpa using hb
          rw [hb'] at e
          obtain ⟨_, q1, q2⟩ := rg a ha
          have : r = mm.1 ∨ r = mm.2 := by
            rw [← m1', ← m2']
            by_cases z : r < o
            · exact .inl (by rw [if_pos z])
            · exact .inr (by rw [if_pos (by omega)])
          rcases this with z | z
          · exact nin (by rw [z, ← e]; exact q1)
          · exact nin (by rw [z, ← e]; exact q2)
        · rcases List.mem_append.mp hq' with z | z
          · obtain ⟨q0, q1, q2⟩ := rg q' z
            exact ⟨q0, up _ q1, up _ q2⟩
          · have hb' : q' = mm := by simpa using z
            subst hb'
            have mem : (if r < o then r else o) ∈ rs.take (i + 1 + 1) ∧ (if r > o then r else o) ∈ rs.take (i + 1 + 1) := by
              constructor <;> split <;> first | exact inn | exact up _ oin
            rw [m1', m2'] at mem
            refine ⟨?_, mem⟩
            unfold RgW
            rw [← m1', ← m2']
            split <;> split <;> omega
      · rintro σ H5 ⟨x, y, ts, cs, rfl, b5, PA5, hS5, hW5, lt, lc, al, nd, rg⟩
        have ki : ∀ x ∈ ts.map V.ref, ∃ (t : Addr) (q : Int × Int), x = .ref t ∧ H5 t = some (.tup [.int q.1, .int q.2]) ∧ RgW q := fun x hx => by
          obtain ⟨t, ht, rfl⟩ := List.mem_map.mp hx
          obtain ⟨j, hj, rfl⟩ := List.getElem_of_mem ht
          have e2 : cs[j]? = some (cs[j]'(by omega)) := List.getElem?_eq_getElem (by omega)
          exact ⟨_, _, rfl, al j _ _ (List.getElem?_eq_getElem hj) e2, (rg _ (List.mem_of_getElem? e2)).1⟩
        have ek : (ts.map V.ref).map (kH H5) = cs := by
          refine List.ext_getElem (by rw [List.length_map, List.length_map, lt, lc]) fun j h1 h2 => ?_
          rw [List.getElem_map, List.getElem_map]
          rw [List.length_map, List.length_map] at h1
          exact kH_at (al j _ _ (List.getElem?_eq_getElem h1) (List.getElem?_eq_getElem h2))
        refine ⟨.ref W, rfl, W, ts.map V.ref, kH H5, rfl, SqL.of hW5, fun x hx => ?_, fun ys D st sb nD => ⟨D, ys, rfl, .inl ⟨SqL.of upd_same, fun a na => ?_⟩⟩⟩
        · obtain ⟨t, q', rfl, h, _⟩ := ki x hx
          rw [kH_at h]
          exact ⟨t, rfl, h⟩
        have s56 : Same H5 (upd (upd H5 D (.lst ys)) a (.tup ys)) := (same_upd nD).trans (same_upd na)
        have tne : ts.map V.ref ≠ [] := fun z => by
          have : ts = [] := List.map_eq_nil_iff.mp z
          rw [this] at lt
          simp at lt
          omega
        obtain ⟨us, cv, gd⟩ := mk_cave (K := K) ki (by rw [ek]; exact nd) tne sb.perm st s56 upd_same
        have naH := (same_upd nD).free na
        refine q _ a us _ (b5.trans (Same.but s56)) cv gd ?_ ((PA5.keep s56).more (by omega))
        rw [List.length_map, sb.perm.length_eq, List.length_map, lt]
        omega
end
end Cv

/-! drawn caves -/
namespace Cv
open PySem PySem.Spec PyProof.Rows L2 CvT CvS CvW CvD
/-- pairs of ints at ts -/
def PrAt (H : Hp) (ts : List Addr) (cs : List (Int × Int)) : Prop := ts.length = cs.length ∧ ∀ (j : Nat) (t : Addr) (q : Int × Int), ts[j]? = some t → cs[j]? = some q → H t = some (.tup [.int q.1, .int q.2])
theorem PrAt.nil {H : Hp} : PrAt H [] [] := ⟨rfl, fun j t q h => by simp at h⟩
theorem PrAt.up {H H' : Hp} {ts : List Addr} {cs : List (Int × Int)} (h : PrAt H ts cs) (s : Same H H') : PrAt H' ts cs := ⟨h.1, fun j t q h1 h2 => s _ _ (h.2 j t q h1 h2)⟩
theorem PrAt.but {H H' : Hp} {ts : List Addr} {cs : List (Int × Int)} {p l : Addr} {N : Nat} (h : PrAt H ts cs) (P : PenAt H p l N) (b : But p H H') : PrAt H' ts cs := ⟨h.1, fun j t q h1 h2 => by
  have z := h.2 j t q h1 h2
  refine b _ _ z fun e => ?_
  obtain ⟨⟨i, r, e', _⟩, _⟩ := P
  rw [e, e'] at z
  cases z⟩
theorem PrAt.app {H : Hp} {ts us : List Addr} {cs ds : List (Int × Int)} (h : PrAt H ts cs) (g : PrAt H us ds) : PrAt H (ts ++ us) (cs ++ ds) := by
  refine ⟨by rw [List.length_append, List.length_append, h.1, g.1], fun j t q h1 h2 => ?_⟩
  by_cases hj : j < ts.length
  · rw [List.getElem?_append_left hj] at h1
    rw [List.getElem?_append_left (by rw [← h.1]; exact hj)] at h2
    exact h.2 j t q h1 h2
  · rw [List.getElem?_append_right (by omega)] at h1
    rw [List.getElem?_append_right (by rw [← h.1]; omega), ← h.1] at h2
    exact g.2 _ t q h1 h2
theorem PrAt.one {H : Hp} {t : Addr} {q : Int × Int} (h : H t = some (.tup [.int q.1, .int q.2])) : PrAt H [t] [q] := ⟨rfl, fun j t' q' h1 h2 => by
  match j, h1, h2 with
  | 0, h1, h2 => cases h1; cases h2; exact h
  | j + 1, h1, _ => simp at h1⟩
theorem PrAt.lst {H : Hp} {ts : List Addr} {cs : List (Int × Int)} {a : Addr} {xs ys : List V} (h : PrAt H ts cs) (ha : H a = some (.lst xs)) : PrAt (upd H a (.lst ys)) ts cs := ⟨h.1, fun j t q h1 h2 => by
  have z := h.2 j t q h1 h2
  rw [upd_ne (fun e => by rw [e, ha] at z; cases z)]
  exact z⟩
theorem PrAt.mem {H : Hp} {ts : List Addr} {cs : List (Int × Int)} (h : PrAt H ts cs) {x : V} (hx : x ∈ ts.map V.ref) : ∃ (t : Addr) (q : Int × Int), x = .ref t ∧ H t = some (.tup [.int q.1, .int q.2]) ∧ q ∈ cs := by
  obtain ⟨t, ht, rfl⟩ := List.mem_map.mp hx
  obtain ⟨j, hj, rfl⟩ := List.getElem_of_mem ht
  have e2 : cs[j]? = some (cs[j]'(by rw [← h.1]; exact hj)) := List.getElem?_eq_getElem (by rw [← h.1]; exact hj)
  exact ⟨_, _, rfl, h.2 j _ _ (List.getElem?_eq_getElem hj) e2, List.mem_of_getElem? e2⟩
theorem PrAt.keys {H : Hp} {ts : List Addr} {cs : List (Int × Int)} (h : PrAt H ts cs) : (ts.map V.ref).map (kH H) = cs := by
  refine List.ext_getElem (by rw [List.length_map, List.length_map, h.1]) fun j h1 h2 => ?_
  rw [List.getElem_map, List.getElem_map]
  rw [List.length_map, List.length_map] at h1
  exact kH_at (h.2 j _ _ (List.getElem?_eq_getElem h1) (List.getElem?_eq_getElem h2))
def RR : List (List Int) := [[0, 1, 2, 3, 4], [7, 0, 10, 99, 23], [0, 1, 2, 3, 4, 5]]
def above (a : Int) (rs : List Int) : List (Int × Int) := (rs.filter fun b => decide (a < b)).map fun b => (a, b)
def prM (rs : List Int) (i : Nat) : List (Int × Int) := (rs.take i).flatMap fun a => above a rs
theorem prM_all : ∀ rs ∈ RR, (prM rs rs.length).Nodup ∧ (∀ q ∈ prM rs rs.length, RgW q) ∧ prM rs rs.length ≠ [] ∧ rs.length ≤ 6 := by
  unfold RgW
  decide
theorem prM_succ {rs : List Int} {i : Nat} {a : Int} (h : rs[i]? = some a) : prM rs (i + 1) = prM rs i ++ above a rs := by
  unfold prM
  rw [List.take_add_one, h, List.flatMap_append]
  simp
theorem above_le (a : Int) (rs : List Int) : (above a rs).length ≤ rs.length := by
  unfold above
  rw [List.length_map]
  exact List.length_filter_le _ _
theorem prM_len (rs : List Int) : ∀ i, i ≤ rs.length → (prM rs i).length ≤ i * rs.length
  | 0, _ => by simp [prM]
  | i + 1, h => by
    have e : rs[i]? = some rs[i] := List.getElem?_eq_getElem (by omega)
    have z := prM_len rs i (by omega)
    have y := above_le rs[i] rs
    rw [prM_succ e, List.length_append, Nat.succ_mul]
    omega
def spCa (K : PySem.W.Frag) : Sp := fun vs H Q _ => ∃ (p l : Addr) (N : Nat) (m : Int), vs = [.ref p, .int m] ∧ PenAt H p l N ∧ N < 900000 ∧ 1 ≤ m ∧ m ≤ 11 ∧
  ∀ H' a ts c, But p H H' → CvAt K H' a ts c → Good c → c.length ≤ 11 → PenAt H' p l (N + 7000) → Q (.ref a) H'
abbrev sCa : Stmt := topS 21
abbrev nCa : List Str := ["pen", "most", "rooms", "pairs", "one", "found", "other"]
theorem scCa : FnScope nCa ["pen", "most"] (defScope sCa) := ⟨rfl, rfl, rfl, by decide +kernel, rfl, by decide +kernel, by decide +kernel⟩
section
variable {P : Program} {w : World} {K : PySem.W.Frag} {mg : Str → Option Value} {base : Heap}
theorem ok_ca {f fD fT fS : Addr} {fd dD dT dS : FuncData} {k : Nat} (F : Fun K "_law_cave" "_law_cave" sCa f fd) (T : TxtI mg) (GD : FnOk P w K mg base CX0 (k + 2) fD dD ["pen", "under"] spDraw) (bD : Binds K dD ["pen", "under"] []) (gD : mg "_law_draw" = some (.ref fD)) (kD : PySem.W.keepIn K (.ref fD) = true)
    (GT : FnOk P w K mg base CX0 (k + 3) fT dT ["pen", "most"] (spTr K)) (bT : Binds K dT ["pen", "most"] []) (gT : mg "_law_tree" = some (.ref fT)) (kT : PySem.W.keepIn K (.ref fT) = true)
    (GS : FnOk P w K mg base CX0 (k + 3) fS dS ["pen", "pool", "most"] (spSome K)) (bS : Binds K dS ["pen", "pool", "most"] []) (gS : mg "_law_some" = some (.ref fS)) (kS : PySem.W.keepIn K (.ref fS) = true) :
    FnOk P w K mg base CX0 (k + 4) f fd ["pen", "most"] (spCa K) := by
  refine F.ok scCa (fun vs H Q E h => ?_) (fun cdv A outer s H vs Q E hr h => ?_)
  · obtain ⟨p, l, N, m, rfl, _⟩ := h
    rfl
  · obtain ⟨p, l, N, m, rfl, PA0, hN, m1, m11, q⟩ := h
    refine ⟨_, pss_cons (ps_if (pt_cmpR op_eq (pe_call GD (hr.mono (by omega)) (by rfl) gD kD bD .nil pass0 (pa_cons (pv 0) (pa_cons pe_int pa_nil))) pe_int (nomark _)) (pss_one (ps_ret (pe_call GT hr (by rfl) gT kT bT .nil pass0 (pa_cons (pv 0) (pa_cons (pv 1) pa_nil))))) pss_nil)
      (pss_cons (ps_par (i := 2) (j := 3) rfl scCa.nd rfl rfl (by decide) rfl rfl (pa_cons (pe_ix ix_list (pe_lst
          (pa_cons (pe_lst (pa_cons pe_int (pa_cons pe_int (pa_cons pe_int (pa_cons pe_int (pa_cons pe_int pa_nil))))))
          (pa_cons (pe_lst (pa_cons pe_int (pa_cons pe_int (pa_cons pe_int (pa_cons pe_int (pa_cons pe_int pa_nil))))))
          (pa_cons (pe_lst (pa_cons pe_int (pa_cons pe_int (pa_cons pe_int (pa_cons pe_int (pa_cons pe_int (pa_cons pe_int pa_nil))))))) pa_nil))))
          (pe_call GD (hr.mono (by omega)) (by rfl) gD kD bD .nil pass0 (pa_cons (pv 0) (pa_cons pe_int pa_nil))) (fun _ _ => rfl)) (pa_cons (pe_lst pa_nil) pa_nil)) (by rfl))
      (pss_cons (ps_for PassesOwn.never rfl (pi_list (pv 2)) (pg_name (i := 4) scCa.nd rfl (.inr rfl))
        (pss_one (ps_set (i := 3) scCa.nd rfl (.inl rfl) (pe_op op_cat (pv 3) (pe_lc (own := [("other", 6)]) (g := gName 6) (tt := tTest (tOp (rI0 fun i j => .bl (decide (i < j))) (tVar 4) (tVar 6))) (te := tTup (tCons (tVar 4) (tCons (tVar 6) tNil))) rfl scCa.nd (pi_list (pv 2))
          (blkOk_by (own := [("other", 6)]) (N := nCa) (sc := defScope sCa) (by decide +kernel)) (fun _ _ _ _ _ => pg_name (i := 6) scCa.nd rfl (.inl rfl)) (fun _ _ _ _ _ => pts_one (pt_cmpR op_lt (pv 4) (pv 6) (nomark _))) (fun _ _ _ _ _ => pe_tup (pa_cons (pv 4) (pa_cons (pv 6) pa_nil))))))))
      (pss_cons (ps_set (i := 5) scCa.nd rfl (.inl rfl) (pe_call GS hr (by rfl) gS kS bS .nil pass0 (pa_cons (pv 0) (pa_cons (pe_callB cr_sortedPO (by rfl) T.srt (by decide +kernel) (pa_cons (pv 3) pa_nil)) (pa_cons (pv 1) pa_nil)))))
      (pss_one (ps_ret (pe_ifExp (pt_cmpR (op_neD hr.units) (pv 5) (pe_lst pa_nil) (nomark _)) (pe_callTy call_tuple_of (by rfl) T.tup (by decide +kernel) (pa_cons (pe_callB cr_sortedPO (by rfl) T.srt (by decide +kernel) (pa_cons (pv 5) pa_nil)) pa_nil))
        (pe_tup (pa_cons (pe_ix ix_list (pv 3) pe_int (fun _ _ => rfl)) pa_nil)))))))), ?_⟩
    refine ⟨.ref p, rfl, p, l, N, 3, rfl, PA0, by omega, by decide, by decide, fun H1 d d0 d1 PA1 b1 => ⟨rfl, _, rfl, ite2 (fun e => ?_) (fun e => ?_)⟩⟩
    · exact ⟨.ref p, rfl, .int m, rfl, p, l, N + 1, m, rfl, PA1, by omega, m1, m11, fun H' a ts c b' cv g l11 PA' => q H' a ts c (b1.trans b') cv g l11 (PA'.more (by omega))⟩
    refine ⟨(by show 5 ≤ sizeLine; decide), fun A1 n1 => ?_⟩
    have c1 := penNo PA1 b1 n1
    have PA2 : PenAt (upd H1 A1 (.lst [.int 0, .int 1, .int 2, .int 3, .int 4])) p l (N + 1) := PA1.keepU (penNe PA1 n1).1 (penNe PA1 n1).2
    have b2 : But p H (upd H1 A1 (.lst [.int 0, .int 1, .int 2, .int 3, .int 4])) := b1.updN' c1
    have hA1 : upd H1 A1 (.lst [.int 0, .int 1, .int 2, .int 3, .int 4]) A1 = some (.lst ([0, 1, 2, 3, 4].map V.int)) := upd_same
    refine ⟨(by show 5 ≤ sizeLine; decide), fun A2 n2 => ?_⟩
    have c2 := penNo PA2 b2 n2
    have s2 := same_upd (o := .lst [.int 7, .int 0, .int 10, .int 99, .int 23]) n2
    generalize upd H1 A1 (HO.lst [V.int 0, V.int 1, V.int 2, V.int 3, V.int 4]) = H2 at PA2 b2 hA1 n2 s2 ⊢
    have hA2 : upd H2 A2 (.lst [.int 7, .int 0, .int 10, .int 99, .int 23]) A2 = some (.lst ([7, 0, 10, 99, 23].map V.int)) := upd_same
    have PA3 := PA2.keep s2
    have b3 := b2.trans (Same.but s2)
    have hA1' := s2 _ _ hA1
    refine ⟨(by show 6 ≤ sizeLine; decide), fun A3 n3 => ?_⟩
    have s3 := same_upd (o := .lst [.int 0, .int 1, .int 2, .int 3, .int 4, .int 5]) n3
    generalize upd H2 A2 (HO.lst [V.int 7, V.int 0, V.int 10, V.int 99, V.int 23]) = H3 at PA3 b3 hA1' hA2 n3 s3 ⊢
    have hA3 : upd H3 A3 (.lst [.int 0, .int 1, .int 2, .int 3, .int 4, .int 5]) A3 = some (.lst ([0, 1, 2, 3, 4, 5].map V.int)) := upd_same
    have PA4 := PA3.keep s3
    have b4 := b3.trans (Same.but s3)
    have hA1'' := s3 _ _ hA1'
    have hA2'' := s3 _ _ hA2
    refine ⟨(by show 3 ≤ sizeLine; decide), fun Z nZ => ?_⟩
    have s4 := same_upd (o := .lst [.ref A1, .ref A2, .ref A3]) nZ
    generalize upd H3 A3 (HO.lst [V.int 0, V.int 1, V.int 2, V.int 3, V.int 4, V.int 5]) = H4 at PA4 b4 hA1'' hA2'' hA3 nZ s4 ⊢
    have hZ : upd H4 Z (.lst [.ref A1, .ref A2, .ref A3]) Z = some (.lst [.ref A1, .ref A2, .ref A3]) := upd_same
    have PA5 := PA4.keep s4
    have b5 := b4.trans (Same.but s4)
    have g1 := s4 _ _ hA1''
    have g2 := s4 _ _ hA2''
    have g3 := s4 _ _ hA3
    generalize upd H4 Z (HO.lst [V.ref A1, V.ref A2, V.ref A3]) = H5 at PA5 b5 g1 g2 g3 hZ
    have lp : ∀ {a : Addr} {xs : List Int}, H5 a = some (.lst (xs.map V.int)) → a ≠ p := fun {a xs} h e => by
      obtain ⟨⟨i, r, e', _⟩, _⟩ := PA5
      rw [e, e'] at h
      have := HO.lst.inj (Option.some.inj h)
      cases xs with
      | nil => simp at this
      | cons x xs => simp at this
    have Zp : Z ≠ p := fun e => by
      obtain ⟨⟨i, r, e', _⟩, _⟩ := PA5
      rw [e, e'] at hZ
      have := HO.lst.inj (Option.some.inj hZ)
      simp at this
    refine ⟨.ref p, rfl, p, l, N + 1, 3, rfl, PA5, by omega, by decide, by decide, fun H6 d' d0' d1' PA6 b6 => ?_⟩
    obtain ⟨R, rs, hv, hrs, hR6, Rp⟩ : ∃ (R : Addr) (rs : List Int), ([.ref A1, .ref A2, .ref A3] : List V)[d'.toNat]? = some (.ref R) ∧ rs ∈ RR ∧ H6 R = some (.lst (rs.map V.int)) ∧ R ≠ p := by
      have : d' = 0 ∨ d' = 1 ∨ d' = 2 := by omega
      rcases this with rfl | rfl | rfl
      · exact ⟨A1, _, rfl, by simp [RR], b6 _ _ g1 (lp g1), lp g1⟩
      · exact ⟨A2, _, rfl, by simp [RR], b6 _ _ g2 (lp g2), lp g2⟩
      · exact ⟨A3, _, rfl, by simp [RR], b6 _ _ g3 (lp g3), lp g3⟩
    obtain ⟨ndP, rgP, neP, l6⟩ := prM_all rs hrs
    refine ⟨Z, _, d', .ref R, rfl, rfl, SqL.of (b6 _ _ hZ Zp), atI_int d0' hv, Nat.zero_le _, fun P0 nP => ⟨_, _, rfl, ?_⟩⟩
    have s6 := same_upd (o := .lst []) nP
    have hP7 : upd H6 P0 (.lst []) P0 = some (.lst []) := upd_same
    have PA7 := PA6.keep s6
    have b7 := (b5.trans b6).trans (Same.but s6)
    have hR7 := s6 _ _ hR6
    show tSeq _ _ _ _ (upd H6 P0 (.lst []))
    generalize upd H6 P0 (HO.lst []) = H7 at PA7 b7 hP7 hR7
    have lenP : ∀ i, i ≤ rs.length → (prM rs i).length ≤ 36 := fun i hi => by
      have z := prM_len rs i hi
      have : i * rs.length ≤ 6 * 6 := Nat.mul_le_mul (by omega) l6
      omega
    refine ⟨.ref R, rfl, R, rfl, ⟨_, SqL.of hR7⟩, for_list (K := K) (a := R) (xs := rs.map V.int) (fun i σ H' => ∃ (x : Option V) (P' : Addr) (ts : List Addr), σ = [some (.ref p), some (.int m), some (.ref R), some (.ref P'), x, none, none] ∧ But p H H' ∧ PenAt H' p l (N + 2) ∧
      H' R = some (.lst (rs.map V.int)) ∧ H' P' = some (.lst (ts.map V.ref)) ∧ PrAt H' ts (prM rs i)) ⟨_, P0, [], rfl, b7, PA7, hR7, hP7, PrAt.nil⟩ (fun i σ H' _ ⟨_, _, _, _, _, _, e, _⟩ => SqL.of e) ?_ ?_⟩
    · rintro i x σ H8 hx ⟨y, P', ts, rfl, b8, PA8, hR8, hP8, pr8⟩
      obtain ⟨a, ha, rfl⟩ := map_get hx
      have hi : i < rs.length := (List.getElem?_eq_some_iff.mp ha).1
      refine ⟨.ref P', rfl, .ref R, rfl, R, rfl, ⟨_, SqL.of hR8⟩, fun D nD => walkL (K := K) (a := R) (xs := rs.map V.int) (fun j H' => Same H8 H' ∧ ∃ us : List Addr, H' D = some (.lst (us.map V.ref)) ∧ PrAt H' us (above a (rs.take j))) ⟨same_upd nD, [], upd_same, PrAt.nil⟩
        (fun j H' ⟨s', _⟩ => SqL.of (s' _ _ hR8)) ?_ ?_⟩
      · rintro j x H9 hx9 ⟨s9, us, hD9, pr9⟩
        obtain ⟨b, hb, rfl⟩ := map_get hx9
        have hj : j < rs.length := (List.getElem?_eq_some_iff.mp hb).1
        have step : above a (rs.take (j + 1)) = above a (rs.take j) ++ if a < b then [(a, b)] else [] := by
          unfold above
          rw [List.take_add_one, hb, List.filter_append, List.map_append]
          by_cases z : a < b <;> simp [z]
        refine ⟨rfl, .int a, rfl, .int b, rfl, _, _, rfl, rfl, _, rfl, ite2 (fun e9 => ?_) (fun e9 => ?_)⟩
        · have lt : a < b := of_decide_eq_true e9
          refine ⟨.int a, rfl, .int b, rfl, (by show 2 ≤ sizeLine; decide), fun t nt => ⟨us.map V.ref, ?_, ?_, fun x o ex => ?_, us ++ [t], ?_, ?_⟩⟩
          · rw [upd_ne (ne_of_none hD9 nt)]
            exact hD9
          · have z := above_le a (rs.take j)
            rw [List.length_take] at z
            rw [List.length_map, pr9.1, sizeLine_eq]
            omega
          · rw [upd_ne (ne_of_none ex nD), upd_ne (ne_of_none (s9 _ _ ex) nt)]
            exact s9 _ _ ex
          · rw [upd_same, List.map_append]
            rfl
          · rw [step, if_pos lt]
            exact ((pr9.up (same_upd nt)).app (PrAt.one upd_same)).lst (xs := us.map V.ref) (by rw [upd_ne (ne_of_none hD9 nt)]; exact hD9)
        · have lt : ¬ a < b := fun z => e9 (decide_eq_true z)
          refine ⟨s9, us, hD9, ?_⟩
          rw [step, if_neg lt, List.append_nil]
          exact pr9
      · rintro H9 ⟨s9, us, hD9, pr9⟩
        rw [List.length_map, List.take_length] at pr9
        have lz := above_le a rs
        have lp' := lenP i (by omega)
        refine ⟨P', D, _, _, rfl, rfl, s9 _ _ hP8, hD9, (by rw [List.length_map, List.length_map, pr8.1, pr9.1, sizeLine_eq]; omega), fun E nE => ?_⟩
        have sE := same_upd (o := .lst (ts.map V.ref ++ us.map V.ref)) nE
        refine ⟨_, E, ts ++ us, rfl, b8.trans (Same.but (s9.trans sE)), PA8.keep (s9.trans sE), sE _ _ (s9 _ _ hR8), ?_, ?_⟩
        · rw [upd_same, List.map_append]
        · rw [prM_succ ha]
          exact (pr8.up (s9.trans sE)).app (pr9.up sE)
    rintro σ H8 ⟨y, P', ts, rfl, b8, PA8, hR8, hP8, pr8⟩
    rw [List.length_map] at pr8
    have lcs := lenP rs.length (Nat.le_refl _)
    generalize prM rs rs.length = cs at pr8 ndP rgP neP lcs
    have P'p : P' ≠ p := fun e => by
      obtain ⟨⟨i, r, e', _⟩, _⟩ := PA8
      rw [e, e'] at hP8
      have z := congrArg List.length (HO.lst.inj (Option.some.inj hP8))
      have z2 := HO.lst.inj (Option.some.inj hP8)
      cases ts with
      | nil => simp at z2
      | cons t1 ts =>
        cases ts with
        | nil => simp at z2
        | cons t2 ts => simp at z2
    refine ⟨.ref p, rfl, .ref P', rfl, P', ts.map V.ref, kH H8, rfl, SqL.of hP8, fun x hx => ?_, fun ys D st sb nD => ?_⟩
    · obtain ⟨t, q', rfl, h, _⟩ := pr8.mem hx
      rw [kH_at h]
      exact ⟨t, rfl, h⟩
    have s8 := same_upd (o := .lst ys) nD
    have PA9 := PA8.keep s8
    have b9 := b8.trans (Same.but s8)
    have hD9 : upd H8 D (.lst ys) D = some (.lst ys) := upd_same
    have pr9 := pr8.up s8
    have hP9 := s8 _ _ hP8
    have pmY : ys.Perm (ts.map V.ref) := sb.perm
    refine ⟨.int m, rfl, p, l, D, N + 2, ys, m, rfl, PA9, by omega, SqL.of hD9, (by rw [pmY.length_eq, List.length_map, pr8.1]; omega), by omega, fun H10 r zs ws b10 nr hr10 PA10 pm10 lm => ?_⟩
    have pr10 := pr9.but PA9 b10
    have hP10 := b10 _ _ hP9 P'p
    have b10' := b9.trans b10
    have zin : ∀ x ∈ zs, x ∈ ts.map V.ref := fun x hx => pmY.mem_iff.mp (pm10.mem_iff.mp (List.mem_append_left _ hx))
    have znd : (zs.map (kH H10)).Nodup := by
      have z := ((pm10.trans pmY).map (kH H10)).nodup_iff.mpr (by rw [pr10.keys]; exact ndP)
      rw [List.map_append] at z
      exact (List.nodup_append.mp z).1
    have zk : ∀ x ∈ zs, ∃ (t : Addr) (q : Int × Int), x = .ref t ∧ H10 t = some (.tup [.int q.1, .int q.2]) ∧ RgW q := fun x hx => by
      obtain ⟨t, q', rfl, h, hq⟩ := pr10.mem (zin x hx)
      exact ⟨t, q', rfl, h, rgP q' hq⟩
    have z11 : zs.length ≤ 11 := by omega
    dsimp only [gName]
    refine ⟨.ref r, rfl, Nat.zero_le _, fun e ne' => ?_⟩
    have s10 := same_upd (o := .lst []) ne'
    have hr11 := s10 _ _ hr10
    have PA11 := PA10.keep s10
    have b11 := b10'.trans (Same.but s10)
    have pr11 := pr10.up s10
    have hP11 := s10 _ _ hP10
    have kk : ∀ x ∈ zs, kH (upd H10 e (.lst [])) x = kH H10 x := fun x hx => by
      obtain ⟨t, q', rfl, h, _⟩ := zk x hx
      rw [kH_at h, kH_at (s10 _ _ h)]
    have znd' : (zs.map (kH (upd H10 e (.lst [])))).Nodup := by
      rw [List.map_congr_left kk]
      exact znd
    have zk' : ∀ x ∈ zs, ∃ (t : Addr) (q : Int × Int), x = .ref t ∧ upd H10 e (.lst []) t = some (.tup [.int q.1, .int q.2]) ∧ RgW q := fun x hx => by
      obtain ⟨t, q', rfl, h, hq⟩ := zk x hx
      exact ⟨t, q', rfl, s10 _ _ h, hq⟩
    have he : upd H10 e (.lst []) e = some (.lst []) := upd_same
    generalize upd H10 e (HO.lst []) = H11 at hr11 PA11 b11 pr11 hP11 znd' zk' he
    refine ⟨.list ((zs.map (kH H11)).map wayD), .list [], .lst (SqL.of hr11) (DpAll.of_get (by rw [List.length_map, List.length_map]) fun i x d h1 h2 => ?_), .lst (SqL.of he) .nil, shaped_ways _, shaped_ways [], _, rfl, ite2 (fun e1 => ?_) (fun e1 => ?_)⟩
    · rw [List.getElem?_map, List.getElem?_map, h1] at h2
      cases h2
      obtain ⟨t, q', rfl, h, _⟩ := zk' x (List.mem_of_getElem? h1)
      rw [kH_at h]
      exact dp_way (SqT.of h)
    · have zne : zs ≠ [] := fun z => by
        subst z
        simp [PyData.eqv, PyData.eqvAll] at e1
      refine ⟨.ref r, rfl, r, zs, kH H11, rfl, SqL.of hr11, fun x hx => ?_, fun ys2 D2 st2 sb2 nD2 => ⟨D2, ys2, rfl, .inl ⟨SqL.of upd_same, fun a na => ?_⟩⟩⟩
      · obtain ⟨t, q', rfl, h, _⟩ := zk' x hx
        rw [kH_at h]
        exact ⟨t, rfl, h⟩
      · have s56 : Same H11 (upd (upd H11 D2 (.lst ys2)) a (.tup ys2)) := (same_upd nD2).trans (same_upd na)
        obtain ⟨us, cv, gd⟩ := mk_cave (K := K) zk' znd' zne sb2.perm st2 s56 upd_same
        refine q _ a us _ (b11.trans (Same.but s56)) cv gd ?_ ((PA11.keep s56).more (by omega))
        rw [List.length_map, sb2.perm.length_eq]
        exact z11
    · cases ts with
      | nil =>
        exact absurd (List.length_eq_zero_iff.mp pr11.1.symm) neP
      | cons t0 ts =>
        cases cs with
        | nil => exact absurd rfl neP
        | cons q0 cs =>
          have h0 := pr11.2 0 t0 q0 rfl rfl
          refine ⟨.ref P', rfl, P', _, 0, .ref t0, rfl, rfl, SqL.of hP11, atI_nat (j := 0) rfl, (by show 1 ≤ sizeLine; decide), fun a na => ?_⟩
          have s56 : Same H11 (upd H11 a (.tup [.ref t0])) := same_upd na
          refine q _ a [t0] [q0] (b11.trans (Same.but s56)) ⟨SqT.of upd_same, rfl, fun j t q' h1 h2 => ?_⟩ ⟨fun q' hq' => ?_, by simp, by simp⟩ (by simp) ((PA11.keep s56).more (by omega))
          · match j, h1, h2 with
            | 0, h1, h2 =>
              cases h1
              cases h2
              exact SqT.of (s56 _ _ h0)
            | j + 1, h1, _ => simp at h1
          · rw [List.mem_singleton.mp hq']
            exact rgP q0 List.mem_cons_self
end
end Cv

/-! t[::-1] of a tuple: always a new one -/
namespace CvR
open PySem PySem.Spec PyProof.Rows L2 HT
theorem adj_rev (n : Nat) : Builtin.Slice.sliceAdjust none none (-1) (n : Int) = ((n : Int) - 1, -1) := by
  unfold Builtin.Slice.sliceAdjust
  simp
theorem places_rev (n : Nat) : Builtin.Slice.slicePlaces ((n : Int) - 1) (-1) (-1) = n := by
  unfold Builtin.Slice.slicePlaces
  rw [if_neg (by decide)]
  by_cases h : ((n : Int) - 1) > -1
  · rw [if_pos h]
    have : ((n : Int) - 1 - -1 - 1) / (- -1) = (n : Int) - 1 := by
      rw [show (- -1 : Int) = 1 from rfl, Int.ediv_one]
      omega
    rw [this]
    omega
  · rw [if_neg h]
    show (0 : Int).toNat = n
    omega
theorem fm_map {α β : Type} {f : α → Option β} {g : α → β} : ∀ {l : List α}, (∀ k ∈ l, f k = some (g k)) → l.filterMap f = l.map g
  | [], _ => rfl
  | x :: l, h => by
    rw [List.filterMap_cons, h x List.mem_cons_self, List.map_cons, fm_map fun k hk => h k (List.mem_cons_of_mem _ hk)]
theorem pick_rev (xs : Array Value) : ((List.range xs.size).filterMap fun (k : Nat) => xs[((xs.size : Int) - 1 + (k : Int) * -1).toNat]?).toArray = xs.toList.reverse.toArray := by
  congr 1
  refine List.ext_getElem? fun i => ?_
  have all : ∀ k ∈ List.range xs.size, (fun (k : Nat) => xs[((xs.size : Int) - 1 + (k : Int) * -1).toNat]?) k = some (xs.toList.reverse.getD k .none) := fun k hk => by
    have hk := List.mem_range.mp hk
    have e : ((xs.size : Int) - 1 + (k : Int) * -1).toNat = xs.size - 1 - k := by omega
    show xs[((xs.size : Int) - 1 + (k : Int) * -1).toNat]? = _
    rw [e, List.getD_eq_getElem?_getD, List.getElem?_reverse (by rw [Array.length_toList]; exact hk), Array.length_toList]
    have lt : xs.size - 1 - k < xs.size := by omega
    rw [Array.getElem?_toList, Array.getElem?_eq_getElem lt]
    rfl
  have fm : ((List.range xs.size).filterMap fun (k : Nat) => xs[((xs.size : Int) - 1 + (k : Int) * -1).toNat]?) = (List.range xs.size).map fun k => xs.toList.reverse.getD k .none := by
    exact fm_map all
  rw [fm]
  by_cases hi : i < xs.size
  · rw [List.getElem?_map, List.getElem?_range hi]
    show some (xs.toList.reverse.getD i .none) = _
    rw [List.getD_eq_getElem?_getD]
    have lt : i < xs.toList.reverse.length := by rw [List.length_reverse, Array.length_toList]; exact hi
    rw [List.getElem?_eq_getElem lt]
    rfl
  · rw [List.getElem?_eq_none (by rw [List.length_map, List.length_range]; omega), List.getElem?_eq_none (by rw [List.length_reverse, Array.length_toList]; omega)]
section
variable {prog : Program} {w : World} {A : Around} {E : Value → Shared → Prop} {s : Shared}
theorem getRev {t sl : Addr} {items : Array Value} {vl vu vs : Value} {Q : Value → Shared → Prop} (ht : IsTup s.heap t items) (hs : s.heap.IsSliceOf sl vl vu vs) (pl : IsPart vl none) (pu : IsPart vu none) (ps : IsPart vs (some (-1)))
    (h : Q (.ref s.heap.objs.size) { s with heap := s.heap.push { cls := .type "tuple", data := .seq items.toList.reverse.toArray } }) (hsz : items.size ≤ sizeLine) : wpAny (model prog w) A (getItem (.ref t) (.ref sl)) Q E s := by
  have fits : sizeOk (.seq items.toList.reverse.toArray) := by
    show items.toList.reverse.toArray.size ≤ sizeLine
    rw [List.size_toArray, List.length_reverse, Array.length_toList]
    exact hsz
  obtain ⟨os, hos, hcs, hds⟩ := id hs
  have isSlice : s.TypeIs (.ref sl) "slice" := ⟨os, hos, hcs⟩
  unfold getItem
  try with_reducible refine wpAny_holding ?_
  first | refine wpAny_bind (wpAny_pure ?_) | skip
  refine wpAny_bind (wpAny_sequenceKey ht.typeIs (by decide) (wpAny_bind (wpAny_callSpecial?_slot (name := Str.ofString "__getitem__") ht.typeIs PyProof.Rows.slot_tuple_getitem (wpAny_call_entry PyProof.Rows.slot_tuple_getitem ht.typeIs entry_tuple_getitem ?_ (args_tuple_getitem _ _)))))
  show wpAny _ _ (Builtin.Tuple.tupleItemsOf (.ref t) >>= _) _ _ s
  refine wpAny_bind (tupleItemsOf_ ht (wpAny_bind (wpAny_typeOf isSlice ?_)))
  rw [if_pos (by decide)]
  have applied : ∀ {Q' : Int × Int × Nat → Shared → Prop} {B : Around} {E' : Value → Shared → Prop}, Q' ((items.size : Int) - 1, -1, items.size) s → wpAny (model prog w) B (Builtin.Slice.sliceApplied (.ref sl) (pure (items.size : Int))) Q' E' s := fun {Q' B E'} q => by
    unfold Builtin.Slice.sliceApplied Builtin.Slice.sliceFields
    refine wpAny_bind (wpAny_bind (wpAny_field hos hds (x := vl) rfl (wpAny_bind (wpAny_field hos hds (x := vu) rfl (wpAny_bind (wpAny_field hos hds (x := vs) rfl (wpAny_pure ?_)))))))
    refine wpAny_bind (slicePart_ ps ?_)
    show wpAny _ _ (if ((-1 : Int) == 0) = true then _ else _) _ _ s
    rw [if_neg (by decide)]
    refine wpAny_bind (slicePart_ pl (wpAny_bind (slicePart_ pu (wpAny_bind (wpAny_pure ?_)))))
    show wpAny _ _ (match Builtin.Slice.sliceAdjust none none (-1) (items.size : Int) with | (lo, hi) => pure (lo, (-1 : Int), Builtin.Slice.slicePlaces lo hi (-1))) _ _ s
    rw [adj_rev]
    show wpAny _ _ (pure ((items.size : Int) - 1, (-1 : Int), Builtin.Slice.slicePlaces ((items.size : Int) - 1) (-1) (-1))) _ _ s
    rw [places_rev]
    exact wpAny_pure q
  refine wpAny_bind (applied ?_)
  have no : ¬ (((items.size : Int) - 1 == 0 && (-1 : Int) == 1 && items.size == items.size) = true) := by simp
  show wpAny _ _ (if ((items.size : Int) - 1 == 0 && (-1 : Int) == 1 && items.size == items.size) = true then _ else _) _ _ s
  rw [if_neg no, pick_rev]
  first
    | exact wpAny_bind (m := Builtin.Tuple.tupleExact _) (wpAny_newObj_type (wpAny_pure ⟨_, rfl, wpAny_pure h⟩) fits)
    | exact wpAny_bind (m := Builtin.Tuple.tupleExact _) (wpAny_newObj_type (wpAny_bind (wpAny_pure (wpAny_pure ⟨_, rfl, wpAny_pure h⟩))) fits)
    | exact wpAny_bind (wpAny_bind (m := Builtin.Tuple.tupleExact _) (wpAny_newObj_type (wpAny_pure (wpAny_pure ⟨_, rfl, wpAny_pure h⟩)) fits))
    | exact wpAny_bind (wpAny_bind (m := Builtin.Tuple.tupleExact _) (wpAny_newObj_type (wpAny_pure ⟨_, rfl, wpAny_pure h⟩) fits))
end
section
variable {X : Cx}
def tRevT (K : PySem.W.Frag) (te : TE) : TE := fun σ H Q => te σ H fun x H1 => ∃ a xs, x = .ref a ∧ SqT K H1 a xs ∧ ∀ p, H1 p = none → Q (.ref p) (upd H1 p (.tup xs.reverse))
theorem pe_revT {e : Expr} {te : TE} {k : Nat} {p1 p2 p3 pos : Pos} (he : PE X e te) : PE X (.Subscript e (.Slice none none (some (.UnaryOp .USub (.Constant (.int 1) k p1) p2)) p3) pos) (tRevT X.K te) := by
  refine ⟨fun pins s σ H Q I h => Subscript_ (thn (he.run pins s σ H _ I h) fun v s1 hv => ?_)⟩
  obtain ⟨x, H1, I1, r1, a, xs, rfl, hx, q⟩ := hv
  obtain rfl : v = Value.ref a := r1
  have hst : PO X (some (.UnaryOp .USub (.Constant (.int 1) k p1) p2)) (tPart (tUn (rU fun i => .int (-i)) (tC (.int 1)))) := po_some (pe_un un_neg pe_int)
  refine wpAny_Slice (thn (po_none.run pins s1 σ H1 (fun o H2 => o = none ∧ H2 = H1) I1 ⟨rfl, rfl⟩) fun vl s2 hl => ?_)
  obtain ⟨_, _, I2, pl, rfl, rfl⟩ := hl
  refine thn (po_none.run pins s2 σ _ (fun o H3 => o = none ∧ H3 = _) I2 ⟨rfl, rfl⟩) fun vu s3 hu => ?_
  obtain ⟨_, _, I3, pu, rfl, rfl⟩ := hu
  refine thn (hst.run pins s3 σ _ (fun o H4 => o = some (-1) ∧ H4 = _) I3 ⟨1, rfl, -1, rfl, rfl, rfl⟩) fun vs s4 ho => ?_
  obtain ⟨_, _, I4, ps, rfl, rfl⟩ := ho
  have I5 := I4.kept (h' := s4.heap.push { cls := .type "slice", data := .fields #[vl, vu, vs] }) (t' := s4.toks) fun b ob q => Heap.get?_push_of_some _ q
  obtain ⟨its, r, ht, hz⟩ := I5.tuple hx
  have len := r.length
  show wpAny (model X.prog X.w) X.A (subscriptTail e (.Slice none none (some (.UnaryOp .USub (.Constant (.int 1) k p1) p2)) p3) (.ref a) (.ref s4.heap.objs.size)) (EP X pins σ Q) X.xe { s4 with heap := s4.heap.push { cls := .type "slice", data := .fields #[vl, vu, vs] } }
  refine tail_any (ops := [.ref a, .ref s4.heap.objs.size]) (IsTup.typeIs ht) (PyProof.Rows.slot_tuple_getitem.lookup) ?_ (by with_unfolding_all rfl)
  refine getRev ht (Heap.IsSliceOf.new _ vl vu vs) pl pu ps ?_ (by rw [List.size_toArray]; omega)
  refine ⟨.ref _, _, I5.laid (t' := s4.toks) (o := .tup xs.reverse) (fun b ob q => Heap.get?_push_of_some _ q) (Nat.le_refl _) ?_, rfl, q _ (I5.hok.fresh (Nat.le_refl _))⟩
  exact ⟨by rw [List.length_reverse]; exact hz, _, r.reverse, ⟨_, Heap.get?_push_size _ rfl, rfl, 0, rfl⟩⟩
end
end CvR

/-! how great data may be, and what stands in them -/
namespace Cv
open PySem PySem.Spec PyProof.Rows L2 CvT CvS CvW CvD CvR
mutual
/-- no list in it -/
def noL : PyData → Bool
  | .none | .bool _ | .int _ | .str _ => true
  | .list _ => false
  | .tuple xs => noLAll xs
  | .dict kvs => kvs.isEmpty
def noLAll : List PyData → Bool
  | [] => true
  | x :: xs => noL x && noLAll xs
end
def cap : Nat → Nat
  | 0 => 10
  | e + 1 => 30 * (cap e + 1)
def lvl (e : Nat) (d : PyData) : Prop := d.depth ≤ e ∧ d.leavesShort 8 = true ∧ d.showable = true ∧ d.bulk ≤ cap e
def flv : Nat → PyData → Prop
  | 0, d => d.hasDict = false ∧ noL d = true
  | 1, d => d.hasDict = false
  | _ + 2, d => d.hasDict = false ∨ noL d = true
def sm (e f : Nat) (d : PyData) : Prop := (∀ ds, d = .tuple ds → ds.length ≤ 30) ∧ lvl e d ∧ flv f d
theorem cap_mono : ∀ {e k : Nat}, cap e ≤ cap (e + k)
  | e, 0 => Nat.le_refl _
  | e, k + 1 => Nat.le_trans (cap_mono (k := k)) (by show cap (e + k) ≤ 30 * (cap (e + k) + 1); omega)
theorem lvl.up {e : Nat} {d : PyData} (k : Nat) (h : lvl e d) : lvl (e + k) d := ⟨Nat.le_trans h.1 (Nat.le_add_right _ _), h.2.1, h.2.2.1, Nat.le_trans h.2.2.2 cap_mono⟩
theorem lvl_all {e : Nat} : ∀ {ds : List PyData}, (∀ d ∈ ds, lvl e d) → PyData.depthAll ds ≤ e ∧ PyData.leavesShortAll 8 ds = true ∧ PyData.showableAll ds = true ∧ PyData.bulkAll ds ≤ ds.length * (cap e + 1)
  | [], _ => ⟨Nat.zero_le _, rfl, rfl, Nat.zero_le _⟩
  | d :: ds, h => by
    obtain ⟨a1, a2, a3, a4⟩ := h d List.mem_cons_self
    obtain ⟨b1, b2, b3, b4⟩ := lvl_all fun x hx => h x (List.mem_cons_of_mem _ hx)
    refine ⟨Nat.max_le.mpr ⟨a1, b1⟩, ?_, ?_, ?_⟩
    · show (PyData.leavesShort 8 d && PyData.leavesShortAll 8 ds) = true
      rw [a2, b2]
      rfl
    · show (PyData.showable d && PyData.showableAll ds) = true
      rw [a3, b3]
      rfl
    · show PyData.bulk d + 1 + PyData.bulkAll ds ≤ (ds.length + 1) * (cap e + 1)
      rw [Nat.succ_mul]
      omega
theorem lvl_tup {e : Nat} {ds : List PyData} (hl : ds.length ≤ 30) (h : ∀ d ∈ ds, lvl e d) : lvl (e + 1) (.tuple ds) := by
  obtain ⟨b1, b2, b3, b4⟩ := lvl_all h
  exact ⟨Nat.succ_le_succ b1, b2, b3, Nat.le_trans b4 (Nat.mul_le_mul_right _ hl)⟩
theorem lvl_lst {e : Nat} {ds : List PyData} (hl : ds.length ≤ 30) (h : ∀ d ∈ ds, lvl e d) : lvl (e + 1) (.list ds) := by
  obtain ⟨b1, b2, b3, b4⟩ := lvl_all h
  exact ⟨Nat.succ_le_succ b1, b2, b3, Nat.le_trans b4 (Nat.mul_le_mul_right _ hl)⟩
theorem hasD_all : ∀ {ds : List PyData}, (∀ d ∈ ds, d.hasDict = false) → PyData.hasDictAll ds = false
  | [], _ => rfl
  | d :: ds, h => by
    show (PyData.hasDict d || PyData.hasDictAll ds) = false
    rw [h d List.mem_cons_self, hasD_all fun x hx => h x (List.mem_cons_of_mem _ hx)]
    rfl
theorem noL_all : ∀ {ds : List PyData}, (∀ d ∈ ds, noL d = true) → noLAll ds = true
  | [], _ => rfl
  | d :: ds, h => by
    show (noL d && noLAll ds) = true
    rw [h d List.mem_cons_self, noL_all fun x hx => h x (List.mem_cons_of_mem _ hx)]
    rfl
theorem flv_of1 {f : Nat} {d : PyData} (h : d.hasDict = false) : flv (f + 1) d := match f with
  | 0 => h
  | _ + 1 => .inl h
theorem flv_of0 {f : Nat} {d : PyData} (h : d.hasDict = false) (g : noL d = true) : flv f d := match f with
  | 0 => ⟨h, g⟩
  | 1 => h
  | _ + 2 => .inl h
def intOk (i : Int) : Bool := PyData.leavesShort 8 (.int i) && PyData.showable (.int i)
theorem sm_int {e f : Nat} {i : Int} (h : intOk i = true) : sm e f (.int i) := by
  unfold intOk at h
  rw [Bool.and_eq_true] at h
  obtain ⟨h1, h2⟩ := h
  exact ⟨fun _ z => (by cases z), ⟨Nat.zero_le _, h1, h2, Nat.zero_le _⟩, flv_of0 rfl rfl⟩
theorem sm_leaf {e f : Nat} {d : PyData} (h : (lvl 0 d ∧ d.hasDict = false ∧ noL d = true)) (n : ∀ ds, d ≠ .tuple ds) : sm e f d :=
  ⟨fun ds z => absurd z (n ds), by have z := h.1.up e; rw [Nat.zero_add] at z; exact z, flv_of0 h.2.1 h.2.2⟩
theorem int99 {i : Int} (h0 : 0 ≤ i) (h1 : i ≤ 99) : intOk i = true := by
  have all : ∀ k : Fin 100, intOk ((k.val : Nat) : Int) = true := by decide +kernel
  obtain ⟨k, rfl⟩ := Int.eq_ofNat_of_zero_le h0
  exact all ⟨k, by omega⟩
/-- the text of such data is no long one -/
theorem sm_len {e f : Nat} {d : PyData} (h : sm e f d) (he : e ≤ 3) : d.shown.length ≤ sizeLine := by
  have z := PyData.shown_le_bulk 8 (Nat.le_refl _) d h.2.1.2.1
  have c : cap e ≤ cap 3 := by
    obtain ⟨k, hk⟩ := Nat.exists_eq_add_of_le he
    rw [hk]
    exact cap_mono
  have d3 : cap 3 = 297930 := by decide
  have b := h.2.1.2.2.2
  rw [sizeLine_eq]
  omega
/-! reads -/
section
variable {X : Cx} {pins : List (Addr × Obj)} {σ : L2.St} {H : Hp} {s : Shared}
mutual
theorem Dq.reads (I : Inv X pins σ H s) : ∀ (d : PyData) (v : V) (u : Value), Dq X.K H v d → RelV v u → ∃ as, Reads s.heap u d as ∧ (noL d = true → sysModules ∉ as)
  | .none, _, _, h, r => by
    cases h
    cases r
    exact ⟨_, .none, fun _ z => nomatch z⟩
  | .bool b, _, _, h, r => by
    cases h
    cases r
    exact ⟨_, .bool b, fun _ z => nomatch z⟩
  | .int i, _, _, h, r => by
    cases h
    obtain ⟨t, rfl⟩ := r
    exact ⟨_, .int i t, fun _ z => nomatch z⟩
  | .str x, _, _, h, r => by
    cases h
    obtain ⟨t, rfl⟩ := r
    exact ⟨_, .str x t, fun _ z => nomatch z⟩
  | .list ds, _, _, h, r => by
    cases h with
    | lst hs ha =>
      cases r
      obtain ⟨its, rv, ⟨o, n, ho, hc, _, hd⟩, _⟩ := I.list hs
      obtain ⟨as, hr, _⟩ := DqAll.reads I ds _ its ha rv
      exact ⟨_, Reads.list ho hc hd hr, fun z => by cases z⟩
  | .tuple ds, _, _, h, r => by
    cases h with
    | tup hs ha =>
      cases r
      obtain ⟨its, rv, ⟨o, ho, hc, n, hd⟩, _⟩ := I.tuple hs
      obtain ⟨as, hr, q⟩ := DqAll.reads I ds _ its ha rv
      exact ⟨_, Reads.tuple ho hc hd hr, q⟩
  | .dict kvs, _, _, h, r => by
    cases h with
    | emp h =>
      cases r
      obtain ⟨_, ne, vs, rel, dd⟩ := dk_of I.hok h
      cases rel
      obtain ⟨o, es, ep, ho, hx, hd, _, hp, _⟩ := dd
      have e0 : es.toList = [] := by
        generalize es.toList = l at hp
        cases hp
        rfl
      refine ⟨_, Reads.dict (as := []) (bs := []) ho hx.1 hd (by rw [e0]; exact .nil) (by rw [e0]; exact .nil), fun _ m => ?_⟩
      rcases List.mem_append.mp m with m | m
      · rcases List.mem_cons.mp m with m | m
        · rw [← m] at ne
          cases ne
        · cases m
      · cases m
theorem DqAll.reads (I : Inv X pins σ H s) : ∀ (ds : List PyData) (vs : List V) (us : List Value), DqAll X.K H vs ds → Vals vs us → ∃ as, ReadsAll s.heap us ds as ∧ (noLAll ds = true → sysModules ∉ as)
  | [], _, _, h, r => by
    cases h
    cases r
    exact ⟨_, .nil, fun _ z => nomatch z⟩
  | d :: ds, _, _, h, r => by
    cases h with
    | cons h1 h2 =>
      cases r with
      | cons r1 r2 =>
        obtain ⟨as, q1, n1⟩ := Dq.reads I d _ _ h1 r1
        obtain ⟨bs, q2, n2⟩ := DqAll.reads I ds _ _ h2 r2
        refine ⟨_, .cons q1 q2, fun z => ?_⟩
        obtain ⟨z1, z2⟩ := (Bool.and_eq_true _ _).mp (show (noL d && noLAll ds) = true from z)
        exact fun m => (List.mem_append.mp m).elim (n1 z1) (n2 z2)
end
end
end Cv

/-! displays of data: what an expression gives, by its reading -/
namespace Cv
open PySem PySem.Spec PyProof.Rows L2 CvT CvS CvW CvD CvR
/-- data of the level e, of the sort f -/
def Ok (K : PySem.W.Frag) (e f : Nat) (H : Hp) (x : V) : Prop := ∃ d, Dq K H x d ∧ sm e f d
theorem Ok.up {K : PySem.W.Frag} {e f : Nat} {H H' : Hp} {x : V} (s : Same H H') (h : Ok K e f H x) : Ok K e f H' x := by
  obtain ⟨d, h, g⟩ := h
  exact ⟨d, Dq.up s _ h, g⟩
theorem okAll {K : PySem.W.Frag} {e f : Nat} {H : Hp} : ∀ {xs : List V}, (∀ x ∈ xs, Ok K e f H x) → ∃ ds, DqAll K H xs ds ∧ ∀ d ∈ ds, sm e f d
  | [], _ => ⟨[], .nil, fun _ h => nomatch h⟩
  | x :: xs, h => by
    obtain ⟨d, hd, g⟩ := h x List.mem_cons_self
    obtain ⟨ds, hs, gs⟩ := okAll fun y hy => h y (List.mem_cons_of_mem _ hy)
    exact ⟨d :: ds, .cons hd hs, fun y hy => (List.mem_cons.mp hy).elim (fun z => z ▸ g) (gs y)⟩
theorem flv_no {d : PyData} {f : Nat} (hf : f ≤ 1) (h : flv f d) : d.hasDict = false := match f, hf, h with
  | 0, _, h => h.1
  | 1, _, h => h
theorem ok_tup {K : PySem.W.Frag} {e f : Nat} {H : Hp} {a : Addr} {xs : List V} (h : SqT K H a xs) (hx : ∀ x ∈ xs, Ok K e 1 H x) (hl : xs.length ≤ 30) : Ok K (e + 1) (f + 1) H (.ref a) := by
  obtain ⟨ds, hs, hd⟩ := okAll hx
  rw [hs.len] at hl
  refine ⟨.tuple ds, .tup h hs, fun ds' z => ?_, lvl_tup hl fun d hd' => (hd d hd').2.1, flv_of1 (show PyData.hasDictAll ds = false from hasD_all fun d hd' => (hd d hd').2.2)⟩
  cases z
  exact hl
theorem ok_lst {K : PySem.W.Frag} {e f : Nat} {H : Hp} {a : Addr} {xs : List V} (h : SqL K H a xs) (hx : ∀ x ∈ xs, Ok K e 1 H x) (hl : xs.length ≤ 30) : Ok K (e + 1) (f + 1) H (.ref a) := by
  obtain ⟨ds, hs, hd⟩ := okAll hx
  rw [hs.len] at hl
  exact ⟨.list ds, .lst h hs, fun ds' z => (by cases z), lvl_lst hl fun d hd' => (hd d hd').2.1, flv_of1 (show PyData.hasDictAll ds = false from hasD_all fun d hd' => (hd d hd').2.2)⟩
/-- the heap without p -/
def rm (p : Addr) (H : Hp) : Hp := fun a => if a = p then none else H a
theorem rm_same {p : Addr} {H H' : Hp} (s : Same H H') : Same (rm p H) (rm p H') := fun a o e => by
  unfold rm at e ⊢
  by_cases z : a = p
  · rw [if_pos z] at e
    cases e
  · rw [if_neg z] at e ⊢
    exact s _ _ e
theorem rm_but {p : Addr} {H H' : Hp} (s : But p H H') : Same (rm p H) (rm p H') := fun a o e => by
  unfold rm at e ⊢
  by_cases z : a = p
  · rw [if_pos z] at e
    cases e
  · rw [if_neg z] at e ⊢
    exact s _ _ e z
theorem rm_le {p : Addr} {H : Hp} : Same (rm p H) H := fun a o e => by
  unfold rm at e
  by_cases z : a = p
  · rw [if_pos z] at e
    cases e
  · rw [if_neg z] at e
    exact e
theorem rm_at {p a : Addr} {H : Hp} {o : HO} (ne : a ≠ p) (h : H a = some o) : rm p H a = some o := by
  unfold rm
  rw [if_neg ne]
  exact h
theorem rm_new {p q : Addr} {H : Hp} {u : HO} (hp : ∃ o, H p = some o) (nq : H q = none) : rm p (upd H q u) q = some u := by
  obtain ⟨o, e⟩ := hp
  exact rm_at (fun z => by rw [z, e] at nq; cases nq) upd_same
theorem CvAt.rm' {K : PySem.W.Frag} {p l a : Addr} {N : Nat} {H : Hp} {ts : List Addr} {c : List (Int × Int)} (P : PenAt H p l N) (h : CvAt K H a ts c) : CvAt K (rm p H) a ts c := by
  obtain ⟨⟨i, r, e, _⟩, _⟩ := P
  have t : ∀ {b : Addr} {xs : List V}, SqT K H b xs → SqT K (rm p H) b xs := fun {b xs} h => by
    rcases h with (h | ⟨o, h⟩) | h
    · exact .inl (.inl (rm_at (fun z => by rw [z, e] at h; cases h) h))
    · exact .inl (.inr ⟨o, rm_at (fun z => by rw [z, e] at h; cases h) h⟩)
    · exact .inr h
  exact ⟨t h.sq, h.len, fun i u q h1 h2 => t (h.it i u q h1 h2)⟩
theorem sqL_lst {K : PySem.W.Frag} {H : Hp} {a : Addr} {xs : List V} (h : H a = some (.lst xs)) : SqL K H a xs := SqL.of h
section
variable {K : PySem.W.Frag} {σ : L2.St} {H0 : Hp} {p0 : Addr} {e f : Nat}
/-- gives data that stand without p0 -/
def Gv (K : PySem.W.Frag) (p0 : Addr) (e f : Nat) (te : TE) (σ : L2.St) (H0 : Hp) : Prop := ∀ H Q, (∃ o, H p0 = some o) → Same H0 H → (∀ y H', Same H H' → Ok K e f (rm p0 H') y → Q y H') → te σ H Q
def GvA (K : PySem.W.Frag) (p0 : Addr) (e f : Nat) (ta : TA) (σ : L2.St) (H0 : Hp) (n : Nat) : Prop := ∀ H Q, (∃ o, H p0 = some o) → Same H0 H → (∀ ys H', Same H H' → ys.length = n → (∀ y ∈ ys, Ok K e f (rm p0 H') y) → Q ys H') → ta σ H Q
/-- gives a tuple of at most m items -/
def Gt (K : PySem.W.Frag) (p0 : Addr) (e f : Nat) (te : TE) (σ : L2.St) (H0 : Hp) (m : Nat) : Prop := ∀ H Q, (∃ o, H p0 = some o) → Same H0 H → (∀ a xs H', Same H H' → SqT K (rm p0 H') a xs → xs.length ≤ m → (∀ x ∈ xs, Ok K e f (rm p0 H') x) → Q (.ref a) H') → te σ H Q
/-- gives a list of n items -/
def Gl (K : PySem.W.Frag) (p0 : Addr) (e f : Nat) (te : TE) (σ : L2.St) (H0 : Hp) (n : Nat) : Prop := ∀ H Q, (∃ o, H p0 = some o) → Same H0 H → (∀ a xs H', Same H H' → rm p0 H' a = some (.lst xs) → xs.length = n → (∀ x ∈ xs, Ok K e f (rm p0 H') x) → Q (.ref a) H') → te σ H Q
theorem gone {H H' : Hp} (h : ∃ o, H p0 = some o) (s : Same H H') : ∃ o, H' p0 = some o := let ⟨o, e⟩ := h; ⟨o, s _ _ e⟩
theorem sm_bl {b : Bool} : sm e f (.bool b) := sm_leaf ⟨⟨Nat.zero_le _, rfl, rfl, Nat.zero_le _⟩, rfl, rfl⟩ fun _ z => by cases z
theorem sm_non : sm e f .none := sm_leaf ⟨⟨Nat.zero_le _, rfl, rfl, Nat.zero_le _⟩, rfl, rfl⟩ fun _ z => by cases z
def strOk (x : Str) : Bool := PyData.leavesShort 8 (.str x) && decide (x.cps.size ≤ 10)
theorem sm_str {x : Str} (h : strOk x = true) : sm e f (.str x) := by
  unfold strOk at h
  rw [Bool.and_eq_true, decide_eq_true_eq] at h
  exact sm_leaf ⟨⟨Nat.zero_le _, h.1, rfl, h.2⟩, rfl, rfl⟩ fun _ z => by cases z
theorem sm_emp : sm (e + 1) (f + 2) (.dict []) := ⟨fun _ z => (by cases z), ⟨Nat.succ_le_succ (Nat.zero_le _), rfl, rfl, Nat.zero_le _⟩, .inr rfl⟩
theorem gv_int {i : Int} (h : intOk i = true := by decide +kernel) : Gv K p0 e f (tC (.int i)) σ H0 := fun H Q _ s q => q _ H (Same.refl H) ⟨_, .int i, sm_int h⟩
theorem gv_bl {b : Bool} : Gv K p0 e f (tC (.bl b)) σ H0 := fun H Q _ s q => q _ H (Same.refl H) ⟨_, .bl b, sm_bl⟩
theorem gv_non : Gv K p0 e f (tC .non) σ H0 := fun H Q _ s q => q _ H (Same.refl H) ⟨_, .non, sm_non⟩
theorem gv_str {x : Str} (h : strOk x = true := by decide +kernel) : Gv K p0 e f (tC (.str x)) σ H0 := fun H Q _ s q => q _ H (Same.refl H) ⟨_, .str x, sm_str h⟩
theorem gv_neg {i : Int} (h : intOk (-i) = true := by decide +kernel) : Gv K p0 e f (tUn (rU fun i => .int (-i)) (tC (.int i))) σ H0 := fun H Q _ s q => ⟨i, rfl, q _ H (Same.refl H) ⟨_, .int _, sm_int h⟩⟩
theorem gv_emp : Gv K p0 (e + 1) (f + 2) tDNewK σ H0 := fun H Q hp s q => fun p np => q _ _ (same_upd np) ⟨_, .emp (rm_new hp np), sm_emp⟩
theorem gvA_nil : GvA K p0 e f tNil σ H0 0 := fun H Q _ s q => q [] H (Same.refl H) rfl fun y h => by simp at h
theorem gvA_cons {te : TE} {ta : TA} {n : Nat} (h : Gv K p0 e f te σ H0) (g : GvA K p0 e f ta σ H0 n) : GvA K p0 e f (tCons te ta) σ H0 (n + 1) := fun H Q hp s q =>
  h H _ hp s fun y H1 s1 o1 => g H1 _ (gone hp s1) (s.trans s1) fun ys H2 s2 l2 o2 => q (y :: ys) H2 (s1.trans s2) (congrArg (· + 1) l2) fun x hx => (List.mem_cons.mp hx).elim (fun e => e ▸ o1.up (rm_same s2)) (o2 x)
theorem gl_lst {ta : TA} {n : Nat} (h : GvA K p0 e f ta σ H0 n) (hn : n ≤ 1000) : Gl K p0 e f (tLst ta) σ H0 n := fun H Q hp s q =>
  h H _ hp s fun ys H1 s1 l1 o1 => ⟨by rw [sizeLine_eq]; omega, fun p np => q p ys _ (s1.trans (same_upd np)) (rm_new (gone hp s1) np) l1 fun x hx => (o1 x hx).up (rm_same (same_upd np))⟩
theorem gt_tup {ta : TA} {n : Nat} (h : GvA K p0 e f ta σ H0 n) (hn : n ≤ 1000) : Gt K p0 e f (tTup ta) σ H0 n := fun H Q hp s q =>
  h H _ hp s fun ys H1 s1 l1 o1 => ⟨by rw [sizeLine_eq]; omega, fun p np => q p ys _ (s1.trans (same_upd np)) (SqT.of (rm_new (gone hp s1) np)) (Nat.le_of_eq l1) fun x hx => (o1 x hx).up (rm_same (same_upd np))⟩
theorem gv_lst {te : TE} {n : Nat} (h : Gl K p0 e 1 te σ H0 n) (hm : n ≤ 30 := by decide) : Gv K p0 (e + 1) (f + 1) te σ H0 := fun H Q hp s q => h H _ hp s fun a xs H1 s1 h1 n1 o1 => q _ H1 s1 (ok_lst (SqL.of h1) o1 (by omega))
theorem gv_tup {te : TE} {m : Nat} (h : Gt K p0 e 1 te σ H0 m) (hm : m ≤ 30) : Gv K p0 (e + 1) (f + 1) te σ H0 := fun H Q hp s q => h H _ hp s fun a xs H1 s1 h1 l1 o1 => q _ H1 s1 (ok_tup h1 o1 (by omega))
theorem gl_cat {ta tb : TE} {m n : Nat} (h : Gl K p0 e f ta σ H0 m) (g : Gl K p0 e f tb σ H0 n) (hmn : m + n ≤ 1000) : Gl K p0 e f (tOp rCat ta tb) σ H0 (m + n) := fun H Q hp s q =>
  h H _ hp s fun a xs H1 s1 h1 l1 o1 => g H1 _ (gone hp s1) (s.trans s1) fun b ys H2 s2 h2 l2 o2 => ⟨a, b, xs, ys, rfl, rfl, s2 _ _ (rm_le _ _ h1), rm_le _ _ h2, by rw [sizeLine_eq]; omega, fun p np =>
    q p (xs ++ ys) _ (s1.trans (s2.trans (same_upd np))) (rm_new (gone hp (s1.trans s2)) np) (by rw [List.length_append]; omega) fun x hx =>
      (List.mem_append.mp hx).elim (fun z => (o1 x z).up (rm_same (s2.trans (same_upd np)))) fun z => (o2 x z).up (rm_same (same_upd np))⟩
theorem gl_var {i : Nat} {a : Addr} {xs : List V} (hσ : σ[i]? = some (some (.ref a))) (ha : rm p0 H0 a = some (.lst xs)) (ho : ∀ x ∈ xs, Ok K e f (rm p0 H0) x) : Gl K p0 e f (tVar i) σ H0 xs.length := fun H Q _ s q =>
  ⟨.ref a, hσ, q a xs H (Same.refl H) (rm_same s _ _ ha) rfl fun x hx => (ho x hx).up (rm_same s)⟩
theorem gt_var {i : Nat} {a : Addr} {xs : List V} {m : Nat} (hσ : σ[i]? = some (some (.ref a))) (ha : SqT K (rm p0 H0) a xs) (hm : xs.length ≤ m) (ho : ∀ x ∈ xs, Ok K e f (rm p0 H0) x) : Gt K p0 e f (tVar i) σ H0 m := fun H Q _ s q =>
  ⟨.ref a, hσ, q a xs H (Same.refl H) (SqT.up (rm_same s) ha) hm fun x hx => (ho x hx).up (rm_same s)⟩
theorem gt_cat {ta tb : TE} {m n : Nat} (h : Gt K p0 e f ta σ H0 m) (g : Gt K p0 e f tb σ H0 n) (hmn : m + n ≤ 1000) : Gt K p0 e f (tOp (rCatA K) ta tb) σ H0 (m + n) := fun H Q hp s q =>
  h H _ hp s fun a xs H1 s1 h1 l1 o1 => g H1 _ (gone hp s1) (s.trans s1) fun b ys H2 s2 h2 l2 o2 => ⟨a, b, xs, ys, rfl, rfl, SqT.up (rm_le.trans s2) h1, SqT.up rm_le h2, by rw [sizeLine_eq]; omega, fun _ => q b ys H2 (s1.trans s2) h2 (by omega) o2,
    fun _ _ => q a xs H2 (s1.trans s2) (SqT.up (rm_same s2) h1) (by omega) fun x hx => (o1 x hx).up (rm_same s2), fun _ _ p np => q p (xs ++ ys) _ (s1.trans (s2.trans (same_upd np))) (SqT.of (rm_new (gone hp (s1.trans s2)) np)) (by rw [List.length_append]; omega) fun x hx =>
      (List.mem_append.mp hx).elim (fun z => (o1 x z).up (rm_same (s2.trans (same_upd np)))) fun z => (o2 x z).up (rm_same (same_upd np))⟩
theorem gt_sl {ta : TE} {tl th : TO} {m : Nat} (h : Gt K p0 e f ta σ H0 m) (hl : ∀ H Q, (∀ o, Q o H) → tl σ H Q) (hh : ∀ H Q, (∀ o, Q o H) → th σ H Q) : Gt K p0 e f (tSl (rSlA K) ta tl th) σ H0 m := fun H Q hp s q =>
  h H _ hp s fun a xs H1 s1 h1 l1 o1 => hl H1 _ fun lo => hh H1 _ fun hi => ⟨a, xs, rfl, SqT.up rm_le h1, fun _ => q a xs H1 s1 h1 l1 o1, fun _ p np => q p (cutV xs lo hi) _ (s1.trans (same_upd np)) (SqT.of (rm_new (gone hp s1) np))
    (by unfold cutV; rw [List.length_take, List.length_drop]; omega) fun x hx => (o1 x (by unfold cutV at hx; exact List.mem_of_mem_drop (List.mem_of_mem_take hx))).up (rm_same (same_upd np))⟩
theorem gt_rev {ta : TE} {m : Nat} (h : Gt K p0 e f ta σ H0 m) : Gt K p0 e f (tRevT K ta) σ H0 m := fun H Q hp s q =>
  h H _ hp s fun a xs H1 s1 h1 l1 o1 => ⟨a, xs, rfl, SqT.up rm_le h1, fun p np => q p xs.reverse _ (s1.trans (same_upd np)) (SqT.of (rm_new (gone hp s1) np)) (by rw [List.length_reverse]; exact l1) fun x hx => (o1 x (List.mem_reverse.mp hx)).up (rm_same (same_upd np))⟩
theorem way_ok {c : List (Int × Int)} (g : Good c) {p : Int × Int} (h : p ∈ c) : intOk p.1 = true ∧ intOk p.2 = true := by
  have z := g.rg p h
  obtain ⟨z0, z1, z2⟩ := z
  exact ⟨int99 (by omega) (by omega), int99 (by omega) (by omega)⟩
/-- a way of the cave in slot i, at the place of the index -/
theorem gt_way {i : Nat} {a : Addr} {ts : List Addr} {c : List (Int × Int)} {ti : TE} {j : Nat} (hσ : σ[i]? = some (some (.ref a))) (hc : CvAt K (rm p0 H0) a ts c) (g : Good c) (hj : j < c.length) (hi : ∀ H Q, Q (.int j) H → ti σ H Q) : Gt K p0 e f (tOp (rIxT K) (tVar i) ti) σ H0 2 := fun H Q _ s q => by
  have hjt : j < ts.length := by rw [hc.len]; exact hj
  have e : (ts.map V.ref)[j]? = some (.ref ts[j]) := by rw [List.getElem?_map, List.getElem?_eq_getElem hjt]; rfl
  obtain ⟨p, hp, hw⟩ := cv_get (hc.up (rm_same s)) (List.getElem?_eq_getElem hjt)
  obtain ⟨r1, r2⟩ := way_ok g (List.mem_of_getElem? hp)
  refine ⟨.ref a, hσ, hi H _ ⟨a, _, j, .ref ts[j], rfl, rfl, (hc.up ((rm_same s).trans rm_le)).sq, atI_nat e, q ts[j] _ H (Same.refl H) hw (Nat.le_refl _) fun x hx => ?_⟩⟩
  rcases List.mem_cons.mp hx with rfl | hx
  · exact ⟨_, .int _, sm_int r1⟩
  · rw [List.mem_singleton.mp hx]
    exact ⟨_, .int _, sm_int r2⟩
theorem glU {te : TE} {n : Nat} {H : Hp} {Q : VK} (h : Gl K p0 e f te σ H n) (hp : ∃ o, H p0 = some o) (q : ∀ a xs H', Same H H' → rm p0 H' a = some (.lst xs) → xs.length = n → (∀ x ∈ xs, Ok K e f (rm p0 H') x) → Q (.ref a) H') : te σ H Q := h H Q hp (Same.refl H) q
theorem gvU {te : TE} {H : Hp} {Q : VK} (h : Gv K p0 e f te σ H) (hp : ∃ o, H p0 = some o) (q : ∀ y H', Same H H' → Ok K e f (rm p0 H') y → Q y H') : te σ H Q := h H Q hp (Same.refl H) q
theorem gtU {te : TE} {m : Nat} {H : Hp} {Q : VK} (h : Gt K p0 e f te σ H m) (hp : ∃ o, H p0 = some o) (q : ∀ a xs H', Same H H' → SqT K (rm p0 H') a xs → xs.length ≤ m → (∀ x ∈ xs, Ok K e f (rm p0 H') x) → Q (.ref a) H') : te σ H Q := h H Q hp (Same.refl H) q
theorem asgI {te : TE} {i : Nat} {D : Ends} {H : Hp} (h : te σ H fun x H1 => D.nx (σ.set i (some x)) H1) : tAsg te (gName i) D σ H := h
theorem retI {te : TE} {D : Ends} {H : Hp} (h : te σ H D.rt) : tRet te D σ H := h
/-- list(t) -/
def rLof (K : PySem.W.Frag) : List V → Hp → VK → Prop := fun xs H Q => ∃ p ys, xs = [.ref p] ∧ (SqL K H p ys ∨ SqT K H p ys) ∧ ∀ l, H l = none → Q (.ref l) (upd H l (.lst ys))
theorem gv_lof {ta : TE} {m : Nat} (h : Gt K p0 e 1 ta σ H0 m) (hm : m ≤ 30 := by decide) : Gv K p0 (e + 1) (f + 1) (tCB (rLof K) (tCons ta tNil)) σ H0 := fun H Q hp s q =>
  h H _ hp s fun a xs H1 s1 h1 l1 o1 => ⟨a, xs, rfl, .inr (SqT.up rm_le h1), fun p np => q _ _ (s1.trans (same_upd np)) (ok_lst (SqL.of (rm_new (gone hp s1) np)) (fun x hx => (o1 x hx).up (rm_same (same_upd np))) (by omega))⟩
theorem sm_way {p : Int × Int} (h1 : intOk p.1 = true) (h2 : intOk p.2 = true) : sm (e + 1) f (wayD p) := by
  have l : lvl (e + 1) (wayD p) := lvl_tup (ds := [.int p.1, .int p.2]) (by simp) fun d hd => by
    rcases List.mem_cons.mp hd with rfl | hd
    · exact (sm_int (e := e) (f := 0) h1).2.1
    · rw [List.mem_singleton.mp hd]
      exact (sm_int (e := e) (f := 0) h2).2.1
  exact ⟨fun ds z => (by cases z; simp), l, flv_of0 rfl rfl⟩
theorem CvAt.oks {a : Addr} {ts : List Addr} {c : List (Int × Int)} {H : Hp} (h : CvAt K H a ts c) (g : Good c) : ∀ x ∈ ts.map V.ref, Ok K (e + 1) f H x := fun x hx => by
  obtain ⟨t, ht, rfl⟩ := List.mem_map.mp hx
  obtain ⟨j, hj, rfl⟩ := List.getElem_of_mem ht
  obtain ⟨p, hp, hw⟩ := cv_get h (List.getElem?_eq_getElem hj)
  obtain ⟨r1, r2⟩ := way_ok g (List.mem_of_getElem? hp)
  exact ⟨wayD p, .tup hw (.cons (.int _) (.cons (.int _) .nil)), sm_way r1 r2⟩
end
end Cv

/-! objects that are no caves -/
namespace Cv
open PySem PySem.Spec PyProof.Rows L2 CvT CvS CvW CvD CvR
abbrev sOd : Stmt := topS 23
theorem scOd : FnScope ["cave", "found"] ["cave"] (defScope sOd) := ⟨rfl, rfl, rfl, by decide +kernel, rfl, by decide +kernel, by decide +kernel⟩
def spOd (K : PySem.W.Frag) : Sp := fun vs H Q _ => ∃ (p0 a : Addr) (ts : List Addr) (c : List (Int × Int)), vs = [.ref a] ∧ (∃ o, H p0 = some o) ∧ CvAt K (rm p0 H) a ts c ∧ Good c ∧ c.length ≤ 11 ∧
  ∀ H' r xs, Same H H' → rm p0 H' r = some (.lst xs) → xs.length = 21 → (∀ x ∈ xs, Ok K 3 2 (rm p0 H') x) → Q (.ref r) H'
section
variable {P : Program} {w : World} {K : PySem.W.Frag} {mg : Str → Option Value} {base : Heap}
theorem ok_od {f : Addr} {fd : FuncData} {k : Nat} (F : Fun K "_law_odd_caves" "_law_odd_caves" sOd f fd) (T : TxtI mg) : FnOk P w K mg base CX0 (k + 1) f fd ["cave"] (spOd K) := by
  refine F.ok scOd (fun vs H Q E h => ?_) (fun cdv A outer s H vs Q E hr h => ?_)
  · obtain ⟨p0, a, ts, c, rfl, _⟩ := h
    rfl
  · obtain ⟨p0, a, ts, c, rfl, hp, hc, g, l11, q⟩ := h
    have cpos : 0 < c.length := List.length_pos_iff.mpr g.ne
    refine ⟨_, pss_cons (ps_set (i := 1) scOd.nd rfl (.inl rfl) (pe_lst (pa_cons pe_non (pa_cons (pe_tup pa_nil) (pa_cons (pe_lst pa_nil) (pa_cons pe_dnewK (pa_cons pe_int (pa_cons pe_str (pa_cons (pe_callTy call_list_of (by rfl) T.list (by decide +kernel) (pa_cons (pv 0) pa_nil))
          (pa_cons (pe_op op_catA (pv 0) (pe_slice sl_tupA (pv 0) po_none (po_some pe_int))) (pa_cons (pe_op op_catA (pv 0) (pe_tup (pa_cons (pe_tup (pa_cons pe_int (pa_cons pe_int pa_nil))) pa_nil))) (pa_cons (pe_op op_catA (pv 0) (pe_tup (pa_cons (pe_tup (pa_cons pe_int (pa_cons pe_int pa_nil))) pa_nil))) pa_nil))))))))))))
      (pss_cons (ps_set (i := 1) scOd.nd rfl (.inl rfl) (pe_op op_cat (pv 1) (pe_lst (pa_cons (pe_op op_catA (pe_tup (pa_cons (pe_tup (pa_cons pe_int (pa_cons pe_int pa_nil))) pa_nil)) (pv 0))
          (pa_cons (pe_op op_catA (pe_tup (pa_cons (pe_revT (pe_ix ix_tup (pv 0) pe_int (fun _ _ => rfl))) pa_nil)) (pe_slice sl_tupA (pv 0) (po_some pe_int) po_none))
          (pa_cons (pe_op op_catA (pe_tup (pa_cons (pe_callTy call_list_of (by rfl) T.list (by decide +kernel) (pa_cons (pe_ix ix_tup (pv 0) pe_int (fun _ _ => rfl)) pa_nil)) pa_nil)) (pe_slice sl_tupA (pv 0) (po_some pe_int) po_none)) pa_nil))))))
      (pss_cons (ps_set (i := 1) scOd.nd rfl (.inl rfl) (pe_op op_cat (pv 1) (pe_lst (pa_cons (pe_tup (pa_cons (pv 0) pa_nil)) (pa_cons (pe_op op_catA (pv 0) (pe_tup (pa_cons pe_non pa_nil))) pa_nil)))))
      (pss_one (ps_ret (pe_op op_cat (pv 1) (pe_lst (pa_cons (pe_tup (pa_cons (pe_tup (pa_cons pe_bl (pa_cons pe_int pa_nil))) pa_nil)) (pa_cons (pe_tup (pa_cons (pe_tup (pa_cons pe_int (pa_cons pe_bl pa_nil))) pa_nil)) (pa_cons (pe_tup (pa_cons (pe_tup (pa_cons (pe_un un_neg pe_int) (pa_cons pe_int pa_nil))) pa_nil))
        (pa_cons (pe_tup (pa_cons (pe_tup (pa_cons pe_int (pa_cons pe_int (pa_cons pe_int pa_nil)))) pa_nil)) (pa_cons (pe_tup (pa_cons (pe_tup (pa_cons pe_int pa_nil)) pa_nil)) (pa_cons (pe_tup (pa_cons pe_str pa_nil)) pa_nil))))))))))))  , ?_⟩
    have cv : ∀ {e f : Nat} {σ : L2.St} {H' : Hp}, σ[0]? = some (some (.ref a)) → Same H H' → Gt K p0 (e + 1) f (tVar 0) σ H' 11 := fun h s => gt_var h (hc.up (rm_same s)).sq (by rw [List.length_map, hc.len]; exact l11) ((hc.up (rm_same s)).oks g)
    have sl : ∀ {i : Nat} {σ : L2.St} (H : Hp) (Q : Option Int → Hp → Prop), (∀ o, Q o H) → tPart (tC (.int i)) σ H Q := fun H Q q => ⟨_, rfl, q _⟩
    have pr : ∀ {e f : Nat} {i j : Int} {σ : L2.St} {H' : Hp} (hi : intOk i = true := by decide +kernel) (hj : intOk j = true := by decide +kernel), Gt K p0 e f (tTup (tCons (tC (.int i)) (tCons (tC (.int j)) tNil))) σ H' 2 := fun hi hj => gt_tup (gvA_cons (gv_int hi) (gvA_cons (gv_int hj) gvA_nil)) (by decide)
    have on : ∀ {e f : Nat} {te : TE} {σ : L2.St} {H' : Hp}, Gv K p0 e f te σ H' → Gt K p0 e f (tTup (tCons te tNil)) σ H' 1 := fun h => gt_tup (gvA_cons h gvA_nil) (by decide)
    refine seqI (asgI ?_)
    refine glU (K := K) (p0 := p0) (e := 3) (f := 2) (n := 10) ?_ hp fun l1 xs1 H1 s1 h1 n1 o1 => ?_
    · exact gl_lst (gvA_cons gv_non (gvA_cons (gv_tup (gt_tup gvA_nil (by decide)) (by decide)) (gvA_cons (gv_lst (gl_lst gvA_nil (by decide))) (gvA_cons gv_emp (gvA_cons gv_int (gvA_cons gv_str (gvA_cons (gv_lof (cv rfl (Same.refl H)))
        (gvA_cons (gv_tup (gt_cat (cv rfl (Same.refl H)) (gt_sl (cv rfl (Same.refl H)) (fun _ _ q => q _) (sl (i := 1))) (by decide)) (by decide)) (gvA_cons (gv_tup (gt_cat (cv rfl (Same.refl H)) (on (gv_tup pr (by decide))) (by decide)) (by decide))
        (gvA_cons (gv_tup (gt_cat (cv rfl (Same.refl H)) (on (gv_tup pr (by decide))) (by decide)) (by decide)) gvA_nil)))))))))) (by decide)
    dsimp only
    have cv1 : ∀ {e f : Nat} {σ : L2.St}, σ[0]? = some (some (.ref a)) → Gt K p0 (e + 1) f (tVar 0) σ H1 11 := fun h => cv h s1
    have wy : ∀ {e f : Nat} {σ : L2.St} {H' : Hp}, σ[0]? = some (some (.ref a)) → Same H H' → Gt K p0 e f (tOp (rIxT K) (tVar 0) (tC (.int 0))) σ H' 2 := fun h s => gt_way (j := 0) h (hc.up (rm_same s)) g cpos fun H Q q => q
    refine seqI (asgI ?_)
    refine glU (K := K) (p0 := p0) (e := 3) (f := 2) (n := xs1.length + 3) ?_ (gone hp s1) fun l2 xs2 H2 s2 h2 n2 o2 => ?_
    · exact gl_cat (gl_var rfl h1 o1) (gl_lst (gvA_cons (gv_tup (gt_cat (on (gv_tup pr (by decide))) (cv1 rfl) (by decide)) (by decide))
        (gvA_cons (gv_tup (gt_cat (on (gv_tup (gt_rev (wy rfl s1)) (by decide))) (gt_sl (cv1 rfl) (sl (i := 1)) (fun _ _ q => q _)) (by decide)) (by decide))
        (gvA_cons (gv_tup (gt_cat (on (gv_lof (wy rfl s1))) (gt_sl (cv1 rfl) (sl (i := 1)) (fun _ _ q => q _)) (by decide)) (by decide)) gvA_nil))) (by decide)) (by omega)
    dsimp only
    have s02 := s1.trans s2
    have cv2 : ∀ {e f : Nat} {σ : L2.St}, σ[0]? = some (some (.ref a)) → Gt K p0 (e + 1) f (tVar 0) σ H2 11 := fun h => cv h s02
    refine seqI (asgI ?_)
    refine glU (K := K) (p0 := p0) (e := 3) (f := 2) (n := xs2.length + 2) ?_ (gone hp s02) fun l3 xs3 H3 s3 h3 n3 o3 => ?_
    · exact gl_cat (gl_var rfl h2 o2) (gl_lst (gvA_cons (gv_tup (on (gv_tup (cv2 rfl) (by decide))) (by decide)) (gvA_cons (gv_tup (gt_cat (cv2 rfl) (on gv_non) (by decide)) (by decide)) gvA_nil)) (by decide)) (by omega)
    dsimp only
    refine retI ?_
    refine glU (K := K) (p0 := p0) (e := 3) (f := 2) (n := xs3.length + 6) ?_ (gone hp (s02.trans s3)) fun l4 xs4 H4 s4 h4 n4 o4 => ?_
    · exact gl_cat (gl_var rfl h3 o3) (gl_lst (gvA_cons (gv_tup (on (gv_tup (gt_tup (gvA_cons gv_bl (gvA_cons gv_int gvA_nil)) (by decide)) (by decide))) (by decide)) (gvA_cons (gv_tup (on (gv_tup (gt_tup (gvA_cons gv_int (gvA_cons gv_bl gvA_nil)) (by decide)) (by decide))) (by decide))
        (gvA_cons (gv_tup (on (gv_tup (gt_tup (gvA_cons gv_neg (gvA_cons gv_int gvA_nil)) (by decide)) (by decide))) (by decide)) (gvA_cons (gv_tup (on (gv_tup (gt_tup (gvA_cons gv_int (gvA_cons gv_int (gvA_cons gv_int gvA_nil))) (by decide)) (by decide))) (by decide))
        (gvA_cons (gv_tup (on (gv_tup (on gv_int) (by decide))) (by decide)) (gvA_cons (gv_tup (on gv_str) (by decide)) gvA_nil)))))) (by decide)) (by omega)
    exact q H4 l4 xs4 (s02.trans (s3.trans s4)) h4 (by omega) o4
end
end Cv

/-! objects near caves -/
namespace Cv
open PySem PySem.Spec PyProof.Rows L2 CvT CvS CvW CvD CvR
/-- t + u, what comes of it told once -/
def rCatB (K : PySem.W.Frag) : R2 := fun x y H Q => ∃ a b xs ys, x = .ref a ∧ y = .ref b ∧ SqT K H a xs ∧ SqT K H b ys ∧ xs.length + ys.length ≤ sizeLine ∧ ∀ c H', Same H H' → SqT K H' c (xs ++ ys) → Q (.ref c) H'
theorem op_catB {X : Cx} : OpR X (binaryOp .Add) (rCatB X.K) := by
  intro pins s σ H x y v u Q I rx ry h
  obtain ⟨a, b, xs, ys, rfl, rfl, ha, hb, hz, q⟩ := h
  refine op_catA pins s σ H _ _ v u Q I rx ry ⟨a, b, xs, ys, rfl, rfl, ha, hb, hz, fun e => ?_, fun _ e => ?_, fun _ _ p np => q p _ (same_upd np) (SqT.of upd_same)⟩
  · subst e
    exact q b H (Same.refl H) hb
  · subst e
    exact q a H (Same.refl H) (by rw [List.append_nil]; exact ha)
theorem opI {r : R2} {ta tb : TE} {σ : L2.St} {H : Hp} {Q : VK} (h : ta σ H fun x H1 => tb σ H1 fun y H2 => r x y H2 Q) : tOp r ta tb σ H Q := h
theorem hasD_app : ∀ {xs ys : List PyData}, PyData.hasDictAll (xs ++ ys) = (PyData.hasDictAll xs || PyData.hasDictAll ys)
  | [], _ => rfl
  | x :: xs, ys => by
    show (PyData.hasDict x || PyData.hasDictAll (xs ++ ys)) = ((PyData.hasDict x || PyData.hasDictAll xs) || PyData.hasDictAll ys)
    rw [hasD_app, Bool.or_assoc]
theorem noL_app : ∀ {xs ys : List PyData}, noLAll (xs ++ ys) = (noLAll xs && noLAll ys)
  | [], _ => rfl
  | x :: xs, ys => by
    show (noL x && noLAll (xs ++ ys)) = ((noL x && noLAll xs) && noLAll ys)
    rw [noL_app, Bool.and_assoc]
theorem DqAll.app {K : PySem.W.Frag} {H : Hp} : ∀ {xs ys : List V} {ds es : List PyData}, DqAll K H xs ds → DqAll K H ys es → DqAll K H (xs ++ ys) (ds ++ es)
  | _, _, _, _, .nil, h => h
  | _, _, _, _, .cons a b, h => .cons a (DqAll.app b h)
/-- plain ones, one of any sort, plain ones -/
theorem ok_mid {K : PySem.W.Frag} {e : Nat} {H : Hp} {a : Addr} {xs ys : List V} {y : V} (h : SqT K H a (xs ++ [y] ++ ys)) (hx : ∀ x ∈ xs, Ok K e 0 H x) (hm : Ok K e 2 H y) (hy : ∀ x ∈ ys, Ok K e 0 H x) (hl : xs.length + 1 + ys.length ≤ 30) : Ok K (e + 1) 2 H (.ref a) := by
  obtain ⟨ds, h1, g1⟩ := okAll hx
  obtain ⟨es, h2, g2⟩ := okAll hy
  obtain ⟨d, h3, g3⟩ := hm
  have l1 := h1.len
  have l2 := h2.len
  have ll : (ds ++ [d] ++ es).length ≤ 30 := by
    rw [List.length_append, List.length_append, List.length_singleton]
    omega
  refine ⟨.tuple (ds ++ [d] ++ es), .tup h (DqAll.app (DqAll.app h1 (.cons h3 .nil)) h2), fun ds' z => ?_, lvl_tup ll fun x hx => ?_, ?_⟩
  · cases z
    exact ll
  · rcases List.mem_append.mp hx with hx | hx
    · rcases List.mem_append.mp hx with hx | hx
      · exact (g1 x hx).2.1
      · rw [List.mem_singleton.mp hx]
        exact g3.2.1
    · exact (g2 x hx).2.1
  · have a1 : PyData.hasDictAll ds = false := hasD_all fun x hx => (g1 x hx).2.2.1
    have a2 : PyData.hasDictAll es = false := hasD_all fun x hx => (g2 x hx).2.2.1
    have b1 : noLAll ds = true := noL_all fun x hx => (g1 x hx).2.2.2
    have b2 : noLAll es = true := noL_all fun x hx => (g2 x hx).2.2.2
    have f3 : d.hasDict = false ∨ noL d = true := g3.2.2
    rcases f3 with f3 | f3
    · refine .inl (show PyData.hasDictAll (ds ++ [d] ++ es) = false from ?_)
      rw [hasD_app, hasD_app, a1, a2]
      show (false || (PyData.hasDict d || false) || false) = false
      rw [f3]
      rfl
    · refine .inr (show noLAll (ds ++ [d] ++ es) = true from ?_)
      rw [noL_app, noL_app, b1, b2]
      show (true && (noL d && true) && true) = true
      rw [f3]
      rfl
abbrev sBe : Stmt := topS 27
theorem scBe : FnScope ["pen", "cave", "k", "odd", "road", "some"] ["pen", "cave"] (defScope sBe) := ⟨rfl, rfl, rfl, by decide +kernel, rfl, by decide +kernel, by decide +kernel⟩
def spBe (K : PySem.W.Frag) : Sp := fun vs H Q _ => ∃ (p l a : Addr) (N : Nat) (ts : List Addr) (c : List (Int × Int)), vs = [.ref p, .ref a] ∧ PenAt H p l N ∧ N < 900000 ∧ CvAt K H a ts c ∧ Good c ∧ c.length ≤ 11 ∧
  ∀ H' y, But p H H' → Ok K 3 2 H' y → PenAt H' p l (N + 10) → Q y H'
section
variable {P : Program} {w : World} {K : PySem.W.Frag} {mg : Str → Option Value} {base : Heap}
theorem ok_be {f fD fO : Addr} {fd dD dO : FuncData} {k : Nat} (F : Fun K "_law_bent" "_law_bent" sBe f fd) (T : TxtI mg) (GD : FnOk P w K mg base CX0 (k + 2) fD dD ["pen", "under"] spDraw) (bD : Binds K dD ["pen", "under"] []) (gD : mg "_law_draw" = some (.ref fD)) (kD : PySem.W.keepIn K (.ref fD) = true)
    (FO : Fun K "_law_odd_caves" "_law_odd_caves" sOd fO dO) (bO : Binds K dO ["cave"] []) (gO : mg "_law_odd_caves" = some (.ref fO)) : FnOk P w K mg base CX0 (k + 3) f fd ["pen", "cave"] (spBe K) := by
  have GO : FnOk P w K mg base CX0 (k + 1) fO dO ["cave"] (spOd K) := ok_od FO T
  refine F.ok scBe (fun vs H Q E h => ?_) (fun cdv A outer s H vs Q E hr h => ?_)
  · obtain ⟨p, l, a, N, ts, c, rfl, _⟩ := h
    rfl
  · obtain ⟨p, l, a, N, ts, c, rfl, PA0, hN, hc, g, l11, q⟩ := h
    have cpos : 0 < c.length := List.length_pos_iff.mpr g.ne
    refine ⟨_, pss_cons (ps_set (i := 2) scBe.nd rfl (.inl rfl) (pe_call GD hr (by rfl) gD kD bD .nil pass0 (pa_cons (pv 0) (pa_cons (pe_callB call_len_seq (by rfl) T.len PySem.boot_len (pa_cons (pv 1) pa_nil)) pa_nil))))
      (pss_cons (ps_set (i := 3) scBe.nd rfl (.inl rfl) (pe_lst (pa_cons pe_non (pa_cons (pe_tup pa_nil) (pa_cons pe_int (pa_cons (pe_tup (pa_cons pe_int (pa_cons pe_int pa_nil))) (pa_cons (pe_lst (pa_cons pe_int (pa_cons pe_int pa_nil))) (pa_cons (pe_tup (pa_cons pe_int (pa_cons pe_int pa_nil)))
          (pa_cons (pe_tup (pa_cons pe_int (pa_cons pe_int pa_nil))) (pa_cons (pe_tup (pa_cons pe_int (pa_cons pe_int pa_nil))) (pa_cons (pe_tup (pa_cons pe_int (pa_cons pe_int pa_nil))) (pa_cons (pe_tup (pa_cons (pe_un un_neg pe_int) (pa_cons pe_int pa_nil))) (pa_cons (pe_tup (pa_cons pe_bl (pa_cons pe_int pa_nil)))
          (pa_cons (pe_tup (pa_cons pe_int (pa_cons pe_int (pa_cons pe_int pa_nil)))) (pa_cons (pe_tup (pa_cons pe_str (pa_cons pe_int pa_nil))) pa_nil)))))))))))))))
      (pss_cons (ps_set (i := 3) scBe.nd rfl (.inl rfl) (pe_op op_cat (pv 3) (pe_lst (pa_cons (pe_tup (pa_cons pe_int (pa_cons pe_non pa_nil))) (pa_cons (pe_tup (pa_cons (pe_lst pa_nil) (pa_cons pe_int pa_nil))) (pa_cons (pe_tup (pa_cons (pe_tup (pa_cons pe_int (pa_cons pe_int pa_nil))) (pa_cons pe_int pa_nil)))
          (pa_cons (pe_tup (pa_cons pe_int (pa_cons pe_int pa_nil))) (pa_cons (pe_revT (pe_ix ix_tup (pv 1) (pv 2) (fun _ _ => rfl))) (pa_cons (pe_callTy call_list_of (by rfl) T.list (by decide +kernel) (pa_cons (pe_ix ix_tup (pv 1) (pv 2) (fun _ _ => rfl)) pa_nil))
          (pa_cons (pe_op op_catA (pe_ix ix_tup (pv 1) (pv 2) (fun _ _ => rfl)) (pe_tup (pa_cons pe_int pa_nil))) (pa_cons pe_str (pa_cons pe_dnewK pa_nil))))))))))))
      (pss_cons (ps_set (i := 4) scBe.nd rfl (.inl rfl) (pe_call GD hr (by rfl) gD kD bD .nil pass0 (pa_cons (pv 0) (pa_cons pe_int pa_nil))))
      (pss_cons (ps_if (pt_cmpR op_eq (pv 4) pe_int (nomark _)) (pss_one (ps_ret (pe_op op_catB (pe_op op_catB (pe_slice sl_tupA (pv 1) po_none (po_some (pv 2))) (pe_tup (pa_cons (pe_ix ix_list (pv 3) (pe_call GD hr (by rfl) gD kD bD .nil pass0 (pa_cons (pv 0) (pa_cons pe_int pa_nil))) (fun _ _ => rfl)) pa_nil)))
          (pe_slice sl_tupA (pv 1) (po_some (pe_op op_add (pv 2) pe_int)) po_none)))) pss_nil)
      (pss_cons (ps_if (pt_cmpR op_eq (pv 4) pe_int (nomark _)) (pss_cons (ps_set (i := 5) scBe.nd rfl (.inl rfl) (pe_lst (pa_cons (pe_revT (pv 1)) (pa_cons (pe_op op_catA (pe_slice sl_tupA (pv 1) po_none (po_some (pv 2))) (pe_slice sl_tupA (pv 1) (po_some (pe_op op_add (pv 2) pe_int)) po_none))
          (pa_cons (pe_op op_catA (pv 1) (pe_slice sl_tupA (pv 1) (po_some (pv 2)) (po_some (pe_op op_add (pv 2) pe_int)))) (pa_cons (pe_callTy call_list_of (by rfl) T.list (by decide +kernel) (pa_cons (pv 1) pa_nil)) (pa_cons (pe_ix ix_tup (pv 1) (pv 2) (fun _ _ => rfl)) (pa_cons (pe_slice sl_tupA (pv 1) po_none (po_some (pv 2))) pa_nil))))))))
          (pss_one (ps_ret (pe_ix ix_list (pv 5) (pe_call GD hr (by rfl) gD kD bD .nil pass0 (pa_cons (pv 0) (pa_cons pe_int pa_nil))) (fun _ _ => rfl))))) pss_nil)
      (pss_cons (ps_set (i := 5) scBe.nd rfl (.inl rfl) (pe_call GO (hr.mono (by omega)) (by rfl) gO FO.kp bO .nil pass0 (pa_cons (pv 1) pa_nil)))
      (pss_one (ps_ret (pe_ix ix_list (pv 5) (pe_call GD hr (by rfl) gD kD bD .nil pass0 (pa_cons (pv 0) (pa_cons (pe_callB call_len_seq (by rfl) T.len PySem.boot_len (pa_cons (pv 5) pa_nil)) pa_nil))) (fun _ _ => rfl)))))))))), ?_⟩
    refine seqI (asgI ?_)
    refine ⟨.ref p, rfl, .ref a, rfl, a, _, rfl, .inr hc.sq, p, l, N, _, rfl, PA0, by omega, by rw [List.length_map, hc.len]; omega, by rw [List.length_map, hc.len]; omega, fun H1 d d0 d1 PA1 b1 => ?_⟩
    obtain ⟨j, rfl⟩ := Int.eq_ofNat_of_zero_le d0
    have hj : j < c.length := by
      rw [List.length_map, hc.len] at d1
      omega
    have hc1 := (hc.but PA0 b1).rm' PA1
    have hp1 := PA1.at.1
    dsimp only
    have cv : ∀ {e f : Nat} {σ : L2.St} {H' : Hp}, σ[1]? = some (some (.ref a)) → Same (rm p H1) (rm p H') → Gt K p (e + 1) f (tVar 1) σ H' 11 := fun h s => gt_var h (hc1.up s).sq (by rw [List.length_map, hc.len]; exact l11) ((hc1.up s).oks g)
    have sk : ∀ {σ : L2.St}, σ[2]? = some (some (.int (j : Nat))) → ∀ (H : Hp) (Q : Option Int → Hp → Prop), (∀ o, Q o H) → tPart (tVar 2) σ H Q := fun h H Q q => ⟨_, h, _, rfl, q _⟩
    have sk1 : ∀ {σ : L2.St}, σ[2]? = some (some (.int (j : Nat))) → ∀ (H : Hp) (Q : Option Int → Hp → Prop), (∀ o, Q o H) → tPart (tOp (rI0 fun i j => .int (i + j)) (tVar 2) (tC (.int 1))) σ H Q := fun h H Q q => ⟨_, h, _, _, rfl, rfl, _, rfl, q _⟩
    have nk : ∀ {σ : L2.St} (H : Hp) (Q : Option Int → Hp → Prop), (∀ o, Q o H) → tNoPart σ H Q := fun H Q q => q _
    have pr : ∀ {e f : Nat} {i j : Int} {σ : L2.St} {H' : Hp} (hi : intOk i = true := by decide +kernel) (hj : intOk j = true := by decide +kernel), Gt K p e f (tTup (tCons (tC (.int i)) (tCons (tC (.int j)) tNil))) σ H' 2 := fun hi hj => gt_tup (gvA_cons (gv_int hi) (gvA_cons (gv_int hj) gvA_nil)) (by decide)
    have two : ∀ {e f : Nat} {te tf : TE} {σ : L2.St} {H' : Hp}, Gv K p e 1 te σ H' → Gv K p e 1 tf σ H' → Gv K p (e + 1) (f + 1) (tTup (tCons te (tCons tf tNil))) σ H' := fun h h' => gv_tup (gt_tup (gvA_cons h (gvA_cons h' gvA_nil)) (by decide)) (by decide)
    have pv' : ∀ {e f : Nat} {i j : Int} {σ : L2.St} {H' : Hp} (hi : intOk i = true := by decide +kernel) (hj : intOk j = true := by decide +kernel), Gv K p (e + 1) (f + 1) (tTup (tCons (tC (.int i)) (tCons (tC (.int j)) tNil))) σ H' := fun hi hj => gv_tup (pr hi hj) (by decide)
    have on : ∀ {e f : Nat} {te : TE} {σ : L2.St} {H' : Hp}, Gv K p e f te σ H' → Gt K p e f (tTup (tCons te tNil)) σ H' 1 := fun h => gt_tup (gvA_cons h gvA_nil) (by decide)
    have wy : ∀ {e f : Nat} {σ : L2.St} {H' : Hp}, σ[1]? = some (some (.ref a)) → σ[2]? = some (some (.int (j : Nat))) → Same (rm p H1) (rm p H') → Gt K p e f (tOp (rIxT K) (tVar 1) (tVar 2)) σ H' 2 := fun h h2 s => gt_way (j := j) h (hc1.up s) g hj fun H Q q => ⟨_, h2, q⟩
    refine seqI (asgI ?_)
    refine glU (K := K) (p0 := p) (e := 2) (f := 2) (n := 13) ?_ hp1 fun l1 xs1 H2 s2 h2 n2 o2 => ?_
    · exact gl_lst (gvA_cons gv_non (gvA_cons (gv_tup (gt_tup gvA_nil (by decide)) (by decide)) (gvA_cons gv_int (gvA_cons pv' (gvA_cons (gv_lst (gl_lst (gvA_cons gv_int (gvA_cons gv_int gvA_nil)) (by decide))) (gvA_cons pv' (gvA_cons pv' (gvA_cons pv' (gvA_cons pv' (gvA_cons (two gv_neg gv_int) (gvA_cons (two gv_bl gv_int)
        (gvA_cons (gv_tup (gt_tup (gvA_cons gv_int (gvA_cons gv_int (gvA_cons gv_int gvA_nil))) (by decide)) (by decide)) (gvA_cons (two gv_str gv_int) gvA_nil))))))))))))) (by decide)
    dsimp only
    have r2 := rm_same (p := p) s2
    refine seqI (asgI ?_)
    refine glU (K := K) (p0 := p) (e := 2) (f := 2) (n := xs1.length + 9) ?_ (gone hp1 s2) fun l2 xs2 H3 s3 h3 n3 o3 => ?_
    · exact gl_cat (gl_var rfl h2 o2) (gl_lst (gvA_cons (two gv_int gv_non) (gvA_cons (two (gv_lst (gl_lst gvA_nil (by decide))) gv_int) (gvA_cons (two pv' gv_int) (gvA_cons pv' (gvA_cons (gv_tup (gt_rev (wy rfl rfl r2)) (by decide)) (gvA_cons (gv_lof (wy rfl rfl r2))
        (gvA_cons (gv_tup (gt_cat (wy rfl rfl r2) (on gv_int) (by decide)) (by decide)) (gvA_cons gv_str (gvA_cons gv_emp gvA_nil))))))))) (by decide)) (by omega)
    dsimp only
    refine seqI (asgI ?_)
    have PA3 := PA1.keep (s2.trans s3)
    refine ⟨.ref p, rfl, p, l, N + 1, 4, rfl, PA3, by omega, by decide, by decide, fun H4 e e0 e1 PA4 b4 => ?_⟩
    have r34 := rm_but b4
    have r4 := (r2.trans (rm_same s3)).trans r34
    have h4 := r34 _ _ h3
    have o4 : ∀ x ∈ xs2, Ok K 2 2 (rm p H4) x := fun x hx => (o3 x hx).up r34
    have hp4 := PA4.at.1
    have b04 : But p H H4 := b1.trans ((Same.but (s2.trans s3)).trans b4)
    have n22 : xs2.length = 22 := by omega
    dsimp only
    have fin : ∀ (H5 H6 : Hp) (l3 : Addr) (xs3 : List V) (n : Nat) (d' : Int), Same H4 H5 → But p H5 H6 → PenAt H6 p l (N + 1 + 1 + 1) → rm p H5 l3 = some (.lst xs3) → (∀ x ∈ xs3, Ok K 3 2 (rm p H5) x) → xs3.length = n → 0 ≤ d' → d' < (n : Int) →
        rIxL K (.ref l3) (.int d') H6 Q := fun H5 H6 l3 xs3 n d' s5 b6 PA6 hl ho hn z0 z1 => by
      have lt : d'.toNat < xs3.length := by omega
      have e3 : xs3[d'.toNat]? = some xs3[d'.toNat] := List.getElem?_eq_getElem lt
      refine ⟨l3, xs3, d', xs3[d'.toNat], rfl, rfl, SqL.of (rm_le _ _ (rm_but b6 _ _ hl)), atI_int z0 e3, q H6 _ (b04.trans ((Same.but s5).trans b6)) ?_ (PA6.more (by omega))⟩
      exact (ho _ (List.getElem_mem lt)).up ((rm_but b6).trans rm_le)
    refine seqI ?_
    refine ⟨.int e, rfl, rfl, _, rfl, ite2 (fun z => ?_) (fun z => ?_)⟩
    · refine retI (opI (opI ?_))
      refine gtU (K := K) (p0 := p) (e := 2) (f := 0) (m := 11) ?_ hp4 fun b1' ys1 H5 s5 t5 m5 o5 => ?_
      · exact gt_sl (cv rfl r4) nk (sk rfl)
      have PA5 := PA4.keep s5
      refine ⟨.ref l2, rfl, .ref p, rfl, p, l, N + 1 + 1, 22, rfl, PA5, by omega, by decide, by decide, fun H6 d' d0' d1' PA6 b6 => ?_⟩
      have lt : d'.toNat < xs2.length := by omega
      have e3 : xs2[d'.toNat]? = some xs2[d'.toNat] := List.getElem?_eq_getElem lt
      have r46 := (rm_same s5).trans (rm_but b6)
      refine ⟨l2, xs2, d', xs2[d'.toNat], rfl, rfl, SqL.of (rm_le _ _ (r46 _ _ h4)), atI_int d0' e3, (by show 1 ≤ sizeLine; decide), fun t nt => ?_⟩
      have oi := o4 _ (List.getElem_mem lt)
      generalize xs2[d'.toNat] = item at oi nt ⊢
      have s7 := same_upd (o := .tup [item]) nt
      refine ⟨b1', t, ys1, [item], rfl, rfl, SqT.up ((rm_but b6).trans (rm_le.trans s7)) t5, SqT.of upd_same, by rw [sizeLine_eq, List.length_singleton]; omega, fun c1 H8 s8 t8 => ?_⟩
      have r8 := r46.trans (rm_same (s7.trans s8))
      dsimp only
      refine gtU (K := K) (p0 := p) (e := 2) (f := 0) (m := 11) ?_ (gone PA6.at.1 (s7.trans s8)) fun b2' ys2 H9 s9 t9 m9 o9 => ?_
      · exact gt_sl (cv rfl (r4.trans r8)) (sk1 rfl) nk
      refine ⟨c1, b2', _, ys2, rfl, rfl, SqT.up s9 t8, SqT.up rm_le t9, by rw [sizeLine_eq, List.length_append, List.length_singleton]; omega, fun c2 H10 s10 t10 => ?_⟩
      refine q H10 (.ref c2) (b04.trans ((Same.but s5).trans (b6.trans (Same.but (s7.trans (s8.trans (s9.trans s10))))))) (ok_mid t10 (fun x hx => (o5 x hx).up ((rm_but b6).trans ((rm_same (s7.trans (s8.trans (s9.trans s10)))).trans rm_le))) (oi.up (r8.trans ((rm_same (s9.trans s10)).trans rm_le))) (fun x hx => (o9 x hx).up ((rm_same s10).trans rm_le)) (by omega)) ((PA6.keep (s7.trans (s8.trans (s9.trans s10)))).more (by omega))
    refine seqI ?_
    refine ⟨.int e, rfl, rfl, _, rfl, ite2 (fun z => ?_) (fun z => ?_)⟩
    · refine seqI (asgI ?_)
      refine glU (K := K) (p0 := p) (e := 3) (f := 2) (n := 6) ?_ hp4 fun l3 xs3 H5 s5 h5 n5 o5 => ?_
      · exact gl_lst (gvA_cons (gv_tup (gt_rev (cv rfl r4)) (by decide)) (gvA_cons (gv_tup (gt_cat (gt_sl (cv rfl r4) nk (sk rfl)) (gt_sl (cv rfl r4) (sk1 rfl) nk) (by decide)) (by decide))
          (gvA_cons (gv_tup (gt_cat (cv rfl r4) (gt_sl (cv rfl r4) (sk rfl) (sk1 rfl)) (by decide)) (by decide)) (gvA_cons (gv_lof (cv rfl r4)) (gvA_cons (gv_tup (wy rfl rfl r4) (by decide)) (gvA_cons (gv_tup (gt_sl (cv rfl r4) nk (sk rfl)) (by decide)) gvA_nil)))))) (by decide)
      dsimp only
      refine retI ?_
      exact ⟨.ref l3, rfl, .ref p, rfl, p, l, N + 1 + 1, 6, rfl, PA4.keep s5, by omega, by decide, by decide, fun H6 d' d0' d1' PA6 b6 => fin H5 H6 l3 xs3 6 d' s5 b6 PA6 h5 o5 n5 d0' d1'⟩
    · dsimp only [tNext]
      refine seqI (asgI ?_)
      refine ⟨.ref a, rfl, p, a, ts, c, rfl, hp4, hc1.up r4, g, l11, fun H5 l3 xs3 s5 h5 n5 o5 => ?_⟩
      dsimp only
      refine retI ?_
      refine ⟨.ref l3, rfl, .ref p, rfl, .ref l3, rfl, l3, _, rfl, .inl (SqL.of (rm_le _ _ h5)), p, l, N + 1 + 1, _, rfl, PA4.keep s5, by omega, by omega, by omega, fun H6 d' d0' d1' PA6 b6 => fin H5 H6 l3 xs3 xs3.length d' s5 b6 PA6 h5 o5 rfl d0' d1'⟩
end
end Cv

/-! own errors as values: one whose __init__ says super().__init__(..) and keeps a field; isinstance of them; the field read -/
namespace CvE
open PySem PySem.Spec PyProof.Rows L2
/-- what is asked of the def __init__(self, index) of such an error -/
def isc : Scope := { kind := .function, names := [("self", .local), ("index", .local), ("__class__", .free), ("super", .globalImplicit)], isGenerator := false, isCoroutine := false, more := [] }
structure SupI (P : Program) (K : PySem.W.Frag) (mg : Str → Option Value) (params : Arguments) (body : List Stmt) (qual : Str) (C fI : Addr) (fd : FuncData) : Prop where
  fn : ∃ (oc : Value) (od an : Option Addr) (dV kV doc pm ct : Value) (cda cc : Addr) (osl : Array (Option Value)), fd = PySem.W.ksFn "__init__" qual params body isc dV kV doc pm an (.ref cda) ct cc ∧
    K.lookup fI = some ⟨oc, od, .func fd, osl⟩ ∧ PySem.W.codeIn K (.ref cda) qual = true ∧
    (∃ (x : Value) (y : Option Addr) (z : Array (Option Value)), K.lookup cc = some ⟨x, y, .cell (some (.ref C)), z⟩) ∧
    (∃ (x : Value) (y : Option Addr) (z : Array (Option Value)) (vs : Array Value) (file : Str) (tf : Tok), K.lookup cda = some ⟨x, y, .fields vs, z⟩ ∧ vs[2]? = some (.str file tf) ∧ ((P.main.file : Str) == file) = true)
  sc : NdefX.NScope ["self", "index", "__class__"] ["self", "index"] ["__class__"] isc
  sup : mg "super" = none
  hd : ∃ p an1, (params.posonlyargs ++ params.args).head? = some ⟨"self", an1, p⟩
  top : (P.main.scope.names.lookup ("super" : Str)).isSome = false
  isD : ∃ cd, PySem.W.clsIn K C = some cd
  self_ : PySem.W.mroIn K C (.ref C) = some true
  opq : PySem.W.nsIn K cStatics "thirdparty.any" = some none
  init : PySem.W.ks_superIn K C C "__init__" = some (some (.builtin "ValueError.__init__"))
  sub : PySem.W.subIn K (.ref C) (.type "ValueError") = some true
  ox : OexC K C
  noix : PySem.W.findIn K (.ref C) "index" = some none
/-- the promise of that __init__ -/
def spI (C : Addr) : Sp := fun vs H Q _ => ∃ (a : Addr) (i : Int), vs = [.ref a, .int i] ∧ H a = some (exo a C none) ∧ i.natAbs.log2 < 1000 ∧
  ∀ d, H d = none → d ≠ a → Q .non (upd (upd H d (exd d [("index", .int i)])) a (exo a C (some d)))
section
variable {P : Program} {w : World} {K : PySem.W.Frag} {mg : Str → Option Value} {base : Heap}
/-- the bound __init__ of the built-in base, called -/
theorem call_wrap {A : Around} {h : Heap} {g : Array GenState} {d : Drawn} {t : Nat} {os : OsState} {E : Value → Shared → Prop} {Q : Value → Shared → Prop} {u e t0 C : Addr} {rest : List Value}
    (inK : K.In h) (T : OexC K C) (hu : h.get? u = some (PySem.W.kxs_mw "ValueError.__init__" e)) (he : h.get? e = some (PySem.HandSPX.excO C t0)) (small : rest.length ≤ sizeLine)
    (then_ : ∀ (h2 : Heap) (t1 : Addr), (∀ b o, b ≠ e → h.get? b = some o → h2.get? b = some o) → h2.get? e = some (PySem.HandSPX.excO C t1) → Q .none ⟨h2, g, d, t, os⟩) :
    wpAny (model P w) A (call (.ref u) rest) Q E ⟨h, g, d, t, os⟩ := by
  obtain ⟨nm, q, N, bs, bm, sn, sub, ab, col, dd, k0, k1, k2, k3, k5, hC, hbm⟩ := T.cls
  have FB := F.excBase_ValueError
  refine wpAny_call (codeAny_of_tree ?_)
  change wpAny _ A.in1 (callAny (.ref u) ⟨rest, []⟩) _ _ _
  simp only [callAny]
  refine wpAny_bind (wpAny_load hu ?_)
  simp only [PySem.W.kxs_mw, show (Value.type "method-wrapper" == Value.type "method" || Value.type "method-wrapper" == Value.type "builtin_function_or_method" || Value.type "method-wrapper" == Value.type "method-wrapper") = true from by decide, if_true]
  refine PySem.W.KFB.if_so (by decide) ?_
  refine wpAny_bind (PySem.W.check_bound_init FB.toExcCallFacts (inK _ _ hC) he rfl ?_)
  refine wpAny_bind (wpAny_pure (wpAny_pure ⟨plainId_quiet FB.init.plain _, codeAny_builtin FB.initEntry ?_⟩))
  exact PySem.W.exc_init_tree (cls := .ref C) (t0 := t0) (dv := none) (c2 := .none) (c3 := .none) (b4 := .bool false) he small fun h2 k e2 _ => then_ h2 _ k e2
theorem ok_init {params : Arguments} {body : List Stmt} {qual pre : Str} {C fI : Addr} {fd : FuncData} {j : Tok} {p0 p1 p2 p3 p4 p5 p6 p7 p8 p9 p10 p11 p12 : Pos} (S : SupI P K mg params body qual C fI fd) (hpre : pre.length ≤ 100)
    (hev : ∀ (L f c cc : Addr), ∃ pl : Sem Bool, eval (.Call (.Attribute (.Call (.Name "super" p0) [] [] p1) "__init__" p2) [.JoinedStr [.Constant (.str pre) j p3, .FormattedValue (.Name "index" p4) (-1) none p5] p6] [] p7) (PySem.W.envX qual isc L f (.ref c) [("__class__", cc)]) = (do
      let ov ← attributeBase (.Call (.Name "super" p0) [] [] p1) "__init__" (PySem.W.envX qual isc L f (.ref c) [("__class__", cc)]) (eval (.Call (.Name "super" p0) [] [] p1) (PySem.W.envX qual isc L f (.ref c) [("__class__", cc)]))
      standAt p2.atName
      let (f', first) ← holding [ov] (getMethod ov "__init__" pl)
      callWith p7 f' first (backTo p7 (starEach [.JoinedStr [.Constant (.str pre) j p3, .FormattedValue (.Name "index" p4) (-1) none p5] p6] (PySem.W.envX qual isc L f (.ref c) [("__class__", cc)]))) []))
    (hsw : ∀ (L f c cc : Addr), swapsWith (.Call (.Attribute (.Call (.Name "super" p0) [] [] p1) "__init__" p2) [.JoinedStr [.Constant (.str pre) j p3, .FormattedValue (.Name "index" p4) (-1) none p5] p6] [] p7) none p8.line (PySem.W.envX qual isc L f (.ref c) [("__class__", cc)]) = pure false)
    (hsw2 : ∀ (L f c cc : Addr), swapsWith (.Name "index" p11) (some (.Attribute (.Name "self" p9) "index" p10)) p12.line (PySem.W.envX qual isc L f (.ref c) [("__class__", cc)]) = pure false)
    (hbody : body = [.Expr (.Call (.Attribute (.Call (.Name "super" p0) [] [] p1) "__init__" p2) [.JoinedStr [.Constant (.str pre) j p3, .FormattedValue (.Name "index" p4) (-1) none p5] p6] [] p7) p8,
      .Assign [.Attribute (.Name "self" p9) "index" p10] (.Name "index" p11) p12]) : FnOk P w K mg base CX0 2 fI fd ["self", "index"] (spI C) := by
  refine ⟨fun vs H Q E h => ?_, fun A outer s H args us vs Q E hr e0 hb rv hsp => ?_⟩
  · obtain ⟨a, i, rfl, _⟩ := h
    rfl
  obtain ⟨a, i, rfl, ha, hi, q⟩ := hsp
  obtain ⟨oc, od, an, dV, kV, doc, pm, ct, cda, cc, osl, rfl, lk, hcd, ⟨x1, y1, z1, hcc⟩, ⟨x2, y2, z2, vs2, file, tf, hcda, hvs, hfile⟩⟩ := S.fn
  have inK : K.In s.heap := e0.mod.kin.keeps fun b o z => (e0.bs b o z).1
  have free : s.heap.NoLimit := e0.mod.nolimit.keeps fun b o z => (e0.bs b o z).1
  have cells : NdefX.CellsAt [("__class__", cc)] ["__class__"] [some (V.ref C)] s.heap H := by
    have one : ∀ {y : Str} {c : Addr}, List.lookup y [(("__class__" : Str), cc)] = some c → y = "__class__" ∧ c = cc := fun {y c} z => by
      simp only [List.lookup] at z
      split at z
      · rename_i e
        exact ⟨by simpa using e, (Option.some.inj z).symm⟩
      · cases z
    have isC : s.heap.IsCell cc (some (.ref C)) := ⟨_, inK _ _ hcc, rfl⟩
    refine ⟨rfl, fun y c z => ?_, fun x y c z1 z2 => (one z1).1.trans (one z2).1.symm, fun i y z => ?_⟩
    · obtain ⟨_, rfl⟩ := one z
      exact ⟨(e0.bs _ _ (e0.mod.kin _ _ hcc)).2, _, isC⟩
    · match i, z with
      | 0, z =>
        obtain rfl := Option.some.inj z
        exact ⟨cc, by simp [List.lookup], fun v hv => by cases hv; exact ⟨.ref C, rfl, isC⟩⟩
  refine ks_codeAny_call_defAt (body := body) (binds := ([("self" : Str), "index"] : List Str).zip us) hr.depth (inK _ _ lk) rfl free (PySem.W.codeRec_of inK hcd) rfl hb S.sc.nocell (fun y hy => S.sc.par y.1 (List.of_mem_zip hy).1) (fun h₁ hns kp => ?_) S.sc.co S.sc.gen S.sc.kind
  have I := NdefX.inv_startN (F := ⟨"__init__", qual, params, body, isc, [("__class__", cc)], cda⟩) (f := fI) (CX := CX0) (E := E) (tk := s.toks + (([("self" : Str), "index"] : List Str).zip us).length) S.sc hr.hd e0 rfl rv cells hns kp
  change PySem.wpAt (model P w) (A.deeper (PySem.W.envX qual isc s.heap.objs.size fI (.ref cda) [("__class__", cc)])) (.func body (PySem.W.envX qual isc s.heap.objs.size fI (.ref cda) [("__class__", cc)])) (execs body (PySem.W.envX qual isc s.heap.objs.size fI (.ref cda) [("__class__", cc)])) _ _ _
  obtain ⟨hp1, hp2, hd1⟩ := S.hd
  have one : ∃ X, X = NdefX.ncx CX0 P w K mg base ["self", "index", "__class__"] ⟨"__init__", qual, params, body, isc, [("__class__", cc)], cda⟩ fI A outer s H E := ⟨_, rfl⟩
  rw [hbody]
  obtain ⟨pl, hev⟩ := hev s.heap.objs.size fI cda cc
  refine ks_wpAt_execs_cons (ks_wpAt_Expr_any (ks_wpAt_MethodCall (pl := pl) ?_ hev) (by rfl) (hsw _ _ _ _))
  obtain ⟨h2, e2⟩ : ∃ h2, h2 = h₁ := ⟨_, rfl⟩
  have inK1 : K.In h₁ := fun b o z => kp b o (inK b o z)
  obtain ⟨oD, hD1, cdD, hD2⟩ : ∃ oD, h₁.get? C = some oD ∧ ∃ cdD, oD.data = .cls cdD := by
    obtain ⟨cd, hcd⟩ := S.isD
    unfold PySem.W.clsIn at hcd
    split at hcd
    · rename_i c d cd' sl ho
      cases hcd
      exact ⟨_, inK1 _ _ ho, _, rfl⟩
    · cases hcd
  obtain ⟨t1, ho⟩ := exo_at I.hok ha
  refine ks_wpAt_super_base rfl (S.sc.frk "__class__" (by simp)) (by decide) rfl (inK1 _ _ lk) rfl hd1 rfl (inK1 _ _ hcda) rfl hvs hfile S.top ?_
  obtain ⟨mb, b1, b2⟩ := I.mod.blt
  obtain ⟨u0, u1, rfl, ru0, ti, rfl⟩ := vals2 rv
  obtain rfl : u0 = Value.ref a := ru0
  refine PySem.W.ks_loadName_global S.sc.kind rfl (Calls.loadGlobal_builtin (mg := mg) (by exact I.mod.glob.keeps I.bk) S.sup (b1.keeps I.bk) ((b2 "super" (by decide)).trans (by decide +kernel)) ⟨rfl, ?_⟩)
  refine wpAny_loadName_free S.sc.kind (S.sc.frk "__class__" (by simp)) (by simp [List.lookup]) ⟨_, inK1 _ _ hcc, rfl⟩ ?_
  refine wpAny_loadName_local S.sc.kind (S.sc.par "self" (by simp)) hns (NdefX.zip_look (ps := ["self", "index"]) (i := 0) (by decide +kernel) rfl rfl) ?_
  refine ks_wpAny_isType_cls hD1 hD2 ⟨rfl, ?_⟩
  refine ks_wpAny_call_super hD1 hD2 ho rfl (fun c z => nomatch z) (PySem.W.looks_mroIn inK1 S.self_) (fun h3 e3 k3 => ?_)
  have inK3 : K.In h3 := fun b o z => k3 b o (inK1 b o z)
  have at3 : PySem.W.InstAt h3 a (PySem.HandSPX.excO C t1) C none := ⟨k3 _ _ ho, rfl, rfl, trivial⟩
  obtain ⟨cdM, hcdM⟩ := S.isD
  have along := S.init
  unfold PySem.W.ks_superIn at along
  rw [hcdM] at along
  refine PySem.W.kxs_getMethod PySem.W.kxs_ValueError e3 (PySem.W.looks_opaque inK3 S.opq) (l₀ := cdM.mro) ((PySem.W.looks_clsIn inK3 hcdM).andThen .now) rfl inK3 along (at3.type.andThen (PySem.W.looks_subIn inK3 S.sub)) (PySem.W.ks_ne inK3 at3 hcdM) (by decide) ?_
  have I3 : Inv (NdefX.ncx CX0 P w K mg base ["self", "index", "__class__"] ⟨"__init__", qual, params, body, isc, [("__class__", cc)], cda⟩ fI A outer s H E) [] (NdefX.startF ["self", "index", "__class__"] [.ref a, .int i] [some (.ref C)]) H { s with heap := h3, toks := s.toks + (([("self" : Str), "index"] : List Str).zip [Value.ref a, Value.int i ti]).length } :=
    I.kept (t' := s.toks + (([("self" : Str), "index"] : List Str).zip [Value.ref a, Value.int i ti]).length) k3
  have I4 := ClX.pin_new (o := PySem.W.kxs_mw "ValueError.__init__" a) (h' := h3.push (PySem.W.kxs_mw "ValueError.__init__" a)) (t' := s.toks + (([("self" : Str), "index"] : List Str).zip [Value.ref a, Value.int i ti]).length + 1) I3 (fun _ _ z => Heap.get?_push_of_some _ z) (Nat.le_refl _) (Heap.get?_push_size h3 rfl) (fun v z => nomatch z)
  refine PySem.W.kxs_callWith (i := "ValueError.__init__") (x := a) rfl ?_
  refine Calls.evalArgs_plain ?_
  have text := (pa_cons (pe_joined (X := NdefX.ncx CX0 P w K mg base ["self", "index", "__class__"] ⟨"__init__", qual, params, body, isc, [("__class__", cc)], cda⟩ fI A outer s H E) (pos := p6)
    (.cons (pe_str (x := pre) (j := j) (pos := p3)) (.cons (pe_fmt (pos := p5) (pv 1 (x := "index") (pos := p4))) .nil))) pa_nil).run p7 _ _ _ H (fun vs H1 => H1 = H ∧ vs.length = 1) I4 ?_
  · refine wpAny_mono text (fun vs s5 h5 => ?_) fun _ _ z => z
    obtain ⟨ws, H5, I5, r5, rfl, l5⟩ := h5
    refine ⟨ClX.pin_at I5, ?_⟩
    obtain ⟨t5, ho5⟩ := exo_at I5.hok ha
    obtain ⟨hh5, g5, d5, tk5, os5⟩ := s5
    refine call_wrap I5.kIn S.ox (ClX.pin_at I5) ho5 (by rw [List.nil_append, ← r5.length, l5]; decide) fun h6 t6 k6 e6 => ?_
    have same : upd H5 a (exo a C none) = H5 := by
      funext b
      by_cases hb : b = a
      · rw [hb, upd_same, ha]
      · rw [upd_ne hb]
    have I6 := (ClX.unpin I5).write (t' := tk5) (x := a) (e := a) (o := exo a C none) (by rw [ha]; exact True.intro) (.inl rfl) k6 ⟨_, e6⟩ (exo_ok e6)
    rw [same] at I6
    refine wpAt_of_wpAny ?_
    have store := (pss_one (ps_ost (X := NdefX.ncx CX0 P w K mg base ["self", "index", "__class__"] ⟨"__init__", qual, params, body, isc, [("__class__", cc)], cda⟩ fI A outer s H5 E) (p' := p10) (pos := p12) (pv 0 (x := "self") (pos := p9)) (pv 1 (x := "index") (pos := p11)) (hsw2 _ _ _ _))).run [] _ _ H5
      { nx := fun _ H' => Q .non H', rt := Q } I6 ⟨.int i, rfl, .ref a, rfl, a, C, rfl, S.ox, S.noix, .inl ⟨ha, fun d dn da => q d dn da⟩⟩
    refine wpAny_mono store (fun fl z h => ?_) fun _ _ h => h
    match fl, h with
    | .ret u, ⟨v, s7, G7, J7, rv7, q7⟩ => exact ⟨v, G7, J7.os, J7.bare, J7.base, J7.hok, rv7, q7⟩
    | .next, ⟨s7, G7, J7, q7⟩ => exact ⟨V.non, G7, J7.os, J7.bare, J7.base, J7.hok, rfl, q7⟩
    | .brk, ⟨_, _, _, no⟩ => exact no.elim
    | .cont, ⟨_, _, _, no⟩ => exact no.elim
  · have l1 : (PySem.Str.ofString (toString i)).length ≤ 1921 := int_text_len_1921 (by omega)
    have big : 10000 ≤ sizeLine := by decide
    refine ⟨pre, rfl, ?_, .int i, rfl, .inr ⟨i, rfl, by omega, _, rfl, ?_, rfl, rfl⟩⟩
    · rw [Str.length_append]
      show 0 + pre.length ≤ sizeLine
      omega
    · rw [Str.length_append, Str.length_append]
      show 0 + pre.length + (PySem.Str.ofString (toString i)).length ≤ sizeLine
      omega
end
end CvE

/-! an own error made by a keyword: C(name = value) -/
namespace CvE
open PySem PySem.Spec PyProof.Rows L2
section
variable {prog : Program} {w : World} {A : Around} {E : Value → Shared → Prop} {R : Result → Shared → Prop} {h : Heap} {g : Array GenState} {d : Drawn} {t : Nat} {os : OsState}
variable {nm q : Str} {C N : Addr} {bs bm : List Value} {hdct : Bool} {sn : List Str} {sub : List Value} {ab : Bool} {col : Option Bool} {dd : Option Addr} {k0 k1 k2 k3 k5 : Option Value} {kv : Str × Value}
theorem kw_check {Q : Unit → Shared → Prop} (hbm : PySem.HandSPX.refsVE bm = true) (cls : h.get? C = some (excClassObj nm q C N bs bm hdct sn sub ab col dd k0 k1 k2 k3 k5 "ValueError.__new__")) (then_ : Q () ⟨h, g, d, t, os⟩) :
    wpAny (model prog w) A (checkBuiltinCall "ValueError.__new__" ⟨[.ref C], [kv]⟩) Q E ⟨h, g, d, t, os⟩ := by
  have FB := F.excBase_ValueError
  have isV : (Value.ref C :: bm).contains (.type "ValueError") = true := by
    rw [List.contains_cons, PySem.HandSPX.refsVE_contains "ValueError" bm hbm, FB.hasB, Bool.or_true]
  have star := FB.noStar
  simp only [checkBuiltinCall, FB.newKind, FB.newSplit, FB.newRow]
  repeat (first
    | refine wpAny_loadPart_at cls ?_
    | (refine wpAny_isSubtype_exc cls ?_; rw [isV])
    | refine wpAny_staticBase_exc cls ?_
    | refine wpAny_madeBy_exc cls ?_
    | simp only [bne_self_eq_false, Bool.false_eq_true, if_false]
    | wp_step)
  exact then_
theorem kw_new (hbm : PySem.HandSPX.refsVE bm = true) (cls : h.get? C = some (excClassObj nm q C N bs bm hdct sn sub ab col dd k0 k1 k2 k3 k5 "ValueError.__new__"))
    (then_ : R (.ok (.ret (.ref (h.objs.size + 1)))) ⟨(h.push { cls := .type "tuple", data := .seq #[] }).push (PySem.HandSPX.excO C h.objs.size), g, d, t, os⟩) :
    codeAny (model prog w) A (.builtin "ValueError.__new__" ⟨[.ref C], [kv]⟩) R ⟨h, g, d, t, os⟩ := by
  have FB := F.excBase_ValueError
  have ends := FB.ends
  have has := fun Y => PySem.HandSPX.refsVE_contains Y bm hbm
  have isV : (Value.ref C :: bm).contains (.type "ValueError") = true := by rw [List.contains_cons, has, FB.hasB, Bool.or_true]
  have noA : (Value.ref C :: bm).contains (.type "AttributeError") = false := by rw [List.contains_cons, has, FB.noAttr] <;> rfl
  have noN : (Value.ref C :: bm).contains (.type "NameError") = false := by rw [List.contains_cons, has, FB.noName] <;> rfl
  refine codeAny_builtinAt FB.entry ?_
  unfold Builtin.«BaseException.__new__»
  refine PySem.wpAt_bind ?_
  change PySem.wpAt _ _ _ (stack >>= _) _ _ _
  refine PySem.wpAt_bind (PySem.wpAt_stack fun p below => PySem.wpAt_of_wpAny ?_)
  wp_walk
  refine PySem.wpAt_of_wpAny ?_
  rw [FB.owner]
  repeat (first
    | with_reducible refine wpAny_madeHere_exc FB.canon cls ?_
    | with_reducible refine wpAny_loadPart_at cls ?_
    | (with_reducible refine wpAny_isSubtype_exc cls ?_; first | rw [isV] | rw [noA] | rw [noN])
    | wp_step)
  change R _ _
  rw [Heap.size_push]
  exact then_
/-- C(k = v) with an own __init__ at fI -/
theorem kw_call {fI : Addr} (hbm : PySem.HandSPX.refsVE bm = true) (cls : h.get? C = some (excClassObj nm q C N bs bm hdct sn sub ab col dd k0 k1 k2 k3 k5 "ValueError.__new__"))
    (look : PySem.W.Looks (model prog w) h (typeLookup (.ref C) "__init__") (some (.ref fI))) (bind : ∀ self, PySem.W.Looks (model prog w) h (bindSpecial (.ref fI) self) (.ref fI, [self]))
    (then_ : codeAny (model prog w) (A.under (.builtin "type.__call__" ⟨[.ref C], [kv]⟩)) (.call (.ref fI) ⟨[.ref (h.objs.size + 1)], [kv]⟩) (PySem.W.InitBack (h.objs.size + 1) R)
      ⟨(h.push { cls := .type "tuple", data := .seq #[] }).push (PySem.HandSPX.excO C h.objs.size), g, d, t, os⟩) :
    codeAny (model prog w) A (.call (.ref C) ⟨[], [kv]⟩) R ⟨h, g, d, t, os⟩ := by
  have f1 := tc_lookup
  have f2 := tc_bind (.ref C)
  have isTy : (⟨h, g, d, t, os⟩ : Shared).TypeIs (.ref C) "type" := ⟨_, cls, rfl⟩
  refine codeAny_of_tree ?_
  change wpAny _ _ (callAny (.ref C) _) _ _ _
  repeat (any_goals (first | assumption | with_reducible refine wpAny_loadPart_at cls ?_ | wp_step))
  refine ⟨rfl, codeAny_call_builtin_at (Code.quiet_builtin _ (by decide +kernel)) entry_typeCall ?_⟩
  change wpAny _ A.in1 (checkBuiltinCall "type.__call__" ⟨[.ref C], [kv]⟩) _ _ _
  have f3 := tc_sub
  simp only [checkBuiltinCall, tc_kind, tc_split]
  repeat (any_goals (first | assumption | with_reducible refine wpAny_loadPart_at cls ?_ | with_reducible refine wpAny_onRaise ?_ | with_reducible refine wpAny_map ?_ | wp_step))
  have FB := F.excBase_ValueError
  refine codeAny_call_builtin_code (Code.quiet_builtin _ FB.quiet) (kw_check hbm cls ?_)
  refine kw_new hbm cls ?_
  change wpAny _ _ _ _ _ _
  have keeps : ∀ b o, h.get? b = some o → ((h.push { cls := .type "tuple", data := .seq #[] }).push (PySem.HandSPX.excO C h.objs.size)).get? b = some o := fun b o z => Heap.get?_push_of_some _ (Heap.get?_push_of_some _ z)
  have cls2 := keeps _ _ cls
  have made : ((h.push { cls := .type "tuple", data := .seq #[] }).push (PySem.HandSPX.excO C h.objs.size)).get? (h.objs.size + 1) = some (PySem.HandSPX.excO C h.objs.size) := by heap_get
  have own : (Value.ref C :: bm).contains (.ref C) = true := by simp
  have look2 := look.keeps keeps
  have bind2 := (bind (.ref (h.objs.size + 1))).keeps keeps
  unfold isInstance
  repeat (first | with_reducible refine wpAny_loadPart_at made ?_ | (with_reducible refine wpAny_isSubtype_exc cls2 ?_; rw [own]) | wp_step)
  change wpAny _ _ (typeLookup (.ref C) _) _ _ _
  refine look2.at ?_
  refine wpAny_holding (wpAny_bind (bind2.at ?_))
  refine wpAny_bind (wpAny_call (codeAny_mono then_ fun r s2 z => ?_))
  rcases r with e | (v | _ | _ | _) <;> first | exact z | exact z.elim | skip
  obtain ⟨rfl, z⟩ := z
  first | exact wpAny_pure (wpAny_pure z) | (wp_walk; exact z)
end
end CvE

/-! rules over own errors as values -/
namespace CvE
open PySem PySem.Spec PyProof.Rows L2
/-- an error of the class at D stands at a: without a dict, or with one -/
def ErrAt (H : Hp) (a D : Addr) : Prop := H a = some (ExO (.ref D) a) ∨ ∃ (d : Addr) (fs : List (Str × V)), H a = some (exo a D (some d)) ∧ H d = some (exd d fs)
theorem ErrAt.keep {H H' : Hp} {a D : Addr} (s : Same H H') (h : ErrAt H a D) : ErrAt H' a D := by
  rcases h with h | ⟨d, fs, h1, h2⟩
  · exact .inl (s _ _ h)
  · exact .inr ⟨d, fs, s _ _ h1, s _ _ h2⟩
def rIsO (K : PySem.W.Frag) : List V → Hp → VK → Prop := fun xs H Q => ∃ (a D : Addr) (c : V) (cv : Value) (b : Bool), xs = [.ref a, c] ∧ ErrAt H a D ∧ ExcC K D ∧ (∀ u, RelV c u → u = cv) ∧ PySem.W.kitOne K (.ref D) cv = some b ∧ Q (.bl b) H
section
variable {X : Cx}
theorem err_inst {pins : List (Addr × Obj)} {σ : L2.St} {H : Hp} {s : Shared} {a D : Addr} (I : Inv X pins σ H s) (h : ErrAt H a D) : ∃ (ox : Obj) (od : Option Obj), PySem.W.InstAt s.heap a ox D od := by
  rcases h with h | ⟨d, fs, h1, h2⟩
  · obtain ⟨⟨oe, vs, e, ⟨z1, z2⟩, z3, _⟩, _, _⟩ := I.hok a _ h
    obtain ⟨oc, od, oda, osl⟩ := oe
    dsimp only at z1 z2 z3
    subst z1 z2 z3
    exact ⟨_, none, e, rfl, rfl, trivial⟩
  · obtain ⟨t1, e⟩ := exo_at I.hok h1
    obtain ⟨mA, ⟨o, es, ep, e2, _⟩, _⟩ := exd_at I.hok h2
    exact ⟨_, some o, e, rfl, rfl, e2⟩
theorem call_isO : CallR X (.builtin "isinstance") (rIsO X.K) := by
  intro pins s σ H xs us Q I r h
  obtain ⟨a, D, c, cv, b, rfl, hE, C, hc, hk, q⟩ := h
  obtain ⟨u1, u2, rfl, r1, r2⟩ := vals2 r
  obtain rfl : u1 = Value.ref a := r1
  obtain rfl := hc _ r2
  obtain ⟨ox, od, J⟩ := err_inst I hE
  obtain ⟨cd, hcd, _⟩ := PySem.W.any_some C.hd
  exact PySem.W.kia_one (PySem.W.kitx_exc (by rw [hcd] <;> rfl) C.hg C.hk C.hs C.ha C.hn C.ht C.hm) I.kIn J hk (fun z => nomatch z) fun tk => ⟨.bl b, H, I.tok tk, rfl, q⟩
/-- e.f of such an error -/
def tErf (K : PySem.W.Frag) (f : Str) (te : TE) : TE := fun σ H Q => te σ H fun x H1 => ∃ (a C d : Addr) (fs : List (Str × V)) (v : V), x = .ref a ∧ H1 a = some (exo a C (some d)) ∧ H1 d = some (exd d fs) ∧ XfC K C ∧ PySem.W.findIn K (.ref C) f = some none ∧ fs.lookup f = some v ∧ Q v H1
theorem pe_erf {e : Expr} {te : TE} {pos : Pos} {n : Str} (he : PE X e te) (hb : attributeBase e n X.env (eval e X.env) = eval e X.env := by rfl) : PE X (.Attribute e n pos) (tErf X.K n te) := by
  refine ⟨fun pins s σ H Q I h => attr_of hb (thn (he.run pins s σ H _ I h) fun u s1 hh => ?_)⟩
  obtain ⟨x, H1, I1, rx, a, C, d, fs, v, rfl, ea, ed, T, hno, l, q⟩ := hh
  obtain rfl : u = Value.ref a := rx
  obtain ⟨t1, e1⟩ := exo_at I1.hok ea
  obtain ⟨mA, hns, hr⟩ := exd_at I1.hok ed
  obtain ⟨od, ho, hl⟩ := lookIn_ns hns
  obtain ⟨u, hu, ru⟩ := RelO.some_of (v := v) (o := mA n) (by rw [← l]; exact hr n)
  exact HandSPX.exc_get I1.kIn (⟨e1, rfl, rfl, ho⟩ : PySem.W.InstAt s1.heap a _ C (some od)) T.ga T.gg T.exC (PySem.W.findObj_own T.hdC hno rfl (by rw [hl, hu])) (handed_of ru) ⟨v, H1, I1.tok _, ru, q⟩
end
section
variable {X : Cx} {C fI : Addr} {k : Nat} {fd : FuncData} {ps : List Str} {sp : Sp} {x : Str} {p pos : Pos}
/-- the new object, before its __init__ -/
theorem born {pins : List (Addr × Obj)} {σ : L2.St} {H : Hp} {hp : Heap} {g : Array GenState} {dr : Drawn} {tk : Nat} {os : OsState} {us : List Value} (I : Inv X pins σ H ⟨hp, g, dr, tk, os⟩) :
    H (hp.objs.size + 1) = none ∧ Inv X pins σ (upd H (hp.objs.size + 1) (exo (hp.objs.size + 1) C none)) ⟨(hp.push (PySem.W.kdv_tup us)).push (PySem.HandSPX.excO C hp.objs.size), g, dr, tk, os⟩ := by
  have up : hp.objs.size ≤ hp.objs.size + 1 := Nat.le_succ _
  refine ⟨I.hok.fresh up, I.laid (t' := tk) (fun b o z => Heap.get?_push_of_some _ (Heap.get?_push_of_some _ z)) up (exo_ok (t1 := hp.objs.size) ?_)⟩
  heap_get
/-- C(e, ..) -/
theorem pe_err {e : Expr} {es : List Expr} {ta : TA} (T : OexC X.K C) (iC : PySem.W.findIn X.K (.ref C) "__init__" = some (some (.ref fI))) (tI : PySem.W.typeIn X.K (.ref fI) = some (.type "function")) (G : FnOk X.prog X.w X.K X.mg X.base CX0 k fI fd ps sp) (hr : Room (k + 1) X.A) (hb : Binds X.K fd ps [])
    (hg : Gl X x) (hm : X.mg x = some (.ref C)) (ha : PA X (e :: es) ta) (hdb : (x == ("__debug__" : Str)) = false := by decide) (he : starEach (e :: es) X.env = (false, eval e X.env) :: starEach es X.env := by rfl) (hpl : (backTo pos (starEach es X.env)).any (·.1) = false := by rfl) :
    PE X (.Call (.Name x p) (e :: es) [] pos) (fun σ H Q => ta σ H fun vs H1 => vs.length ≤ 1000 ∧ ∀ a, H1 a = none → sp (.ref a :: vs) (upd H1 a (exo a C none)) (fun v H2 => v = .non ∧ Q (.ref a) H2) E0) := by
  refine ⟨fun pins s σ H Q I h => wpAny_Call_Name_kw (ld_glob I hg hm ?_ hdb)⟩
  obtain ⟨nm, q, N, bs, bm, sn, sub, ab, col, dd, k0, k1, k2, k3, k5, hC, hbm⟩ := T.cls
  refine PySem.W.callWith_K (h₀ := X.base) I.ok.mod.kin T.kC (thn (ha.run pos pins s σ H _ I h) fun us s1 hu => ?_) he hpl
  obtain ⟨vs, H1, I1, r1, hz, q1⟩ := hu
  refine ⟨I1.kIn, ?_⟩
  change wpAny _ _ (call (.ref C) us) _ _ _
  obtain ⟨hp, g, dr, tk, os⟩ := s1
  obtain ⟨hn, I2⟩ := born (C := C) (us := us) I1
  have r2 : Vals (V.ref (hp.objs.size + 1) :: vs) (Value.ref (hp.objs.size + 1) :: us) := .cons rfl r1
  have ask := q1 _ hn
  have hl : (Value.ref (hp.objs.size + 1) :: us).length = ps.length := (Paired.length r2).symm.trans (G.len _ _ _ _ ask)
  have small : us.length ≤ sizeLine := by
    rw [← Paired.length r1, sizeLine_eq]
    omega
  refine wpAny_call (PySem.HandSPX.call_own F.excBase_ValueError (fun Y => PySem.HandSPX.refsVE_contains Y bm hbm) (I1.kIn _ _ hC) (PySem.W.looks_findIn I1.kIn iC) (fun self => PySem.W.bind_fn I1.kIn self tI) small (codeAny_mono
    (G.run _ X.stack _ _ ⟨Value.ref (hp.objs.size + 1) :: us, []⟩ (Value.ref (hp.objs.size + 1) :: us) _ _ E0 (hr.make C us []) (I2.env0.make C us []) (by simpa using hb _ (Value.ref (hp.objs.size + 1) :: us) I2.kIn (by simpa using hl)) r2 ask) fun r s2 back => ?_))
  match r, back with
  | .error e, no => exact no.elim
  | .ok .next, no => exact no.elim
  | .ok .brk, no => exact no.elim
  | .ok .cont, no => exact no.elim
  | .ok (.ret u), ok =>
    obtain ⟨v, H2, J, rv, rfl, q2⟩ := I2.after ok
    exact ⟨rv, .ref (hp.objs.size + 1), H2, J, rfl, q2⟩
/-- C(y = e), the def __init__(self, y) -/
theorem pe_errK {y : Str} {kw : Keyword} {tk : TA} (T : OexC X.K C) (iC : PySem.W.findIn X.K (.ref C) "__init__" = some (some (.ref fI))) (tI : PySem.W.typeIn X.K (.ref fI) = some (.type "function")) (G : FnOk X.prog X.w X.K X.mg X.base CX0 k fI fd ["self", y] sp) (hr : Room (k + 1) X.A)
    (hb : ∀ (m : Shared) (u v : Value), BindsTo m fd ⟨[u], [(y, v)]⟩ [("self", u), (y, v)])
    (hg : Gl X x) (hm : X.mg x = some (.ref C)) (hkw : PK X [kw] tk) (hall : (backToKw pos (keywordEach [kw] X.env)).all (·.1.isSome) = true := by rfl) (hks : (backToKw pos (keywordEach [kw] X.env)).filterMap (·.1) = [y] := by rfl)
    (hdb : (x == ("__debug__" : Str)) = false := by decide) (hpl : ((backTo pos (starEach [] X.env)).any (·.1) || (backToKw pos (keywordEach [kw] X.env)).any (·.1.isNone)) = false := by rfl) :
    PE X (.Call (.Name x p) [] [kw] pos) (fun σ H Q => tk σ H fun zs H1 => ∃ z, zs = [z] ∧ ∀ a, H1 a = none → sp [.ref a, z] (upd H1 a (exo a C none)) (fun v H2 => v = .non ∧ Q (.ref a) H2) E0) := by
  refine ⟨fun pins s σ H Q I h => wpAny_Call_Name_kw (ld_glob I hg hm ?_ hdb)⟩
  obtain ⟨nm, q, N, bs, bm, sn, sub, ab, col, dd, k0, k1, k2, k3, k5, hC, hbm⟩ := T.cls
  refine PySem.W.callWith_KW0 (h₀ := X.base) I.ok.mod.kin T.kC hall (thn (hkw.run pos pins s σ H _ I h) fun ws s1 hu => ?_) hpl
  obtain ⟨zs, H1, I1, r1, z, rfl, q1⟩ := hu
  obtain ⟨uz, rfl, ruz⟩ := vals1 r1
  refine ⟨I1.kIn, ?_⟩
  rw [hks]
  change wpAny _ _ (call (.ref C) [] [(y, uz)]) _ _ _
  obtain ⟨hp, g, dr, tk', os⟩ := s1
  obtain ⟨hn, I2⟩ := born (C := C) (us := []) I1
  have r2 : Vals [V.ref (hp.objs.size + 1), z] [Value.ref (hp.objs.size + 1), uz] := .cons rfl (.cons ruz .nil)
  refine wpAny_call (kw_call hbm (I1.kIn _ _ hC) (PySem.W.looks_findIn I1.kIn iC) (fun self => PySem.W.bind_fn I1.kIn self tI) (codeAny_mono
    (G.run _ X.stack _ _ ⟨[Value.ref (hp.objs.size + 1)], [(y, uz)]⟩ [Value.ref (hp.objs.size + 1), uz] _ _ E0 (hr.make C [] [(y, uz)]) (I2.env0.make C [] [(y, uz)]) (hb _ _ _) r2 (q1 _ hn)) fun r s2 back => ?_))
  match r, back with
  | .error e, no => exact no.elim
  | .ok .next, no => exact no.elim
  | .ok .brk, no => exact no.elim
  | .ok .cont, no => exact no.elim
  | .ok (.ret u), ok =>
    obtain ⟨v, H2, J, rv, rfl, q2⟩ := I2.after ok
    exact ⟨rv, .ref (hp.objs.size + 1), H2, J, rfl, q2⟩
end
end CvE

/-! a caught exception that stays known behind the suite -/
namespace Cv
open PySem PySem.Spec PyProof.Rows L2 CvT CvS CvW CvD CvR
/-- an exception of the class at C lies at a -/
def CgO (C a : Addr) : HO := .ext fun h => ∃ (oe : Obj) (vs : Array Value), h.get? a = some oe ∧ Zc (.ref C) none oe ∧ oe.data = .fields vs
theorem cg_ok {P : Program} {w : World} {H : Hp} {h : Heap} {C a : Addr} {oe : Obj} {vs : Array Value} (e : h.get? a = some oe) (z : Zc (.ref C) none oe) (d : oe.data = .fields vs) : ObjOk P w H h a (CgO C a) :=
  ⟨⟨oe, vs, e, z, d⟩, ⟨oe, e⟩, fun h1 h2 ⟨o, us, x, y, q⟩ st => ⟨o, us, st _ x, y, q⟩⟩
section
variable {X : Cx} {pins : List (Addr × Obj)} {σ : L2.St} {H : Hp} {s : Shared} {a C : Addr} {oe : Obj} {vs : Array Value}
theorem track (I : Inv X pins σ H s) (n0 : X.s_0.heap.get? a = none) (na : H a = none) (he : s.heap.get? a = some oe) (hz : Zc (.ref C) none oe) (hd : oe.data = .fields vs) (np : ∀ p ∈ X.pn ++ pins, p.1 ≠ a) (nL : a ≠ X.env.locals) :
    Inv X pins σ (upd H a (CgO C a)) s where
  ok := I.ok
  os := I.os
  bare := I.bare
  base := ⟨I.base.keep, I.base.slot, fun b o e n hx => by rw [upd_ne (fun z => by rw [z, n0] at e; cases e)]; exact I.base.free b o e n hx, I.base.there,
    fun b xs e => by have z := I.base.tups b xs e; rw [upd_ne (ne_of_none z na)]; exact z, fun b o u e => by have z := I.base.frzs b o u e; rw [upd_ne (ne_of_none z na)]; exact z,
    fun b ps e => by obtain ⟨m, z⟩ := I.base.tbls b ps e; exact ⟨m, by rw [upd_ne (ne_of_none z na)]; exact z⟩⟩
  loc := I.loc
  cell := I.cell
  free := by rw [upd_ne (fun z => nL z.symm)]; exact I.free
  freeC := fun x c e => by
    obtain ⟨v, o, ho, hv⟩ := I.cell x c e
    rw [upd_ne (fun z => by rw [z, he] at ho; cases ho; rw [hd] at hv; cases hv)]
    exact I.freeC x c e
  pin := fun p hp => by
    obtain ⟨h1, h2, h3⟩ := I.pin p hp
    exact ⟨h1, by rw [upd_ne (np p hp)]; exact h2, h3⟩
  hok := I.hok.laidN (fun _ _ q => q) na (cg_ok he hz hd)
  len := I.len
end
/-- what 'except x as n' wishes where it always catches, and what is caught stays known -/
def wKeep (K : PySem.W.Frag) (m : Nat) (c : Value) (i : Nat) (ts : Addr → TS) (D : Ends) : WX := fun cls d _ H => ∃ C, cls = .ref C ∧ d = none ∧ PySem.W.exmOne K cls c = some true ∧
  ∀ a, H a = none → ts a { nx := fun σ' H' => D.nx (σ'.set i none) H', rt := D.rt, bk := fun σ' H' => D.bk (σ'.set i none) H', ct := fun σ' H' => D.ct (σ'.set i none) H' } ((List.replicate m none).set i (some (.ref a))) (upd H a (CgO C a))
section
variable {X : Cx} {x n : Str} {c : Value} {i : Nat} {body suite : List Stmt} {b₀ : Stmt} {np pos pos' : Pos} {tb : WX → TS} {ts : Addr → TS}
theorem suiteI {pins : List (Addr × Obj)} {σ : L2.St} {H : Hp} {s : Shared} (I : Inv X pins σ H s) (a : Addr) : Inv (X.suite a (X.pn ++ pins)) [] σ H s :=
  ⟨I.ok.suite _ _, I.os, I.bare, I.base, I.loc, I.cell, I.free, I.freeC, fun p hp => I.pin p (by rw [List.append_nil] at hp; exact hp), I.hok, I.len⟩
theorem unsuiteI {pins pn' : List (Addr × Obj)} {σ : L2.St} {H : Hp} {s : Shared} {a : Addr} (I : Inv (X.suite a (X.pn ++ pins)) pn' σ H s) (ok : X.Ok) : Inv X pins σ H s :=
  ⟨ok, I.os, I.bare, I.base, I.loc, I.cell, I.free, I.freeC, fun p hp => I.pin p (List.mem_append_left _ hp), I.hok, I.len⟩
theorem ps_try_keep (hs : X.stack = X.env :: X.outer) (hf : X.env.frame = some X.env.locals) (hex : X.ex = []) (hN : X.N.Nodup) (hi : X.N[i]? = some n) (hln : X.env.kindOf n = some .local) (hc : Names X x c)
    (hb : ∀ (W : WX) (pn : List (Addr × Obj)) (xe : Value → Shared → Prop), Takes (X.tr pn xe) W → PassesOwn (model X.prog X.w) X.A X.env xe → PSs (X.tr pn xe) body (tb W))
    (hsu : ∀ (a : Addr) (pn : List (Addr × Obj)), PSs (X.suite a pn) (b₀ :: suite) (ts a)) :
    PS X (.Try body [.ExceptHandler (some (.Name x np)) (some n) (b₀ :: suite) pos'] [] [] pos) (fun D σ H => tb (wKeep X.K X.N.length c i ts D) D σ H) := by
  constructor
  intro pins s σ H D I h
  have ok := I.ok
  have hfr : X.A.frames = some (X.env :: X.outer) := by rw [ok.frames, hs]
  apply wpAny_Try_except
  refine wpAny_mono ((hb (wKeep X.K X.N.length c i ts D) (X.pn ++ pins) (fun e t1 => wpAny (model X.prog X.w) X.A (noteFrame e X.env) (fun _ t2 => wpAny (model X.prog X.w) X.A (setFlight e none)
    (fun _ t3 => wpAny (model X.prog X.w) X.A (handleBy e X.env [.ExceptHandler (some (.Name x np)) (some n) (b₀ :: suite) pos']) (SP X pins D) X.xe t3) X.xe t2) X.xe t1) ?grab PassesOwn.looking).run [] s σ H D (I.toTry _) h) ?end_ (fun e t q => q)
  case end_ =>
    intro f t q
    match f, q with
    | .next, ⟨σ', H', J, q⟩ => exact wpAny_execs_nil ⟨σ', H', J.ofTry ok, q⟩
    | .brk, ⟨σ', H', J, q⟩ => exact ⟨σ', H', J.ofTry ok, q⟩
    | .cont, ⟨σ', H', J, q⟩ => exact ⟨σ', H', J.ofTry ok, q⟩
    | .ret u, ⟨v, σ', H', J, r, q⟩ => exact ⟨v, σ', H', J.ofTry ok, r, q⟩
  case grab =>
    intro u t xx
    obtain ⟨a, B, sI, pins', σ', H', cls, d, rfl, J', nb, up, sky, na, os, ag, C, rfl, rfl, yes, go⟩ := xx
    have J : Inv X pins σ' H' sI := J'.ofTry ok
    rw [show X.stack = X.env :: X.outer from hs] at sky
    refine Sky.land Zc.steady hfr hf sky fun h3 fl3 up3 => ?_
    obtain ⟨oe3, vs3, he3, hz3, hd3⟩ := fl3.there
    have out3 : a ∉ frs (X.env :: X.outer) := fun hm => by
      obtain ⟨_, o', e', hnf⟩ := fl3.2.2.1.mem hm
      rw [he3] at e'
      cases e'
      exact hnf _ hd3
    have nL : a ≠ X.env.locals := fun z => out3 (List.mem_filterMap.mpr ⟨X.env, List.mem_cons_self, by rw [hf, z]⟩)
    have gone_ : sI.heap.get? a = none := by
      cases q : sI.heap.get? a with
      | none => rfl
      | some o =>
        have z := nb a o q (by rw [show X.stack = X.env :: X.outer from hs]; exact out3)
        rw [fl3.2.1] at z
        cases z
    have n0 : X.s_0.heap.get? a = none := by
      cases q : X.s_0.heap.get? a with
      | none => rfl
      | some o =>
        obtain ⟨o', z⟩ := J.base.there a o q (by rw [hex]; exact fun y => nomatch y)
        rw [gone_] at z
        cases z
    have npin : ∀ p ∈ X.pn ++ pins, p.1 ≠ a := fun p hp z => by
      have e := (J.pin p hp).1
      rw [z, gone_] at e
      cases e
    have J3 : Inv X pins σ' H' { t with heap := h3 } := J.landed nb fl3.1 (up.trans up3) os ag
    have S3 := suiteI J3 a
    refine wpAny_handleBy_cons (codeAny_handlers_test ?_) (by intro q; cases q)
    have LT : PySem.W.Looks (model X.prog X.w) h3 (typeOf (.ref a)) (.ref C) := fun A Q E s k q => wpAny_typeOf_ref (k _ _ he3) (by rw [hz3.1]; exact q)
    have LM := PySem.W.exm_one (M := model X.prog X.w) J3.kIn LT yes
    have test : ∀ {Q : Value → Shared → Prop} {E : Value → Shared → Prop}, Q c { t with heap := h3 } → wpAny (model X.prog X.w) (X.A.mark (some (.ref a))) (eval (.Name x np) X.env) Q E { t with heap := h3 } := fun {Q E} q => by
      rcases hc with ⟨hg, hdb, hm | ⟨hm, hv, hnn⟩⟩
      · exact ld_glob (X := X.suite a (X.pn ++ pins)) S3 hg hm q hdb
      · exact ld_blt (X := X.suite a (X.pn ++ pins)) S3 hg hm hv q hnn hdb
    refine test (LM.here (codeAny_handlers_suite_as ?_))
    refine HandSPX.lands_againZ fl3 fun h4 fl4 up4 => ?_
    obtain ⟨oe4, vs4, he4, hz4, hd4⟩ := fl4.there
    have J4 := track (J.landed (s' := { t with heap := h4 }) nb fl4.1 ((up.trans up3).trans up4) os ag) n0 na he4 hz4 hd4 npin nL
    refine store_ok (X := X.suite a (X.pn ++ pins)) (v := .ref a) (suiteI (J4.weak (σ' := List.replicate X.N.length none) (by rw [List.length_replicate, J4.len]) fun j v e => by simp [List.getElem?_replicate] at e) a) hN hi (.inl hln) rfl (fun s5 S5 => ?_) (.inr hln)
    refine wpAny_mono ((hsu a (X.pn ++ pins)).run [] s5 _ _ _ S5 (go a na)) (fun f s6 q => ?_) fun _ _ z => z.elim
    have done : ∀ {σ6 : L2.St} {H6 : Hp} {Q : Shared → Prop}, Inv (X.suite a (X.pn ++ pins)) [] σ6 H6 s6 → (∀ s7, Inv X pins (σ6.set i none) H6 s7 → Q s7) →
        wpAny (model X.prog X.w) X.A (do bindName X.env n .none; unbindBehindTheSuite X.env n pos') (fun _ s7 => Q s7) X.xe s6 := fun S6 q => gone_ok (unsuiteI S6 ok) hN hi hln q
    match f, q with
    | .next, ⟨_, _, S6, q6⟩ => exact done S6 fun s7 J7 => ⟨_, _, J7, q6⟩
    | .brk, ⟨_, _, S6, q6⟩ => exact done S6 fun s7 J7 => ⟨_, _, J7, q6⟩
    | .cont, ⟨_, _, S6, q6⟩ => exact done S6 fun s7 J7 => ⟨_, _, J7, q6⟩
    | .ret u, ⟨_, _, _, S6, r6, q6⟩ => exact done S6 fun s7 J7 => ⟨_, _, _, J7, r6, q6⟩
end
/-! the looks at it -/
def rIsC (K : PySem.W.Frag) : List V → Hp → VK → Prop := fun xs H Q => ∃ (a D : Addr) (c : V) (cv : Value) (b : Bool), xs = [.ref a, c] ∧ H a = some (CgO D a) ∧ ExcC K D ∧ (∀ u, RelV c u → u = cv) ∧ PySem.W.kitOne K (.ref D) cv = some b ∧ Q (.bl b) H
theorem call_isC {X : Cx} : CallR X (.builtin "isinstance") (rIsC X.K) := by
  intro pins s σ H xs us Q I r h
  obtain ⟨a, D, c, cv, b, rfl, hE, C, hc, hk, q⟩ := h
  obtain ⟨u1, u2, rfl, r1, r2⟩ := vals2 r
  obtain rfl : u1 = Value.ref a := r1
  obtain rfl := hc _ r2
  obtain ⟨⟨oe, vs, e, ⟨z1, z2⟩, z3⟩, _, _⟩ := I.hok a _ hE
  have J : PySem.W.InstAt s.heap a oe D none := by
    obtain ⟨oc, od, oda, osl⟩ := oe
    dsimp only at z1 z2 z3
    subst z1 z2 z3
    exact ⟨e, rfl, rfl, trivial⟩
  obtain ⟨cd, hcd, _⟩ := PySem.W.any_some C.hd
  exact PySem.W.kia_one (PySem.W.kitx_exc (by rw [hcd] <;> rfl) C.hg C.hk C.hs C.ha C.hn C.ht C.hm) I.kIn J hk (fun z => nomatch z) fun tk => ⟨.bl b, H, I.tok tk, rfl, q⟩
/-- [b].count(c) of bools -/
def rCntB (K : PySem.W.Frag) : V → List V → Hp → VK → Prop := fun x xs H Q => ∃ (p : Addr) (b c : Bool), x = .ref p ∧ xs = [.bl c] ∧ SqL K H p [.bl b] ∧ Q (.int (if b == c then 1 else 0)) H
theorem mt_bcount {X : Cx} : MtR X "list.count" (rCntB X.K) := by
  intro pins s σ H x xs v us Q I rx rxs h
  obtain ⟨p, b, c, rfl, rfl, hs, q⟩ := h
  cases rx
  obtain ⟨u, rfl, ru⟩ := rxs.one
  obtain rfl : u = Value.bool c := ru
  obtain ⟨its, rv, ⟨⟨cls, dd, data, sl⟩, n, ho, hc, hdn, hd⟩, hlen⟩ := I.list hs
  simp only at hc hd
  subst hc hd
  obtain ⟨i0, rfl, r0⟩ := rv.one
  obtain rfl : i0 = Value.bool b := r0
  refine call_meets PySem.F.slot_list_count ⟨_, ho, rfl⟩ PySem.F.entry_list_count (PySem.F.args_list_count_2 _ _)
    (SeqAt.list_countAt p #[.bool b] n dd sl (.bool c) (fun _ => b == c)) ⟨ho, fun y hy => ?_, ?_⟩
  · obtain rfl : y = Value.bool b := by simpa using hy
    exact SeqAt.EqAt.bool_bool b c
  · refine ⟨.int (if b == c then 1 else 0), H, I.tok _, ⟨s.toks, ?_⟩, q⟩
    show Value.int (([Value.bool b].countP (fun _ => b == c) : Nat) : Int) s.toks = _
    cases z : (b == c) <;> simp [z]
end Cv

/-! the word for a call's error -/
namespace Cv
open PySem PySem.Spec PyProof.Rows L2 CvT CvS CvW CvD CvR LamX
abbrev sWord : Stmt := topS 24
theorem scWord : FnScope ["act", "caught", "e", "kinds", "words_here"] ["act"] (defScope sWord) := ⟨rfl, rfl, rfl, by decide +kernel, rfl, by decide +kernel, by decide +kernel⟩
/-- told: "cave", where the error of the class at C comes for sure -/
def TTw (C : Addr) : (XK → Hp → VK → Prop) → Hp → VK → Prop := fun tl H Q =>
  ∀ Q' : VK, tl (fun cls d H' => cls = .ref C ∧ d = none ∧ ∀ H'', Same H' H'' → Q (.str "cave") H'') H Q'
section
variable {X : Cx} {q : Str} {g : Addr} {cdg : Value} {CI CE : Addr}
theorem word_gives (hmE : X.mg "CaveError" = some (.ref CE)) (hmI : X.mg "InvalidCave" = some (.ref CI)) (isi : X.mg "isinstance" = none) (exC : ExcC X.K CI) (exm : PySem.W.exmOne X.K (.ref CI) (.ref CE) = some true) :
    GivesTo X ["act", "caught", "e", "kinds", "words_here"] "_law_word" (defScope sWord) g cdg (defBody sWord) "act" q (TTw CI) := by
  intro f c' s H Q tl act hc h
  have kit : PySem.W.kitOne X.K (.ref CI) (.ref CI) = some true := by
    unfold PySem.W.kitOne
    rw [if_pos (beq_self_eq_true _)]
  refine ⟨_, pss_cons (ps_set (i := 1) scWord.nd rfl (.inl rfl) pe_non)
    (pss_cons (ps_try_keep (i := 2) (c := .ref CE) (tb := fun W D σ H => ∃ Ech : XK, (∀ cls d σ' H', Ech cls d H' → W cls d σ' H') ∧ σ[0]? = some (some (.ref f)) ∧ H c' = some (CodeO c' q) ∧ tl Ech H (fun _ H' => D.nx σ H')) rfl rfl rfl scWord.nd rfl rfl ⟨by rfl, by decide, .inl hmE⟩
      (fun W pn xe tk _ => ?_) (fun a pn => pss_one (ps_set (i := 1) scWord.nd rfl (.inl rfl) (pv 2))))
    (pss_cons (ps_if (pt_cmpR op_isN (pv 1) pe_non (nomark _)) (pss_one (ps_ret pe_str)) pss_nil)
    (pss_cons (ps_set (i := 3) scWord.nd rfl (.inl rfl) (pe_lst (pa_cons (pe_callB call_isC (by rfl) isi (by decide +kernel) (pa_cons (pv 1) (pa_cons (pe_glob (v := .ref CI) (by rfl) hmI rfl) pa_nil))) pa_nil)))
    (pss_cons (ps_set (i := 4) scWord.nd rfl (.inl rfl) (pe_lst (pa_cons pe_str pa_nil)))
    (pss_one (ps_ret (pe_ifExp (pt_cmpR op_eq (pe_bm PySem.F.plainAttrs_list PySem.F.slot_list_count (by rfl) mt_bcount (pv 3) (pa_cons pe_bl pa_nil)) pe_int (nomark _))
      (pe_ix ix_list (pv 4) (pe_bm PySem.F.plainAttrs_list PySem.F.slot_list_index (by rfl) mt_index (pv 3) (pa_cons pe_bl pa_nil)) (fun _ _ => rfl)) pe_str))))))), ?_⟩
  · refine ⟨fun pins s' σ H' D I h' => ?_⟩
    obtain ⟨Ech, hW, h1, h2, h3⟩ := h'
    exact (pss_one (ps_expr (act W pn xe Ech ⟨112, 8, 112, 11⟩ ⟨112, 8, 112, 13⟩ tk hW))).run pins s' σ H' D I ⟨h1, h2, h3⟩
  · refine seqI ?_
    refine ⟨fun cls d H' => cls = .ref CI ∧ d = none ∧ ∀ H'', Same H' H'' → Q (.str "cave") H'', fun cls d σ' H' ⟨e1, e2, e3⟩ => ?_, rfl, hc, ?_⟩
    · refine ⟨CI, e1, e2, by rw [e1]; exact exm, fun a na => ?_⟩
      refine ⟨.ref a, rfl, ?_⟩
      dsimp only [tNext]
      refine seqI ?_
      refine ⟨.ref a, rfl, rfl, _, rfl, ite2 (fun z => by cases z) (fun _ => ?_)⟩
      dsimp only [tNext]
      refine seqI (asgI ?_)
      refine ⟨.ref a, rfl, a, CI, .ref CI, .ref CI, true, rfl, upd_same, exC, fun u r => r, kit, by decide, fun l1 n1 => ?_⟩
      have s1 := (same_upd (o := CgO CI a) na).trans (same_upd (o := .lst [.bl true]) n1)
      dsimp only
      refine seqI (asgI ?_)
      refine ⟨by decide, fun l2 n2 => ?_⟩
      have s2 := s1.trans (same_upd (o := .lst [.str "cave"]) n2)
      have e1 : upd (upd (upd H' a (CgO CI a)) l1 (.lst [.bl true])) l2 (.lst [.str "cave"]) l1 = some (.lst [.bl true]) := by
        rw [upd_ne (ne_of_none upd_same n2)]
        exact upd_same
      dsimp only
      refine retI ?_
      refine ⟨.ref l1, rfl, .inl ⟨rfl, _, SqL.of e1⟩, l1, true, true, rfl, rfl, SqL.of e1, rfl, _, rfl, ite2 (fun _ => ?_) (fun z => absurd rfl z)⟩
      refine ⟨.ref l2, rfl, .ref l1, rfl, .inl ⟨rfl, _, SqL.of e1⟩, l1, _, .bl true, 0, .bl true, rfl, rfl, SqL.of e1, rfl, rfl, rfl, rfl, (fun m z' h => by cases h), ?_⟩
      exact ⟨l2, _, 0, .str "cave", rfl, rfl, SqL.of upd_same, rfl, e3 _ s2⟩
    · exact h _
end
end Cv

/-! the law's own call where the law holds a lambda: its table of code objects is tracked, the guards are known -/
namespace CvG
open PySem PySem.Spec PyProof.Rows L2 LamX
theorem law_goesT {l : PySem.W.OpenLaw} {n : Nat} {q : Program} {loose : List Str} {XP : (Str → Option Value) → Heap → Prop} {YP : World → Heap → Prop} {d dr : DefRec} {K : Params → PySem.W.Frag} {sp : PySem.W.Frag → Addr → Sp}
    (hn : l.most = some n) (hn2 : n ≤ sizeLine) (hdf : d.params.defaults = []) (hrec : (recsOf q).find? (fun e => e.name == d.name) = some dr) (hY : ∀ (w : World) (h : Heap), YP w h → (K w.params).In h)
    (F : ∀ (w : World) (mg : Str → Option Value) (fa : Addr) (h : Heap), (K w.params).In h → h.Ns mainGlobals mg → mg d.name = some (.ref fa) →
      ∃ c T : Addr, PySem.W.tabIn (K w.params) d.name = some (c, T) ∧ (K w.params).lookup T = none ∧ ∀ base : Heap, (K w.params).In base → base.Ns mainGlobals mg → TabB base mg c T → LawRun l.prog w (K w.params) mg base fa (sp (K w.params) T))
    (hsp : ∀ (K : PySem.W.Frag) (T : Addr) (G : Hp) (a : Addr) (ns : List Int), ns.length ≤ n → G T = some (.tbl #[]) → SqL K G a (ns.map V.int) → sp K T [.ref a] G (fun v _ => v = .bl true) fun _ _ _ => False) :
    PySem.W.WalkO q loose XP YP l.row.toRowW d [] (fun f vs => PySem.call f vs) := by
  refine Att.attach_call hn hdf fun w s0 m mg mb fa o pm cd doc a us ns GR Y _ _ _ hmg hobj hints hlen hg => ?_
  have inK := hY w _ Y
  obtain ⟨c, T, ht, nT, go⟩ := F w mg fa _ inK GR.T.g hmg
  obtain ⟨hC, hT⟩ := PySem.W.tab_of GR.T inK hrec ht
  have lays := vals_ints hints
  have size := hints.length
  have neT : a ≠ T := fun z => by
    rw [z, hT] at hobj
    cases hobj
  obtain ⟨G, isG, gK, sq, gT⟩ : ∃ G : Hp, (∀ b u, G b = some u → (b = a ∧ u = .frz { cls := .type "list", data := .seq us.toArray } (.lst (ns.map V.int))) ∨ (b = T ∧ u = .tbl #[])) ∧ (G a ≠ none → (K w.params).lookup a = none) ∧ SqL (K w.params) G a (ns.map V.int) ∧ G T = some (.tbl #[]) := by
    cases known : (K w.params).lookup a with
    | some o =>
      have eo := inK a o known
      rw [hobj] at eo
      obtain rfl := Option.some.inj eo
      refine ⟨fun b => if b = T then some (.tbl #[]) else none, (fun b u z => ?_), (fun z => absurd (if_neg neT) z), .inr ⟨_, us.toArray, _, known, rfl, rfl, rfl, by rw [List.size_toArray, size]; exact Nat.le_trans hlen hn2, by simpa using lays⟩, if_pos rfl⟩
      by_cases e : b = T
      · exact .inr ⟨e, (Option.some.inj ((if_pos e).symm.trans z)).symm⟩
      · exact absurd ((if_neg e).symm.trans z) (by simp)
    | none =>
      refine ⟨fun b => if b = a then some (.frz { cls := .type "list", data := .seq us.toArray } (.lst (ns.map V.int))) else if b = T then some (.tbl #[]) else none, (fun b u z => ?_), (fun _ => rfl), .inl (.inr ⟨_, if_pos rfl⟩), (if_neg (Ne.symm neT)).trans (if_pos rfl)⟩
      by_cases e : b = a
      · exact .inl ⟨e, (Option.some.inj ((if_pos e).symm.trans z)).symm⟩
      · by_cases e2 : b = T
        · exact .inr ⟨e2, (Option.some.inj (((if_neg e).trans (if_pos e2)).symm.trans z)).symm⟩
        · exact absurd (((if_neg e).trans (if_neg e2)).symm.trans z) (by simp)
  have unt : ∀ b, b ≠ a → b ≠ T → G b = none := fun b n1 n2 => by
    cases z : G b with
    | none => rfl
    | some u => exact ((isG b u z).elim (fun e => n1 e.1) fun e => n2 e.1).elim
  have off : ∀ {b : Addr} {u : Obj}, m.heap.get? b = some u → (∀ vs n, u.data ≠ .seq vs n) → u.data ≠ .fields #[] → G b = none := fun {b u} e h1 h2 => unt b (fun z => by rw [z, hobj] at e; cases e; exact h1 _ _ rfl) fun z => by rw [z, hT] at e; cases e; exact h2 rfl
  have ns' : ∀ {b : Addr} {mm : Str → Option Value}, m.heap.Ns b mm → (hidT m.heap G).Ns b mm := fun {b mm} ⟨u, es, c, e, z, r⟩ => ⟨u, es, c, hidT_get e (off e (fun vs n y => by rw [z] at y; cases y) fun y => by rw [z] at y; cases y), z, r⟩
  have inB : (K w.params).In (hidT m.heap G) := fun b u e => hidT_get (inK b u e) (by
    by_cases nb : b = a
    · cases z : G b with
      | none => rfl
      | some v =>
        subst nb
        rw [gK (by rw [z]; simp)] at e
        cases e
    · exact unt b nb fun z => by rw [z, nT] at e; cases e)
  have heapOk : HOk l.prog w G m.heap := fun b u z => by
    rcases isG b u z with ⟨rfl, rfl⟩ | ⟨rfl, rfl⟩
    · exact ⟨hobj, by rw [List.length_map]; exact Nat.le_trans hlen hn2, us, _, lays, hobj⟩
    · exact hT
  have tabB : TabB (hidT m.heap G) mg c T := by
    refine ⟨?_, ?_, fun z => ?_⟩
    · obtain ⟨o, vs, file, tf, flags, tg, inF, text, tt, e1, r1, r2, r3, r4, r5, r6, r7, r8, hne⟩ := hC
      exact ⟨o, vs, file, tf, flags, tg, inF, text, tt, hidT_get e1 (off e1 (fun _ _ y => by rw [r2] at y; cases y) fun y => by rw [r2] at y; cases y; simp at r3), r1, r2, r3, r4, r5, r6, r7, r8, hne⟩
    · obtain ⟨bm, ob, b1, b2, b3, b4, b5, b6⟩ := GR.T.bmain
      refine ⟨bm, ob, b1, b2, fun y => ?_, fun y => ?_, hidT_get b3 (off b3 (fun _ _ y => by rw [b6] at y; cases y) fun y => by rw [b6] at y; cases y), b4, b5, b6⟩
      · obtain ⟨o, es, ep, e, hd, _⟩ := GR.T.g
        rw [y, e] at b3
        cases b3
        rw [hd] at b6
        cases b6
      · rw [y, hT] at b3
        cases b3
        cases b6
    · obtain ⟨o, es, ep, e, hd, _⟩ := GR.T.g
      rw [z, hT] at e
      cases e
      cases hd
  have envs : Env0 l.prog w (K w.params) mg (hidT m.heap G) callerA [] m G := by
    refine ⟨rfl, ⟨inB, ns' GR.T.g, ⟨mb, ns' GR.T.b, GR.T.builtins⟩, ?_⟩, (fun b u e => of_hidT e), Nat.le_of_eq (hidT_size _ _), trivial, (fun b z => nomatch z), heapOk, AllBare.of_eq hg⟩
    obtain ⟨mc, c1, c2⟩ := GR.T.nolimit
    exact ⟨mc, ns' c1, c2⟩
  refine codeAny_mono (go _ inB (ns' GR.T.g) tabB m G a _ envs (hsp _ T G a ns hlen gT sq)) fun r s2 h => ?_
  match r, h with
  | .error e, h => exact h.elim
  | .ok .next, h => exact h.elim
  | .ok .brk, h => exact h.elim
  | .ok .cont, h => exact h.elim
  | .ok (.ret u), ⟨v, G2, os2, bare2, un2, ok2, rv, ev⟩ =>
    have ev' : v = .bl true := ev
    subst ev'
    obtain rfl : u = Value.bool true := rv
    obtain ⟨more, gm⟩ := un2.tbls T #[] gT
    have grown : s2.heap.get? T = some { cls := .none, data := .fields (#[] ++ more) } := ok2 T _ gm
    have key : ∀ b x, b ≠ T → m.heap.get? b = some x → s2.heap.get? b = some x := fun b x nb e => by
      cases z : G b with
      | none => exact un2.keep b x e z (by intro y; exact nomatch y) (by intro y; exact nomatch y)
      | some y =>
        rcases isG b y z with ⟨rfl, rfl⟩ | ⟨z1, _⟩
        · obtain ⟨y2, _⟩ := ok2 b _ (un2.frzs b _ _ z)
          rw [hobj] at e
          rw [← Option.some.inj e]
          exact y2
        · exact absurd z1 nb
    refine ⟨rfl, ⟨fun b x e => ?_, fun b x e => ?_⟩, os2, bare2⟩
    · by_cases hb : b = T
      · rw [hb] at e ⊢
        rw [hT] at e
        cases e
        exact .inr (.inl ⟨(hC.tab hT).isCodeTable, rfl, #[], more, rfl, by rw [Array.empty_append]; rw [Array.empty_append] at grown; exact grown⟩)
      · exact .inl (key b x hb e)
    · by_cases hb : b = T
      · rw [hb]
        exact ⟨_, grown⟩
      · exact ⟨x, key b x hb e⟩
end CvG

/-! repr of data of a level -/
namespace Cv
open PySem PySem.Spec PyProof.Rows L2 CvT CvS CvW CvD CvR
def rRepD (K : PySem.W.Frag) : List V → Hp → VK → Prop := fun xs H Q => ∃ (x : V) (d : PyData), xs = [x] ∧ Dq K H x d ∧ d.showable = true ∧ (d.hasDict = false ∨ noL d = true) ∧ d.depth ≤ 30 ∧ d.shown.length ≤ sizeLine ∧ Q (.str d.shown) H
theorem call_repD {X : Cx} (hg : X.A.guards = some []) (hu : X.A.units + 64 < cLine) : CallR X (.builtin "repr") (rRepD X.K) := by
  intro pins s σ H xs us Q I r h
  obtain ⟨x, d, rfl, dp, sh, fl, dep, sz, q⟩ := h
  obtain ⟨u, rfl, rx⟩ := vals1 r
  obtain ⟨as, rd, na⟩ := Dq.reads I d x u dp rx
  have goes : ∀ (h' : Heap) (u : Tok) (tk : Nat), (∀ b o, s.heap.get? b = some o → h'.get? b = some o) → EP X pins σ Q (.str d.shown u) { s with heap := h', toks := tk } :=
    fun h' u tk k => ⟨.str d.shown, H, I.kept (t' := tk) k, ⟨_, rfl⟩, q⟩
  have mods : d.hasDict = true → sysModules ∉ as := fun z => fl.elim (fun y => by rw [y] at z; cases z) na
  have stay := goes s.heap s.toks (s.toks + 1) fun _ _ e => e
  cases dp with
  | non =>
    cases rx
    exact PySem.P.repr_of_none (by simpa only [PyData.shown] using stay)
  | bl b =>
    cases rx
    refine PySem.P.repr_of_bool ?_
    cases b <;> simpa [PyData.shown] using stay
  | int i =>
    obtain ⟨t, rfl⟩ := rx
    exact PySem.P.repr_of_int (of_decide_eq_true (by simpa [PyData.showable] using sh)) (by simpa only [PyData.shown] using stay)
  | str y =>
    obtain ⟨t, rfl⟩ := rx
    simp only [PyData.shown] at stay sz
    exact PySem.P.repr_of_str stay sz
  | lst e1 e2 =>
    obtain rfl := rx
    exact repr_of_reads' rd sh mods hg (by omega) (fun _ _ e => e) goes sz
  | tup e1 e2 =>
    obtain rfl := rx
    exact repr_of_reads' rd sh mods hg (by omega) (fun _ _ e => e) goes sz
  | emp e1 =>
    obtain rfl := rx
    exact repr_of_reads' rd sh mods hg (by omega) (fun _ _ e => e) goes sz
/-- what repr asks, of data of a level -/
theorem rep_sm {K : PySem.W.Frag} {e f : Nat} {H : Hp} {Q : VK} {x : V} {d : PyData} (h : Dq K H x d) (g : sm e f d) (he : e ≤ 3) (q : Q (.str d.shown) H) : rRepD K [x] H Q :=
  ⟨x, d, rfl, h, g.2.1.2.2.1, (match f, g.2.2 with | 0, z => .inl z.1 | 1, z => .inl z | _ + 2, z => z), Nat.le_trans g.2.1.1 (by omega), sm_len g he, q⟩
/-! the data of the law -/
theorem sm_cave {e f : Nat} {c : List (Int × Int)} (g : Good c) (h : c.length ≤ 30) : sm (e + 2) f (caveD c) := by
  have it : ∀ d ∈ c.map wayD, sm (e + 1) f d := fun d hd => by
    obtain ⟨p, hp, rfl⟩ := List.mem_map.mp hd
    exact sm_way (way_ok g hp).1 (way_ok g hp).2
  have it0 : ∀ d ∈ c.map wayD, sm (e + 1) 0 d := fun d hd => by
    obtain ⟨p, hp, rfl⟩ := List.mem_map.mp hd
    exact sm_way (way_ok g hp).1 (way_ok g hp).2
  refine ⟨fun ds z => ?_, lvl_tup (by rw [List.length_map]; exact h) fun d hd => (it d hd).2.1, flv_of0 (show PyData.hasDictAll (c.map wayD) = false from hasD_all fun d hd => (it0 d hd).2.2.1) (show noLAll (c.map wayD) = true from noL_all fun d hd => (it0 d hd).2.2.2)⟩
  cases z
  rw [List.length_map]
  exact h
end Cv

/-! the law's written caves -/
namespace Cv
open PySem PySem.Spec PyProof.Rows L2 CvT CvS CvW CvD CvR
theorem isTag_by {c : List (Int × Int)} {T : Int → Int} (r : ∀ p ∈ c, RgW p) (h1 : ∀ p ∈ c, T p.1 = T p.2) (h2 : ∀ k ∈ roomsM c, T k = k ∨ ∃ p ∈ c, p.2 = k ∧ T p.1 = T k) : IsTag c T := by
  have same : ∀ {x y : Int}, Reach c x y → T x = T y := fun h => by
    induction h with
    | refl => rfl
    | step _ a ih =>
      obtain ⟨p, hp, z⟩ := a
      have e := h1 p hp
      rcases z with ⟨z1, z2⟩ | ⟨z1, z2⟩
      · rw [ih, ← z1, ← z2, e]
      · rw [ih, ← z1, ← z2, e]
  have down : ∀ (n : Nat) (k : Int), k.toNat ≤ n → k ∈ roomsM c → T k ∈ roomsM c ∧ Reach c (T k) k ∧ T k ≤ k := fun n => by
    induction n with
    | zero =>
      intro k hn hk
      rcases h2 k hk with e | ⟨p, hp, e, e'⟩
      · rw [e]
        exact ⟨hk, .refl, Int.le_refl _⟩
      · have z := r p hp
        obtain ⟨z0, z1, z2⟩ := z
        omega
    | succ n ih =>
      intro k hn hk
      rcases h2 k hk with e | ⟨p, hp, e, e'⟩
      · rw [e]
        exact ⟨hk, .refl, Int.le_refl _⟩
      · have z := r p hp
        obtain ⟨z0, z1, z2⟩ := z
        obtain ⟨a1, a2, a3⟩ := ih p.1 (by omega) ((mem_rooms r).mpr ⟨p, hp, .inl rfl⟩)
        rw [← e']
        exact ⟨a1, a2.step ⟨p, hp, .inl ⟨rfl, e⟩⟩, by omega⟩
  intro k hk
  obtain ⟨a1, a2, a3⟩ := down k.toNat k (Nat.le_refl _) hk
  refine ⟨a1, a2, fun s hs hr => ?_⟩
  rw [← same hr]
  exact (down s.toNat s (Nat.le_refl _) hs).2.2
def okT (c : List (Int × Int)) (T : Int → Int) : Bool := (c.all fun p => decide (0 ≤ p.1) && decide (p.1 < p.2) && decide (p.2 ≤ 99)) && decide (c.Pairwise fun p q => ltP p q = true) && !c.isEmpty &&
  (c.all fun p => decide (T p.1 = T p.2)) && (roomsM c).all fun k => decide (T k = k) || c.any fun p => decide (p.2 = k) && decide (T p.1 = T k)
theorem okT_of {c : List (Int × Int)} {T : Int → Int} (h : okT c T = true) : Good c ∧ IsTag c T := by
  unfold okT at h
  simp only [Bool.and_eq_true, List.all_eq_true, decide_eq_true_eq, Bool.or_eq_true, List.any_eq_true] at h
  obtain ⟨⟨⟨⟨h1, h2⟩, h3⟩, h4⟩, h5⟩ := h
  have r : ∀ p ∈ c, RgW p := fun p hp => ⟨(h1 p hp).1.1, (h1 p hp).1.2, (h1 p hp).2⟩
  refine ⟨⟨r, h2, fun z => by rw [z] at h3; cases h3⟩, isTag_by r h4 fun k hk => ?_⟩
  rcases h5 k hk with e | ⟨p, hp, e, e'⟩
  · exact .inl e
  · exact .inr ⟨p, hp, e, e'⟩
def cP : List (Int × Int) := (List.range 99).map fun k : Nat => ((k : Int), (k : Int) + 1)
def cM : List (Int × Int) := (List.range 50).map fun k : Nat => (2 * (k : Int), 2 * (k : Int) + 1)
def cW : List (Int × Int) := (List.range 40).map fun k : Nat => (59 + (k : Int), 59 + (k : Int) + 1)
def cS : List (Int × Int) := cW.take 20 ++ cW.drop 21
def tP : Int → Int := fun _ => 0
def tM : Int → Int := fun r => r - r % 2
def tW : Int → Int := fun _ => 59
def tS : Int → Int := fun r => if r ≤ 79 then 59 else 80
theorem gP : Good cP ∧ IsTag cP tP := okT_of (by decide +kernel)
theorem gM : Good cM ∧ IsTag cM tM := okT_of (by decide +kernel)
theorem gW : Good cW ∧ IsTag cW tW := okT_of (by decide +kernel)
theorem gS : Good cS ∧ IsTag cS tS := okT_of (by decide +kernel)
theorem treeP : treeM tP cP = true := by decide +kernel
theorem treeMm : treeM tM cM = false := by decide +kernel
theorem treeW : treeM tW cW = true := by decide +kernel
theorem treeS : treeM tS cS = false := by decide +kernel
theorem partsMm : partsM tM cM = cM.map fun p => [p] := by decide +kernel
theorem partsS : partsM tS cS = [cW.take 20, cW.drop 21] := by decide +kernel
theorem roomsMm : (roomsM cM).length = 100 := by decide +kernel
theorem roomsW : roomsM cW = (List.range 41).map fun k : Nat => 59 + (k : Int) := by decide +kernel
theorem noX : isCaveD (caveD ((59, 99) :: cW)) = false := by decide +kernel
end Cv

/-! the law: its frame, heaps without tables -/
namespace Cv
open PySem PySem.Spec PyProof.Rows L2 CvT CvS CvW CvD CvR CvG LamX
abbrev sLaw : Stmt := topS 28
abbrev nLaw : List Str := ["script", "pen", "lap", "cave", "held", "due", "again", "found", "parts", "is_one", "seen", "is_right", "words_here", "many", "wide", "thing", "k", "way"]
theorem scLaw : FnScope nLaw ["script"] (defScope sLaw) := ⟨rfl, rfl, rfl, by decide +kernel, rfl, by decide +kernel, by decide +kernel⟩
theorem tab_cdv {K : PySem.W.Frag} {x q : Str} {f c T : Addr} {oc : Value} {od : Option Addr} {ps : Arguments} {body : List Stmt} {sc : Scope} {dV kV doc pm cdv ct : Value} {an : Option Addr} {osl : Array (Option Value)}
    (h : PySem.W.tabIn K x = some (c, T)) (hn : PySem.W.nsIn K mainGlobals x = some (some (.ref f))) (lk : K.lookup f = some ⟨oc, od, .func (PySem.W.fnOf x q ps body sc dV kV doc pm an cdv ct), osl⟩) : cdv = .ref c := by
  unfold PySem.W.tabIn at h
  rw [hn] at h
  dsimp only at h
  rw [lk] at h
  dsimp only at h
  split at h
  · split at h
    · split at h
      · cases h
        rfl
      · cases h
    · cases h
  · cases h
section
variable {P : Program} {w : World} {K : PySem.W.Frag} {mg : Str → Option Value} {base : Heap}
theorem law_ofT {x y : Str} {st : Stmt} {f c T : Addr} {fd : FuncData} {N : List Str} {sp : Sp} {k : Nat} (F : Fun K x x st f fd) (S : FnScope N [y] (defScope st)) (ht : PySem.W.tabIn K x = some (c, T)) (hn : PySem.W.nsIn K mainGlobals x = some (some (.ref f))) (hr : Room (k + 1) callerA)
    (hb : ∀ (m : Shared) (u : Value), BindsTo m fd ⟨[u], []⟩ [(y, u)])
    (walk : ∀ (m : Shared) (G : Hp) (vs : List V) (Q : VK) (E : XK), Room k (callerA.deeper (envOfC x (defScope st) m.heap.objs.size f (.ref c))) → sp vs G Q E →
      ∃ t, PSs (cxOf CX0 P w K mg base N x (defScope st) f (.ref c) callerA [] m G E).nox (defBody st) t ∧ t { nx := fun _ H' => Q .non H', rt := Q } (start N vs) G) : LawRun P w K mg base f sp := by
  intro m G a Q e0 hsp
  obtain ⟨oc, od, kV, doc, pm, an, cdv, ct, osl, efd, lk, hcd⟩ := F.ex
  subst efd
  obtain rfl := tab_cdv ht hn lk
  have inK : K.In m.heap := e0.mod.kin.keeps fun b o z => (e0.bs b o z).1
  have free : m.heap.NoLimit := e0.mod.nolimit.keeps fun b o z => (e0.bs b o z).1
  have names : ∀ z ∈ [(y, Value.ref a)], (defScope st).names.lookup z.1 = some .local ∨ ((defScope st).names.lookup z.1 = some .cell ∧ ((cellsFrom (m.heap.objs.size + 1) (defScope st).names []).lookup z.1).isSome = true) := by
    intro z hz
    obtain rfl := List.mem_singleton.mp hz
    exact (S.par y (by simp)).elim .inl fun c => .inr ⟨c, PySem.W.cellsFrom_some _ _ _ (.inl c)⟩
  refine codeAny_call_function hr.depth (inK _ _ lk) rfl S.co S.gen rfl (PySem.W.codeRec_of inK hcd) ?_
  refine hb m (.ref a) _ _ _ _ ?_
  refine wpAny_newFunctionEnv_cells S.kind names fun env hE m1 C => ?_
  subst hE
  refine ⟨free.keeps C.toInCall.keep, codeAny_func ?_⟩
  obtain ⟨t, ht, q⟩ := walk m G [.ref a] Q (fun _ _ _ => False) (hr.deeper _) hsp
  have J : Inv (cxOf CX0 P w K mg base N x (defScope st) f (.ref c) callerA [] m G fun _ _ _ => False) [] (start N [.ref a]) G m1 :=
    inv_start S hr.hd e0 rfl (us := [.ref a]) (.cons rfl .nil) C
  refine wpAny_mono (ht.nox.run [] m1 (start N [.ref a]) G _ J q) (fun fl z h => ?_) fun _ _ h => h
  match fl, h with
  | .ret u, ⟨v, s2, G2, J2, rv, q2⟩ => exact ⟨v, G2, J2.os, J2.bare, J2.base, J2.hok, rv, q2⟩
  | .next, ⟨s2, G2, J2, q2⟩ => exact ⟨V.non, G2, J2.os, J2.bare, J2.base, J2.hok, rfl, q2⟩
  | .brk, ⟨_, _, _, no⟩ => exact no.elim
  | .cont, ⟨_, _, _, no⟩ => exact no.elim
end
/-! heaps without tables -/
def nt (H : Hp) : Hp := fun a => match H a with
  | some (.tbl _) => none
  | o => o
theorem nt_at {H : Hp} {a : Addr} {o : HO} (h : H a = some o) (n : ∀ ps, o ≠ .tbl ps) : nt H a = some o := by
  unfold nt
  rw [h]
  cases o <;> first | rfl | exact absurd rfl (n _)
theorem nt_of {H : Hp} {a : Addr} {o : HO} (h : nt H a = some o) : H a = some o ∧ ∀ ps, o ≠ .tbl ps := by
  unfold nt at h
  cases e : H a with
  | none => rw [e] at h; cases h
  | some u =>
    rw [e] at h
    cases u <;> first | (cases h; done) | (cases h; exact ⟨rfl, fun _ z => by cases z⟩)
theorem nt_le {H : Hp} : Same (nt H) H := fun a o h => (nt_of h).1
theorem nt_ext {H H' : Hp} (e : ExtN H H') : Same (nt H) (nt H') := fun a o h => nt_at (e a o (nt_of h).1 (nt_of h).2) (nt_of h).2
theorem nt_same {H H' : Hp} (e : Same H H') : Same (nt H) (nt H') := nt_ext (ExtN.of e)
theorem nt_but {p : Addr} {H H' : Hp} (e : But p H H') : But p (nt H) (nt H') := fun a o h n => nt_at (e a o (nt_of h).1 n) (nt_of h).2
def cl (p : Addr) (H : Hp) : Hp := rm p (nt H)
theorem cl_ext {p : Addr} {H H' : Hp} (e : ExtN H H') : Same (cl p H) (cl p H') := rm_same (nt_ext e)
theorem cl_same {p : Addr} {H H' : Hp} (e : Same H H') : Same (cl p H) (cl p H') := rm_same (nt_same e)
theorem cl_but {p : Addr} {H H' : Hp} (e : But p H H') : Same (cl p H) (cl p H') := rm_but (nt_but e)
theorem cl_le {p : Addr} {H : Hp} : Same (cl p H) H := rm_le.trans nt_le
theorem SqT.nt' {K : PySem.W.Frag} {H : Hp} {a : Addr} {xs : List V} (h : SqT K H a xs) : SqT K (nt H) a xs := by
  rcases h with (h | ⟨o, h⟩) | h
  · exact .inl (.inl (nt_at h fun _ z => by cases z))
  · exact .inl (.inr ⟨o, nt_at h fun _ z => by cases z⟩)
  · exact .inr h
theorem SqL.nt' {K : PySem.W.Frag} {H : Hp} {a : Addr} {xs : List V} (h : SqL K H a xs) : SqL K (nt H) a xs := by
  rcases h with (h | ⟨o, h⟩) | h
  · exact .inl (.inl (nt_at h fun _ z => by cases z))
  · exact .inl (.inr ⟨o, nt_at h fun _ z => by cases z⟩)
  · exact .inr h
mutual
theorem Dq.nt' {K : PySem.W.Frag} {H : Hp} : ∀ {d : PyData} {v : V}, Dq K H v d → Dq K (nt H) v d
  | _, _, .non => .non
  | _, _, .bl b => .bl b
  | _, _, .int i => .int i
  | _, _, .str x => .str x
  | _, _, .lst h g => .lst (SqL.nt' h) (DqAll.nt' g)
  | _, _, .tup h g => .tup (SqT.nt' h) (DqAll.nt' g)
  | _, _, .emp h => .emp (nt_at h fun _ z => by cases z)
theorem DqAll.nt' {K : PySem.W.Frag} {H : Hp} : ∀ {ds : List PyData} {vs : List V}, DqAll K H vs ds → DqAll K (nt H) vs ds
  | _, _, .nil => .nil
  | _, _, .cons h g => .cons (Dq.nt' h) (DqAll.nt' g)
end
theorem CvAt.nt' {K : PySem.W.Frag} {a : Addr} {H : Hp} {ts : List Addr} {c : List (Int × Int)} (h : CvAt K H a ts c) : CvAt K (nt H) a ts c := ⟨SqT.nt' h.sq, h.len, fun i u q h1 h2 => SqT.nt' (h.it i u q h1 h2)⟩
theorem PenAt.nt' {H : Hp} {p l : Addr} {N : Nat} (P : PenAt H p l N) : PenAt (nt H) p l N := by
  obtain ⟨⟨i, r, e, h⟩, ⟨ns, e2, h2⟩, ne⟩ := P
  exact ⟨⟨i, r, nt_at e fun _ z => (by cases z), h⟩, ⟨ns, nt_at e2 fun _ z => (by cases z), h2⟩, ne⟩
theorem PenAt.ext {H H' : Hp} {p l : Addr} {N : Nat} (P : PenAt H p l N) (e : ExtN H H') : PenAt H' p l N := (P.nt'.keep (nt_ext e)).keep nt_le
theorem CvAt.cl' {K : PySem.W.Frag} {p l a : Addr} {N : Nat} {H : Hp} {ts : List Addr} {c : List (Int × Int)} (P : PenAt H p l N) (h : CvAt K H a ts c) : CvAt K (cl p H) a ts c := h.nt'.rm' P.nt'
theorem tabs_but {T : List (Addr × Str)} {p l : Addr} {N : Nat} {H H' : Hp} (t : Tabs T H) (P : PenAt H p l N) (b : But p H H') : Tabs T H' := fun x hx => by
  obtain ⟨⟨i, r, e, _⟩, _⟩ := P
  obtain ⟨ps, h1, h2, h3⟩ := t x hx
  refine ⟨ps, b _ _ h1 (fun z => by rw [z, e] at h1; cases h1), h2, fun pos cv hc => ?_⟩
  obtain ⟨c, e1, e2⟩ := h3 pos cv hc
  exact ⟨c, e1, b _ _ e2 (fun z => by rw [z, e] at e2; unfold CodeO at e2; cases e2)⟩
end Cv

/-! the word for a call that is kept in a lambda -/
namespace Cv
open PySem PySem.Spec PyProof.Rows L2 CvT CvS CvW CvD CvR CvG LamX
def noArgs : Arguments := { posonlyargs := [], args := [], vararg := none, kwonlyargs := [], kw_defaults := [], kwarg := none, defaults := [] }
theorem pe_word {X : Cx} {T c CI CE fX fW : Addr} {dX dW : FuncData} {kx : Nat} {sp : Sp} {x : Str} {scope : Scope} {p p1 p2 p3 lpos pos : Pos}
    (GX : FnOk X.prog X.w X.K X.mg X.base (L2.CX X.prog X.w) kx fX dX ["cave"] sp) (gX : X.mg x = some (.ref fX)) (kX : PySem.W.keepIn X.K (.ref fX) = true) (bX : Binds X.K dX ["cave"] [])
    (FW : Fun X.K "_law_word" "_law_word" sWord fW dW) (bW : Binds X.K dW ["act"] []) (gW : X.mg "_law_word" = some (.ref fW)) (hW : L2.Gl X "_law_word")
    (hmE : X.mg "CaveError" = some (.ref CE)) (hmI : X.mg "InvalidCave" = some (.ref CI)) (isi : X.mg "isinstance" = none) (exC : ExcC X.K CI) (exm : PySem.W.exmOne X.K (.ref CI) (.ref CE) = some true)
    (TB : TabB X.base X.mg c T) (hcode : X.env.code = .ref c) (hr : Room (kx + 2) X.A) (L : LamS X.env.scope scope) (glX : scope.names.lookup x = some .globalImplicit) (hN : X.N[15]? = some ("thing" : Str)) (vis : scope.names.lookup ("thing" : Str) = some .free)
    (hdx : (x == ("__debug__" : Str)) = false := by decide) :
    PE X (.Call (.Name "_law_word" p) [.Lambda noArgs (.Call (.Name x p1) [.Name "thing" p2] [] p3) scope lpos] [] pos) (tLam [(T, X.env.qual ++ "<lambda>")] (TTw CI) (fun E => tCall sp [] E (tCons (tVar 15) tNil))) := by
  obtain ⟨oc, od, kV, doc, pm, an, cdv, ct, osl, rfl, lk, hcd⟩ := FW.ex
  refine pe_lamcall (k := kx) hW gW FW.kp lk hcd bW scWord rfl (.inl rfl) (word_gives hmE hmI isi exC exm) TB hcode (List.mem_singleton.mpr rfl) (fun q hq _ => by rw [List.mem_singleton.mp hq]) hr L (by rfl) (fun _ _ _ _ _ => by rfl) (fun A outer s H E f c' hr2 => ?_)
  exact pe_call GX hr2 glX gX kX bX .nil (passes_call (takes_of rfl rfl rfl rfl) fun _ _ _ _ h => h) (pa_cons (pe_var hN (.inr (.inr vis)) (by decide) (by decide)) pa_nil) hdx
/-- what that asks, and gives: the text of the error, where the thing is no cave -/
theorem word_rooms {X : Cx} {K : PySem.W.Frag} {T CI : Addr} {q : Str} {sp : Sp} {σ : L2.St} {H : Hp} {Q : VK} {x : V} {d : PyData} (ht : Tabs [(T, q)] H) (hσ : σ[15]? = some (some x)) (hd : Dq K H x d)
    (hsp : ∀ (H' : Hp) (Q' : VK) (E : XK), Dq K H' x d → (∀ H'', Same H' H'' → E (.ref CI) none H'') → sp [x] H' Q' E) (go : ∀ H', ExtN H H' → Tabs [(T, q)] H' → Q (.str "cave") H') :
    tLam [(T, q)] (TTw CI) (fun E => tCall sp [] E (tCons (tVar 15) tNil)) σ H Q := by
  refine ⟨ht, fun H1 e1 t1 Q' => ⟨x, hσ, hsp H1 Q' _ (Dq.up nt_le _ (Dq.up (nt_ext e1) _ (Dq.nt' hd))) fun H2 s2 => ⟨rfl, rfl, fun H3 s3 => go H3 (e1.trans (ExtN.of (s2.trans s3))) (t1.ext (s2.trans s3))⟩⟩⟩
end Cv

/-! written caves and their parts, at their places -/
namespace Cv
open PySem PySem.Spec PyProof.Rows L2 CvT CvS CvW CvD CvR CvG LamX
mutual
theorem Dq.dp {K : PySem.W.Frag} {H : Hp} : ∀ {d : PyData} {v : V}, d.hasDict = false → Dq K H v d → Dp K H v d
  | _, _, _, .non => .non
  | _, _, _, .bl b => .bl b
  | _, _, _, .int i => .int i
  | _, _, _, .str x => .str x
  | _, _, g, .lst h a => .lst h (DqAll.dp g a)
  | _, _, g, .tup h a => .tup h (DqAll.dp g a)
  | _, _, g, .emp h => by cases g
theorem DqAll.dp {K : PySem.W.Frag} {H : Hp} : ∀ {ds : List PyData} {vs : List V}, PyData.hasDictAll ds = false → DqAll K H vs ds → DpAll K H vs ds
  | _, _, _, .nil => .nil
  | _, _, g, .cons h a => by
    obtain ⟨g1, g2⟩ := Bool.or_eq_false_iff.mp g
    exact .cons (Dq.dp g1 h) (DqAll.dp g2 a)
end
theorem dq_ints {K : PySem.W.Frag} {H : Hp} : ∀ ns : List Int, DqAll K H (ns.map V.int) (ns.map PyData.int)
  | [] => .nil
  | n :: ns => .cons (.int n) (dq_ints ns)
/-- some of the ways of a cave, in a tuple of their own -/
theorem cv_sub {K : PySem.W.Frag} {H : Hp} {a b : Addr} {ts : List Addr} {c : List (Int × Int)} (h : CvAt K H a ts c) (i n : Nat) (hb : SqT K H b (((ts.drop i).take n).map V.ref)) : CvAt K H b ((ts.drop i).take n) ((c.drop i).take n) :=
  ⟨hb, by rw [List.length_take, List.length_take, List.length_drop, List.length_drop, h.len], fun j t q h1 h2 => by
    rw [List.getElem?_take] at h1 h2
    split at h1
    · rename_i z
      rw [if_pos z] at h2
      rw [List.getElem?_drop] at h1 h2
      exact h.it _ t q h1 h2
    · cases h1⟩
theorem cv_app {K : PySem.W.Frag} {H : Hp} {a b d : Addr} {ts us : List Addr} {c e : List (Int × Int)} (h : CvAt K H a ts c) (g : CvAt K H b us e) (hd : SqT K H d ((ts ++ us).map V.ref)) : CvAt K H d (ts ++ us) (c ++ e) :=
  ⟨hd, by rw [List.length_append, List.length_append, h.len, g.len], fun j t q h1 h2 => by
    rcases Nat.lt_or_ge j ts.length with lt | ge
    · rw [List.getElem?_append_left lt] at h1
      rw [List.getElem?_append_left (by rw [← h.len]; exact lt)] at h2
      exact h.it j t q h1 h2
    · rw [List.getElem?_append_right ge] at h1
      rw [List.getElem?_append_right (by rw [← h.len]; exact ge), ← h.len] at h2
      exact g.it _ t q h1 h2⟩
theorem sl_head {K : PySem.W.Frag} {H : Hp} {Q : VK} {a : Addr} {ts : List Addr} {c : List (Int × Int)} (h : CvAt K H a ts c) (hl : c.length = 40) (q : ∀ b H', Same H H' → CvAt K H' b (ts.take 20) (c.take 20) → Q (.ref b) H') : rSlA K (.ref a) none (some 20) H Q := by
  have lt : (ts.map V.ref).length = 40 := by rw [List.length_map, h.len, hl]
  refine ⟨a, ts.map V.ref, rfl, h.sq, fun z => ?_, fun _ p np => q p _ (same_upd np) ?_⟩
  · rw [lt] at z
    exact absurd z (by decide)
  · have e : cutV (ts.map V.ref) none (some 20) = (ts.take 20).map V.ref := by
      unfold cutV
      rw [lt]
      show ((ts.map V.ref).drop 0).take 20 = _
      rw [List.drop_zero, List.map_take]
    rw [e]
    exact cv_sub (h.up (same_upd np)) 0 20 (SqT.of upd_same)
theorem sl_tail {K : PySem.W.Frag} {H : Hp} {Q : VK} {a : Addr} {ts : List Addr} {c : List (Int × Int)} (h : CvAt K H a ts c) (hl : c.length = 40) (q : ∀ b H', Same H H' → CvAt K H' b (ts.drop 21) (c.drop 21) → Q (.ref b) H') : rSlA K (.ref a) (some 21) none H Q := by
  have lt : (ts.map V.ref).length = 40 := by rw [List.length_map, h.len, hl]
  refine ⟨a, ts.map V.ref, rfl, h.sq, fun z => ?_, fun _ p np => q p _ (same_upd np) ?_⟩
  · rw [lt] at z
    exact absurd z (by decide)
  · have e1 : (ts.drop 21).take 19 = ts.drop 21 := List.take_of_length_le (by rw [List.length_drop, h.len, hl]; omega)
    have e2 : (c.drop 21).take 19 = c.drop 21 := List.take_of_length_le (by rw [List.length_drop, hl]; omega)
    have e : cutV (ts.map V.ref) (some 21) none = ((ts.drop 21).take 19).map V.ref := by
      unfold cutV
      rw [lt]
      show ((ts.map V.ref).drop 21).take 19 = _
      rw [List.map_take, List.map_drop]
    rw [e, ← e1, ← e2]
    exact cv_sub (h.up (same_upd np)) 21 19 (SqT.of (by rw [e1]; rw [e1] at *; exact upd_same))
/-- t + u of two caves -/
theorem cat_cv {K : PySem.W.Frag} {H : Hp} {Q : VK} {a b : Addr} {ts us : List Addr} {c e : List (Int × Int)} (h : CvAt K H a ts c) (g : CvAt K H b us e) (n1 : c ≠ []) (n2 : e ≠ []) (hl : c.length + e.length ≤ 1000) (q : ∀ d H', Same H H' → CvAt K H' d (ts ++ us) (c ++ e) → Q (.ref d) H') : rCatA K (.ref a) (.ref b) H Q := by
  have m1 : ts.map V.ref ≠ [] := fun z => n1 (List.eq_nil_of_length_eq_zero (by rw [← h.len]; simpa using congrArg List.length z))
  have m2 : us.map V.ref ≠ [] := fun z => n2 (List.eq_nil_of_length_eq_zero (by rw [← g.len]; simpa using congrArg List.length z))
  refine ⟨a, b, _, _, rfl, rfl, h.sq, g.sq, by rw [List.length_map, List.length_map, h.len, g.len, sizeLine_eq]; omega, fun z => absurd z m1, fun _ z => absurd z m2, fun _ _ p np => q p _ (same_upd np) (cv_app (h.up (same_upd np)) (g.up (same_upd np)) ?_)⟩
  rw [List.map_append]
  exact SqT.of upd_same
/-- a comprehension of pairs -/
theorem pr_step {H H' : Hp} {D t : Addr} {us : List Addr} {f : Nat → Int × Int} {j : Nat} (nD : H D = none) (s : Same H H') (hD : H' D = some (.lst (us.map V.ref))) (pr : PrAt H' us ((List.range j).map f)) (nt : H' t = none) (hj : j ≤ 1000) :
    upd H' t (.tup [.int (f j).1, .int (f j).2]) D = some (.lst (us.map V.ref)) ∧ (us.map V.ref).length < sizeLine ∧ Same H (upd (upd H' t (.tup [.int (f j).1, .int (f j).2])) D (.lst (us.map V.ref ++ [.ref t]))) ∧
    ∃ vs : List Addr, upd (upd H' t (.tup [.int (f j).1, .int (f j).2])) D (.lst (us.map V.ref ++ [.ref t])) D = some (.lst (vs.map V.ref)) ∧ PrAt (upd (upd H' t (.tup [.int (f j).1, .int (f j).2])) D (.lst (us.map V.ref ++ [.ref t]))) vs ((List.range (j + 1)).map f) := by
  have hD2 : upd H' t (.tup [.int (f j).1, .int (f j).2]) D = some (.lst (us.map V.ref)) := by
    rw [upd_ne (ne_of_none hD nt)]
    exact hD
  refine ⟨hD2, ?_, fun x o ex => ?_, us ++ [t], ?_, ?_⟩
  · have z := pr.1
    rw [List.length_map, List.length_range] at z
    rw [List.length_map, z, sizeLine_eq]
    omega
  · rw [upd_ne (ne_of_none ex nD), upd_ne (ne_of_none (s _ _ ex) nt)]
    exact s _ _ ex
  · rw [upd_same, List.map_append]
    rfl
  · rw [List.range_succ, List.map_append]
    exact ((pr.up (same_upd nt)).app (PrAt.one upd_same)).lst hD2
theorem pr_cv {K : PySem.W.Frag} {H : Hp} {a : Addr} {ts : List Addr} {c : List (Int × Int)} (h : PrAt H ts c) (ha : SqT K H a (ts.map V.ref)) : CvAt K H a ts c := ⟨ha, h.1, fun j t q h1 h2 => SqT.of (h.2 j t q h1 h2)⟩
/-- tuples of one way each -/
def OneAt (H : Hp) (us ts : List Addr) (j : Nat) : Prop := us.length = j ∧ ∀ (k : Nat) (u : Addr), us[k]? = some u → ∃ t, ts[k]? = some t ∧ H u = some (.tup [.ref t])
theorem one_step {H H' : Hp} {D t w : Addr} {us ts : List Addr} {j : Nat} (nD : H D = none) (s : Same H H') (hD : H' D = some (.lst (us.map V.ref))) (pr : OneAt H' us ts j) (nt : H' t = none) (hw : ts[j]? = some w) (hj : j ≤ 1000) :
    upd H' t (.tup [.ref w]) D = some (.lst (us.map V.ref)) ∧ (us.map V.ref).length < sizeLine ∧ Same H (upd (upd H' t (.tup [.ref w])) D (.lst (us.map V.ref ++ [.ref t]))) ∧
    ∃ vs : List Addr, upd (upd H' t (.tup [.ref w])) D (.lst (us.map V.ref ++ [.ref t])) D = some (.lst (vs.map V.ref)) ∧ OneAt (upd (upd H' t (.tup [.ref w])) D (.lst (us.map V.ref ++ [.ref t]))) vs ts (j + 1) := by
  have hD2 : upd H' t (.tup [.ref w]) D = some (.lst (us.map V.ref)) := by
    rw [upd_ne (ne_of_none hD nt)]
    exact hD
  refine ⟨hD2, ?_, fun x o ex => ?_, us ++ [t], ?_, ?_, fun k u hk => ?_⟩
  · rw [List.length_map, pr.1, sizeLine_eq]
    omega
  · rw [upd_ne (ne_of_none ex nD), upd_ne (ne_of_none (s _ _ ex) nt)]
    exact s _ _ ex
  · rw [upd_same, List.map_append]
    rfl
  · rw [List.length_append, pr.1]
    rfl
  · have tup : ∀ (b : Addr) (xs : List V), upd H' t (.tup [.ref w]) b = some (.tup xs) → upd (upd H' t (.tup [.ref w])) D (.lst (us.map V.ref ++ [.ref t])) b = some (.tup xs) := fun b xs e => by
      rw [upd_ne (fun z => by rw [z, hD2] at e; cases e)]
      exact e
    rcases Nat.lt_or_ge k us.length with lt | ge
    · rw [List.getElem?_append_left lt] at hk
      obtain ⟨v, hv, e⟩ := pr.2 k u hk
      exact ⟨v, hv, tup _ _ (same_upd nt _ _ e)⟩
    · rw [List.getElem?_append_right ge] at hk
      have k0 : k - us.length = 0 := by
        have z := (List.getElem?_eq_some_iff.mp hk).1
        rw [List.length_singleton] at z
        omega
      rw [k0] at hk
      cases hk
      have ek : k = j := by
        have z := pr.1
        omega
      rw [ek]
      exact ⟨w, hw, tup _ _ upd_same⟩
theorem OneAt.nil {H : Hp} {ts : List Addr} : OneAt H [] ts 0 := ⟨rfl, fun k u h => by simp at h⟩
theorem one_dq {K : PySem.W.Frag} {H : Hp} {a : Addr} {us ts : List Addr} {c : List (Int × Int)} (h : CvAt K H a ts c) (pr : OneAt H us ts c.length) : DqAll K H (us.map V.ref) (c.map fun p => caveD [p]) :=
  DqAll.of_get (by rw [List.length_map, List.length_map, pr.1]) fun i x d h1 h2 => by
    obtain ⟨u, hu, rfl⟩ := map_get h1
    obtain ⟨t, ht, e⟩ := pr.2 i u hu
    obtain ⟨p, hp, hw⟩ := cv_get h ht
    rw [List.getElem?_map, hp] at h2
    cases h2
    exact .tup (ds := [wayD p]) (SqT.of e) (.cons (.tup hw (.cons (.int _) (.cons (.int _) .nil))) .nil)
/-! equal data -/
theorem caves_dict (cs : List (List (Int × Int))) : PyData.hasDictAll (cs.map caveD) = false := hasD_all fun d hd => by
  obtain ⟨c, _, rfl⟩ := List.mem_map.mp hd
  show PyData.hasDictAll (c.map wayD) = false
  exact hasD_all fun d hd => by
    obtain ⟨p, _, rfl⟩ := List.mem_map.mp hd
    rfl
theorem ints_dict (ns : List Int) : PyData.hasDictAll (ns.map PyData.int) = false := hasD_all fun d hd => by
  obtain ⟨c, _, rfl⟩ := List.mem_map.mp hd
  rfl
theorem eqM : PyData.eqv (.list ((partsM tM cM).map caveD)) (.list (cM.map fun p => caveD [p])) = true := by decide +kernel
theorem eqS : PyData.eqv (.list ((partsM tS cS).map caveD)) (.list [caveD (cW.take 20), caveD (cW.drop 21)]) = true := by decide +kernel
theorem eqW : PyData.eqv (.list ((roomsM cW).map PyData.int)) (.list ((roomsM cW).map PyData.int)) = true := by decide +kernel
theorem shM : SeqAt.shaped (.list ((partsM tM cM).map caveD)) = true ∧ SeqAt.shaped (.list (cM.map fun p => caveD [p])) = true := by decide +kernel
theorem shS : SeqAt.shaped (.list ((partsM tS cS).map caveD)) = true ∧ SeqAt.shaped (.list [caveD (cW.take 20), caveD (cW.drop 21)]) = true := by decide +kernel
theorem rgW : rgV 59 100 = (roomsM cW).map V.int := by
  rw [roomsW, List.map_map]
  rfl
end Cv

/-! what the law rests on; its closed checks -/
namespace Cv
open PySem PySem.Spec PyProof.Rows L2 CvT CvS CvW CvD CvR CvG LamX
/-- a def that is told by its promise -/
structure Cal (P : Program) (w : World) (K : PySem.W.Frag) (mg : Str → Option Value) (base : Heap) (cx : CXT) (k : Nat) (x : Str) (ps : List Str) (sp : Sp) : Prop where
  ex : ∃ (f : Addr) (d : FuncData), FnOk P w K mg base cx k f d ps sp ∧ Binds K d ps [] ∧ mg x = some (.ref f) ∧ PySem.W.keepIn K (.ref f) = true
section
variable {X : Cx} {x : Str} {k : Nat} {ps : List Str} {sp : Sp} {e : Expr} {es : List Expr} {p pos : Pos} {t : TA}
theorem Cal.pe (C : Cal X.prog X.w X.K X.mg X.base CX0 k x ps sp) (hr : Room k X.A) (hg : L2.Gl X x) (ha : PA X (e :: es) t) (hdb : (x == ("__debug__" : Str)) = false := by decide) (he : starEach (e :: es) X.env = (false, eval e X.env) :: starEach es X.env := by rfl) (hpl : (backTo pos (starEach es X.env)).any (·.1) = false := by rfl) :
    PE X (.Call (.Name x p) (e :: es) [] pos) (tCall sp [] E0 t) := by
  obtain ⟨f, d, G, b, g, kp⟩ := C.ex
  exact pe_call G hr hg g kp b .nil pass0 ha hdb he hpl
theorem Cal.peX (C : Cal X.prog X.w X.K X.mg X.base (L2.CX X.prog X.w) k x ps sp) (hr : Room k X.A) (hg : L2.Gl X x) (ha : PA X (e :: es) t) (hdb : (x == ("__debug__" : Str)) = false := by decide) (he : starEach (e :: es) X.env = (false, eval e X.env) :: starEach es X.env := by rfl) (hpl : (backTo pos (starEach es X.env)).any (·.1) = false := by rfl) :
    PE X (.Call (.Name x p) (e :: es) [] pos) (tCall sp [] E0 t) := by
  obtain ⟨f, d, G, b, g, kp⟩ := C.ex
  exact pe_call G hr hg g kp b .nil passE ha hdb he hpl
end
structure Env01 (P : Program) (w : World) (K : PySem.W.Frag) (mg : Str → Option Value) (base : Heap) (CI CE : Addr) : Prop where
  pen : Cal P w K mg base CX0 1 "_law_pen" ["script"] (spPen K)
  draw : Cal P w K mg base CX0 2 "_law_draw" ["pen", "under"] spDraw
  cave : Cal P w K mg base CX0 4 "_law_cave" ["pen", "most"] (spCa K)
  tree : Cal P w K mg base CX0 3 "_law_tree" ["pen", "most"] (spTr K)
  parts : Cal P w K mg base CX0 2 "_law_parts" ["cave"] (spLP K)
  rooms : Cal P w K mg base CX0 1 "_law_rooms" ["ways"] (spLR K)
  bent : Cal P w K mg base CX0 3 "_law_bent" ["pen", "cave"] (spBe K)
  isc : Cal P w K mg base CX0 1 "_law_is_cave" ["thing"] (spLI K)
  pRooms : Cal P w K mg base (L2.CX P w) 6 "rooms_of" ["cave"] (spRooms K CI)
  pParts : Cal P w K mg base (L2.CX P w) 8 "parts_of" ["cave"] (spParts K CI)
  pIs : Cal P w K mg base CX0 4 "is_cave" ["thing"] (spD K isCaveD)
  pTree : Cal P w K mg base CX0 9 "is_tree" ["thing"] (spTree K)
  word : ∃ fW dW, Fun K "_law_word" "_law_word" sWord fW dW ∧ Binds K dW ["act"] [] ∧ mg "_law_word" = some (.ref fW)
  T : TxtI mg
  rep : mg "repr" = none
  hmE : mg "CaveError" = some (.ref CE)
  hmI : mg "InvalidCave" = some (.ref CI)
  exC : ExcC K CI
  exm : PySem.W.exmOne K (.ref CI) (.ref CE) = some true
section
variable {X : Cx} {CI CE : Addr}
/-- the rooms, the parts, the judgement of a written cave -/
theorem rooms_go {K : PySem.W.Frag} {a : Addr} {ts : List Addr} {c : List (Int × Int)} {H : Hp} {Q : VK} {E : XK} (cv : CvAt K H a ts c) (g : Good c) (q : ∀ H' p, Same H H' → H p = none → H' p = some (.lst ((roomsM c).map V.int)) → Q (.ref p) H') : spRooms K CI [.ref a] H Q E :=
  ⟨_, _, rfl, cv.dq, fun c' e _ => by
    obtain rfl := caveD_inj e
    exact q, fun z => by rw [g.isCave] at z; cases z⟩
theorem parts_go {K : PySem.W.Frag} {a : Addr} {ts : List Addr} {c : List (Int × Int)} {T : Int → Int} {H : Hp} {Q : VK} {E : XK} (cv : CvAt K H a ts c) (g : Good c) (tg : IsTag c T) (q : ∀ H' p xs, Same H H' → H p = none → H' p = some (.lst xs) → DqAll K H' xs ((partsM T c).map caveD) → Q (.ref p) H') : spParts K CI [.ref a] H Q E :=
  ⟨_, _, rfl, cv.dq, fun c' e g' H' p xs U s np hp tU dq => by
    obtain rfl := caveD_inj e
    rw [tU.parts g'.rg tg] at dq
    exact q H' p xs s np hp dq, fun z => by rw [g.isCave] at z; cases z⟩
theorem tree_go {K : PySem.W.Frag} {a : Addr} {ts : List Addr} {c : List (Int × Int)} {T : Int → Int} {H : Hp} {Q : VK} {E : XK} (cv : CvAt K H a ts c) (g : Good c) (tg : IsTag c T) (q : ∀ H', Same H H' → Q (.bl (treeM T c)) H') : spTree K [.ref a] H Q E :=
  ⟨_, _, rfl, cv.dq, .inl ⟨c, T, rfl, g, tg, q⟩⟩
end
end Cv

/-! the closed checks -/
namespace Cv
open PySem PySem.Spec PyProof.Rows L2 CvT CvS CvW CvD CvR CvG LamX
def fP (j : Nat) : Int × Int := ((0 : Int) + (j : Nat), (0 : Int) + (j : Nat) + 1)
def fM (j : Nat) : Int × Int := (2 * ((0 : Int) + (j : Nat)), 2 * ((0 : Int) + (j : Nat)) + 1)
def fW (j : Nat) : Int × Int := ((59 : Int) + (j : Nat), (59 : Int) + (j : Nat) + 1)
theorem eP : (List.range 99).map fP = cP := by decide +kernel
theorem eM : (List.range 50).map fM = cM := by decide +kernel
theorem eW : (List.range 40).map fW = cW := by decide +kernel
theorem lenM : cM.length = 50 := by decide +kernel
theorem lenW : cW.length = 40 := by decide +kernel
theorem catW : cW.take 20 ++ cW.drop 21 = cS := rfl
theorem iteF {b : Bool} {A B : Prop} (hb : b = false) (h : B) : if b = true then A else B := by rw [hb]; exact h
theorem iteT {b : Bool} {A B : Prop} (hb : b = true) (h : A) : if b = true then A else B := by rw [hb]; exact h
theorem tail_ok {P : Program} {w : World} {K : PySem.W.Frag} {mg : Str → Option Value} {base : Heap} {CI CE f c : Addr} {m : Shared} {G : Hp} {E : XK} (Z : Env01 P w K mg base CI CE) (hr : Room 12 (callerA.deeper (envOfC "law" (defScope sLaw) m.heap.objs.size f (.ref c)))) :
    ∃ t, PSs (cxOf CX0 P w K mg base nLaw "law" (defScope sLaw) f (.ref c) callerA [] m G E).nox ((defBody sLaw).drop 2) t ∧
      ∀ (D : Ends) (H : Hp) (v0 v1 v2 v3 v4 v5 v6 v7 v8 v9 v10 v11 v12 v13 v14 v15 v16 v17 : Option V), (∀ H', D.rt (.bl true) H') → t D [v0, v1, v2, v3, v4, v5, v6, v7, v8, v9, v10, v11, v12, v13, v14, v15, v16, v17] H := by
  have hr9 : Room 9 _ := hr.mono (by decide)
  have hr8 : Room 8 _ := hr.mono (by decide)
  have hr6 : Room 6 _ := hr.mono (by decide)
  refine ⟨_, pss_cons (ps_if (pt_cmpR op_isnot_bl (Z.pTree.pe hr9 (by rfl) (pa_cons (pe_callTy call_tuple_of (by rfl) Z.T.tup (by decide +kernel) (pa_cons
        (pe_lc (own := [("k", 16)]) (g := gName 16) (tt := tYes) (te := tTup (tCons (tVar 16) (tCons (tOp (rI0 fun i j => .int (i + j)) (tVar 16) (tC (.int 1))) tNil))) rfl scLaw.nd (pi_range1 (by rfl) Z.T.rng (pa_cons pe_int pa_nil))
          (blkOk_by (own := [("k", 16)]) (N := nLaw) (sc := defScope sLaw) (by decide +kernel)) (fun _ _ _ _ _ => pg_name (i := 16) scLaw.nd rfl (.inl rfl)) (fun _ _ _ _ _ => pts_nil) (fun _ _ _ _ _ => pe_tup (pa_cons (pv 16) (pa_cons (pe_op op_add (pv 16) pe_int) pa_nil)))) pa_nil)) pa_nil)) pe_bl (nomark _)) (pss_one (ps_ret pe_bl)) pss_nil)
    (pss_cons (ps_set (i := 13) scLaw.nd rfl (.inl rfl) (pe_callTy call_tuple_of (by rfl) Z.T.tup (by decide +kernel) (pa_cons
        (pe_lc (own := [("k", 16)]) (g := gName 16) (tt := tYes) (te := tTup (tCons (tOp (rI CMul fun i j => .int (i * j)) (tC (.int 2)) (tVar 16)) (tCons (tOp (rI0 fun i j => .int (i + j)) (tOp (rI CMul fun i j => .int (i * j)) (tC (.int 2)) (tVar 16)) (tC (.int 1))) tNil))) rfl scLaw.nd (pi_range1 (by rfl) Z.T.rng (pa_cons pe_int pa_nil))
          (blkOk_by (own := [("k", 16)]) (N := nLaw) (sc := defScope sLaw) (by decide +kernel)) (fun _ _ _ _ _ => pg_name (i := 16) scLaw.nd rfl (.inl rfl)) (fun _ _ _ _ _ => pts_nil) (fun _ _ _ _ _ => pe_tup (pa_cons (pe_op op_mul pe_int (pv 16)) (pa_cons (pe_op op_add (pe_op op_mul pe_int (pv 16)) pe_int) pa_nil)))) pa_nil)))
    (pss_cons (ps_if (PW.pt (pw_or (pt_cmpR (op_neD hr.units) (Z.pParts.peX hr8 (by rfl) (pa_cons (pv 13) pa_nil))
          (pe_lc (own := [("way", 17)]) (g := gName 17) (tt := tYes) (te := tTup (tCons (tVar 17) tNil)) rfl scLaw.nd (pi_tup (pv 13)) (blkOk_by (own := [("way", 17)]) (N := nLaw) (sc := defScope sLaw) (by decide +kernel)) (fun _ _ _ _ _ => pg_name (i := 17) scLaw.nd rfl (.inl rfl)) (fun _ _ _ _ _ => pts_nil) (fun _ _ _ _ _ => pe_tup (pa_cons (pv 17) pa_nil))) (nomark _))
        (pw_or (pt_cmpR op_isnot_bl (Z.pTree.pe hr9 (by rfl) (pa_cons (pv 13) pa_nil)) pe_bl (nomark _))
        (pw_or1 (pt_cmpR op_ne (pe_callB call_len_seq (by rfl) Z.T.len PySem.boot_len (pa_cons (Z.pRooms.peX hr6 (by rfl) (pa_cons (pv 13) pa_nil)) pa_nil)) pe_int (nomark _)))))) (pss_one (ps_ret pe_bl)) pss_nil)
    (pss_cons (ps_set (i := 14) scLaw.nd rfl (.inl rfl) (pe_callTy call_tuple_of (by rfl) Z.T.tup (by decide +kernel) (pa_cons
        (pe_lc (own := [("k", 16)]) (g := gName 16) (tt := tYes) (te := tTup (tCons (tVar 16) (tCons (tOp (rI0 fun i j => .int (i + j)) (tVar 16) (tC (.int 1))) tNil))) rfl scLaw.nd (pi_range2 (by rfl) Z.T.rng (pa_cons pe_int (pa_cons pe_int pa_nil)))
          (blkOk_by (own := [("k", 16)]) (N := nLaw) (sc := defScope sLaw) (by decide +kernel)) (fun _ _ _ _ _ => pg_name (i := 16) scLaw.nd rfl (.inl rfl)) (fun _ _ _ _ _ => pts_nil) (fun _ _ _ _ _ => pe_tup (pa_cons (pv 16) (pa_cons (pe_op op_add (pv 16) pe_int) pa_nil)))) pa_nil)))
    (pss_cons (ps_if (PW.pt (pw_or (pt_cmpR (op_neD hr.units) (Z.pRooms.peX hr6 (by rfl) (pa_cons (pv 14) pa_nil)) (pe_listRg rfl (by rfl) Z.T.list (prg_2 (by rfl) Z.T.rng pe_int pe_int)) (nomark _))
        (pw_or1 (pt_cmpR (op_neD hr.units) (Z.pParts.peX hr8 (by rfl) (pa_cons (pe_op op_catA (pe_slice sl_tupA (pv 14) po_none (po_some pe_int)) (pe_slice sl_tupA (pv 14) (po_some pe_int) po_none)) pa_nil))
          (pe_lst (pa_cons (pe_slice sl_tupA (pv 14) po_none (po_some pe_int)) (pa_cons (pe_slice sl_tupA (pv 14) (po_some pe_int) po_none) pa_nil))) (nomark _))))) (pss_one (ps_ret pe_bl)) pss_nil)
    (pss_one (ps_ret (pe_and (pe_cmpR op_is_bl (Z.pTree.pe hr9 (by rfl) (pa_cons (pv 14) pa_nil)) pe_bl (nomark _))
      (pe_and (pe_cmpR op_is_bl (Z.pTree.pe hr9 (by rfl) (pa_cons (pe_op op_catA (pe_tup (pa_cons (pe_tup (pa_cons pe_int (pa_cons pe_int pa_nil))) pa_nil)) (pv 14)) pa_nil)) pe_bl (nomark _))
      (pe_one (pe_cmpR op_is_bl (Z.pTree.pe hr9 (by rfl) (pa_cons (pe_op op_catA (pe_slice sl_tupA (pv 14) po_none (po_some pe_int)) (pe_slice sl_tupA (pv 14) (po_some pe_int) po_none)) pa_nil)) pe_bl (nomark _)))))))))))  , ?_⟩
  intro D H v0 v1 v2 v3 v4 v5 v6 v7 v8 v9 v10 v11 v12 v13 v14 v15 v16 v17 q
  -- the long path
  refine seqI ?_
  refine ⟨99, rfl, by decide, by decide, fun D1 nD1 => walkR (lo := 0) (n := (99 : Int).toNat) (fun j H' => Same H H' ∧ ∃ us : List Addr, H' D1 = some (.lst (us.map V.ref)) ∧ PrAt H' us ((List.range j).map fP)) ⟨same_upd nD1, [], upd_same, PrAt.nil⟩ (fun j H' hj ⟨s1, us, hD, pr⟩ => ?_) (fun H1 ⟨s1, us, hD, pr⟩ => ?_)⟩
  · have hj : j < 99 := hj
    refine ⟨rfl, yesI ⟨.int (0 + (j : Int)), rfl, .int (0 + (j : Int)), rfl, _, _, rfl, rfl, (by show 2 ≤ sizeLine; decide), fun t nt => ⟨us.map V.ref, ?_⟩⟩⟩
    exact pr_step (f := fP) nD1 s1 hD pr nt (by omega)
  have pr : PrAt H1 us cP := by
    have z := pr
    rw [show (99 : Int).toNat = 99 from rfl, eP] at z
    exact z
  refine ⟨D1, us.map V.ref, rfl, .inl ⟨SqL.of hD, fun a1 na1 => ?_⟩⟩
  have cv1 := pr_cv (K := K) (a := a1) (pr.up (same_upd na1)) (SqT.of upd_same)
  refine ⟨_, _, rfl, cv1.dq, .inl ⟨cP, tP, rfl, gP.1, gP.2, fun H2 s2 => ?_⟩⟩
  refine ⟨_, true, rfl, rfl, _, rfl, iteF (by rw [treeP]; rfl) ?_⟩
  dsimp only [tNext]
  -- many
  refine seqI (asgI ?_)
  refine ⟨50, rfl, by decide, by decide, fun D1 nD1 => walkR (lo := 0) (n := (50 : Int).toNat) (fun j H' => Same H2 H' ∧ ∃ us : List Addr, H' D1 = some (.lst (us.map V.ref)) ∧ PrAt H' us ((List.range j).map fM)) ⟨same_upd nD1, [], upd_same, PrAt.nil⟩ (fun j H' hj ⟨s1, us, hD, pr⟩ => ?_) (fun H3 ⟨s3, us, hD, pr⟩ => ?_)⟩
  · have hj : j < 50 := hj
    refine ⟨rfl, yesI ⟨.int (0 + (j : Int)), rfl, _, _, rfl, rfl, .inl ⟨by decide, by decide⟩, .int (0 + (j : Int)), rfl, _, _, rfl, rfl, .inl ⟨by decide, by decide⟩, _, _, rfl, rfl, (by show 2 ≤ sizeLine; decide), fun t nt => ⟨us.map V.ref, ?_⟩⟩⟩
    exact pr_step (f := fM) nD1 s1 hD pr nt (by omega)
  have pr3 : PrAt H3 us cM := by
    have z := pr
    rw [show (50 : Int).toNat = 50 from rfl, eM] at z
    exact z
  refine ⟨D1, us.map V.ref, rfl, .inl ⟨SqL.of hD, fun a2 na2 => ?_⟩⟩
  have cv2 := pr_cv (K := K) (a := a2) (pr3.up (same_upd na2)) (SqT.of upd_same)
  dsimp only
  generalize upd H3 a2 (HO.tup (us.map V.ref)) = H4 at cv2
  refine seqI ?_
  refine ⟨.ref a2, rfl, ?_⟩
  refine ⟨_, _, rfl, cv2.dq, fun c' e' g' H5 q5 xs5 U5 s5 n5 h5 tU dq5 => ?_, fun z => by rw [gM.1.isCave] at z; cases z⟩
  have dq5 : DqAll K H5 xs5 ((partsM tM cM).map caveD) := by
    obtain rfl := caveD_inj e'
    rw [tU.parts g'.rg gM.2] at dq5
    exact dq5
  refine ⟨.ref a2, rfl, a2, rfl, ⟨_, (cv2.up s5).sq⟩, fun D2 nD2 => walkT (K := K) (a := a2) (xs := us.map V.ref) (fun j H' => Same H5 H' ∧ ∃ vs : List Addr, H' D2 = some (.lst (vs.map V.ref)) ∧ OneAt H' vs us j) ⟨same_upd nD2, [], upd_same, OneAt.nil⟩ (fun j H' ⟨s', _⟩ => (cv2.up (s5.trans s')).sq) (fun j x H' hx ⟨s', vs, hD', o'⟩ => ?_) (fun H6 ⟨s6, vs, hD6, o6⟩ => ?_)⟩
  · obtain ⟨t, ht, rfl⟩ := map_get hx
    have hj : j < us.length := (List.getElem?_eq_some_iff.mp ht).1
    have lu : us.length = 50 := by rw [cv2.len, lenM]
    refine ⟨rfl, yesI ⟨.ref t, rfl, (by show 1 ≤ sizeLine; decide), fun u nu => ⟨vs.map V.ref, ?_⟩⟩⟩
    exact one_step nD2 s' hD' o' nu ht (by omega)
  rw [List.length_map, cv2.len] at o6
  have cv6 := cv2.up (s5.trans s6)
  refine ⟨.list ((partsM tM cM).map caveD), .list (cM.map fun p => caveD [p]), .lst (SqL.of (s6 _ _ h5)) (DqAll.dp (caves_dict _) (DqAll.up s6 _ dq5)), Dq.dp (by decide +kernel) (.lst (SqL.of hD6) (one_dq cv6 o6)), shM.1, shM.2, _, rfl, ?_⟩
  rw [eqM]
  refine iteF rfl ?_
  refine ⟨.ref a2, rfl, ?_⟩
  refine ⟨_, _, rfl, cv6.dq, .inl ⟨cM, tM, rfl, gM.1, gM.2, fun H7 s7 => ?_⟩⟩
  refine ⟨_, false, rfl, rfl, _, rfl, iteF (by rw [treeMm]; rfl) ?_⟩
  refine ⟨.ref a2, rfl, ?_⟩
  refine ⟨_, _, rfl, (cv6.up s7).dq, fun c' e' g' H8 p8 s8 n8 h8 => ?_, fun z => by rw [gM.1.isCave] at z; cases z⟩
  obtain rfl := caveD_inj e'
  refine ⟨p8, _, rfl, .inl (SqL.of h8), ?_⟩
  refine ⟨rfl, _, rfl, iteF (by rw [List.length_map, roomsMm]; rfl) ?_⟩
  dsimp only [tNext]
  -- wide
  refine seqI (asgI ?_)
  refine ⟨59, 99, rfl, ⟨by decide, by decide, by decide, by decide⟩, fun D1 nD1 => walkR (lo := 59) (n := ((99 : Int) - 59).toNat) (fun j H' => Same H8 H' ∧ ∃ us : List Addr, H' D1 = some (.lst (us.map V.ref)) ∧ PrAt H' us ((List.range j).map fW)) ⟨same_upd nD1, [], upd_same, PrAt.nil⟩ (fun j H' hj ⟨s1, us, hD, pr⟩ => ?_) (fun H9 ⟨s9, us, hD, pr⟩ => ?_)⟩
  · have hj : j < 40 := hj
    refine ⟨rfl, yesI ⟨.int (59 + (j : Int)), rfl, .int (59 + (j : Int)), rfl, _, _, rfl, rfl, (by show 2 ≤ sizeLine; decide), fun t nt => ⟨us.map V.ref, ?_⟩⟩⟩
    exact pr_step (f := fW) nD1 s1 hD pr nt (by omega)
  have pr9 : PrAt H9 us cW := by
    have z := pr
    rw [show ((99 : Int) - 59).toNat = 40 from rfl, eW] at z
    exact z
  refine ⟨D1, us.map V.ref, rfl, .inl ⟨SqL.of hD, fun a3 na3 => ?_⟩⟩
  have cv3 := pr_cv (K := K) (a := a3) (pr9.up (same_upd na3)) (SqT.of upd_same)
  dsimp only
  generalize upd H9 a3 (HO.tup (us.map V.ref)) = H10 at cv3
  refine seqI ?_
  refine ⟨.ref a3, rfl, ?_⟩
  refine ⟨_, _, rfl, cv3.dq, fun c' e' g' H11 p11 s11 n11 h11 => ?_, fun z => by rw [gW.1.isCave] at z; cases z⟩
  obtain rfl := caveD_inj e'
  refine ⟨59, 100, rfl, rfl, RgOk.of_le (by decide) (by decide) (by decide) (by decide), fun q12 n12 => ?_⟩
  have s12 := same_upd (o := .lst (rgV 59 100)) n12
  refine ⟨.list ((roomsM cW).map PyData.int), .list ((roomsM cW).map PyData.int), .lst (SqL.of (s12 _ _ h11)) (dp_ints _), .lst (SqL.of (by rw [upd_same, rgW])) (dp_ints _), shaped_ints _, shaped_ints _, _, rfl, iteF (by rw [eqW]; rfl) ?_⟩
  generalize upd H11 q12 (HO.lst (rgV 59 100)) = H12 at s12
  have cv12 := cv3.up (s11.trans s12)
  refine ⟨.ref a3, rfl, ?_⟩
  dsimp only [tNoPart]
  refine ⟨20, rfl, ?_⟩
  refine sl_head cv12 lenW fun b13 H13 s13 cv13 => ?_
  refine ⟨.ref a3, rfl, 21, rfl, ?_⟩
  dsimp only [tNoPart]
  refine sl_tail (cv12.up s13) lenW fun b14 H14 s14 cv14 => ?_
  refine cat_cv (cv13.up s14) cv14 (by decide) (by decide) (by decide) fun d15 H15 s15 cv15 => ?_
  have cv15 : CvAt K H15 d15 (us.take 20 ++ us.drop 21) cS := cv15
  refine ⟨_, _, rfl, cv15.dq, fun c' e' g' H16 q16 xs16 U16 s16 n16 h16 tU dq16 => ?_, fun z => by rw [gS.1.isCave] at z; cases z⟩
  have dq16 : DqAll K H16 xs16 ((partsM tS cS).map caveD) := by
    obtain rfl := caveD_inj e'
    rw [tU.parts g'.rg gS.2] at dq16
    exact dq16
  have cv16 := cv12.up (s13.trans (s14.trans (s15.trans s16)))
  refine ⟨.ref a3, rfl, ?_⟩
  dsimp only [tNoPart]
  refine ⟨20, rfl, ?_⟩
  refine sl_head cv16 lenW fun b17 H17 s17 cv17 => ?_
  refine ⟨.ref a3, rfl, 21, rfl, ?_⟩
  dsimp only [tNoPart]
  refine sl_tail (cv16.up s17) lenW fun b18 H18 s18 cv18 => ?_
  refine ⟨(by show 2 ≤ sizeLine; decide), fun l19 n19 => ?_⟩
  have s19 := same_upd (o := .lst [.ref b17, .ref b18]) n19
  have s69 := s17.trans (s18.trans s19)
  refine ⟨.list ((partsM tS cS).map caveD), .list [caveD (cW.take 20), caveD (cW.drop 21)], .lst (SqL.of (s69 _ _ h16)) (DqAll.dp (caves_dict _) (DqAll.up s69 _ dq16)), Dq.dp (by decide +kernel) (.lst (SqL.of upd_same) (.cons (cv17.up (s18.trans s19)).dq (.cons (cv18.up s19).dq .nil))), shS.1, shS.2, _, rfl, iteF (by rw [eqS]; rfl) ?_⟩
  have cv19 := cv16.up s69
  generalize upd H18 l19 (HO.lst [V.ref b17, V.ref b18]) = H19 at cv19
  dsimp only [tNext]
  -- the end
  refine ⟨.ref a3, rfl, ?_⟩
  refine ⟨_, _, rfl, cv19.dq, .inl ⟨cW, tW, rfl, gW.1, gW.2, fun H20 s20 => ?_⟩⟩
  refine ⟨_, true, rfl, rfl, ?_⟩
  refine ⟨_, rfl, iteT (by rw [treeW]; rfl) ?_⟩
  refine ⟨(by show 2 ≤ sizeLine; decide), fun t21 n21 => ⟨(by show 1 ≤ sizeLine; decide), fun u21 m21 => ⟨.ref a3, rfl, ?_⟩⟩⟩
  have cv20 := cv19.up s20
  have s21 := (same_upd (o := .tup [.int 59, .int 99]) n21).trans (same_upd (o := .tup [.ref t21]) m21)
  have cv21 : CvAt K (upd (upd H20 t21 (.tup [.int 59, .int 99])) u21 (.tup [.ref t21])) u21 [t21] [(59, 99)] := pr_cv (PrAt.one (same_upd m21 _ _ upd_same)) (SqT.of upd_same)
  refine cat_cv cv21 (cv20.up s21) (by decide) (by decide) (by decide) fun d22 H22 s22 cv22 => ?_
  refine ⟨_, _, rfl, cv22.dq, .inr ⟨noX, fun H23 s23 => ?_⟩⟩
  refine ⟨false, false, rfl, rfl, ?_⟩
  refine ⟨_, rfl, iteT rfl ?_⟩
  have cv23 := cv20.up (s21.trans (s22.trans s23))
  refine ⟨.ref a3, rfl, ?_⟩
  dsimp only [tNoPart]
  refine ⟨20, rfl, ?_⟩
  refine sl_head cv23 lenW fun b24 H24 s24 cv24 => ?_
  refine ⟨.ref a3, rfl, 21, rfl, ?_⟩
  dsimp only [tNoPart]
  refine sl_tail (cv23.up s24) lenW fun b25 H25 s25 cv25 => ?_
  refine cat_cv (cv24.up s25) cv25 (by decide) (by decide) (by decide) fun d26 H26 s26 cv26 => ?_
  refine ⟨_, _, rfl, cv26.dq, .inl ⟨cS, tS, rfl, gS.1, gS.2, fun H27 s27 => ?_⟩⟩
  refine ⟨_, false, rfl, rfl, ?_⟩
  rw [treeS]
  exact q _
end Cv

/-! what the laps read: lists of data, drawn caves -/
namespace Cv
open PySem PySem.Spec PyProof.Rows L2 CvT CvS CvW CvD CvR CvG LamX
theorem sm_sub {e f : Nat} {c c' : List (Int × Int)} (g : Good c) (h : ∀ p ∈ c', p ∈ c) (hl : c'.length ≤ 30) : sm (e + 2) f (caveD c') := by
  have it : ∀ d ∈ c'.map wayD, sm (e + 1) 0 d := fun d hd => by
    obtain ⟨p, hp, rfl⟩ := List.mem_map.mp hd
    exact sm_way (way_ok g (h p hp)).1 (way_ok g (h p hp)).2
  refine ⟨fun ds z => ?_, lvl_tup (by rw [List.length_map]; exact hl) fun d hd => (it d hd).2.1, flv_of0 (show PyData.hasDictAll (c'.map wayD) = false from hasD_all fun d hd => (it d hd).2.2.1) (show noLAll (c'.map wayD) = true from noL_all fun d hd => (it d hd).2.2.2)⟩
  cases z
  rw [List.length_map]
  exact hl
/-- what repr asks -/
def Rp (d : PyData) : Prop := d.showable = true ∧ (d.hasDict = false ∨ noL d = true) ∧ d.depth ≤ 30 ∧ d.shown.length ≤ sizeLine
theorem rp_sm {e f : Nat} {d : PyData} (g : sm e f d) (he : e ≤ 3) : Rp d :=
  ⟨g.2.1.2.2.1, (match f, g.2.2 with | 0, z => .inl z.1 | 1, z => .inl z | _ + 2, z => z), Nat.le_trans g.2.1.1 (by omega), sm_len g he⟩
theorem rp_bl {b : Bool} : Rp (.bool b) := rp_sm (e := 0) (f := 0) sm_bl (by decide)
theorem rp_lst {e : Nat} {ds : List PyData} (all : ∀ d ∈ ds, sm e 0 d) (hl : ds.length * (cap e + 1) ≤ 300000) (he : e ≤ 20) : Rp (.list ds) := by
  obtain ⟨b1, b2, b3, b4⟩ := lvl_all fun d hd => (all d hd).2.1
  refine ⟨b3, .inl (show PyData.hasDictAll ds = false from hasD_all fun d hd => (all d hd).2.2.1), (show PyData.depthAll ds + 1 ≤ 30 by omega), ?_⟩
  have z := PyData.shown_le_bulk 8 (Nat.le_refl _) (.list ds) b2
  have b : PyData.bulk (.list ds) = PyData.bulkAll ds := rfl
  rw [sizeLine_eq]
  omega
theorem rp_rooms (c : List (Int × Int)) : Rp (.list ((roomsM c).map PyData.int)) := by
  have l100 : (roomsM c).length ≤ 100 := by
    have z := List.length_filter_le (inC c) allRooms
    have y : allRooms.length = 100 := by decide
    unfold roomsM
    omega
  refine rp_lst (e := 0) (fun d hd => ?_) (by rw [List.length_map]; show (roomsM c).length * 11 ≤ 300000; omega) (by decide)
  obtain ⟨n, hn, rfl⟩ := List.mem_map.mp hd
  have m : n ∈ allRooms := (List.mem_filter.mp hn).1
  obtain ⟨k, hk, rfl⟩ := List.mem_map.mp m
  have := List.mem_range.mp hk
  exact sm_int (int99 (by omega) (by omega))
theorem rp_parts {c : List (Int × Int)} {T : Int → Int} (g : Good c) (l11 : c.length ≤ 11) : Rp (.list ((partsM T c).map caveD)) := by
  have lp : (partsM T c).length ≤ 11 := by
    have z := keysM_len T c []
    unfold partsM
    rw [List.length_map]
    rw [List.length_nil] at z
    omega
  refine rp_lst (e := 2) (fun d hd => ?_) (by rw [List.length_map]; have y : cap 2 = 9930 := by decide
                                              rw [y]; omega) (by decide)
  obtain ⟨c', hc, rfl⟩ := List.mem_map.mp hd
  obtain ⟨k, _, rfl⟩ := List.mem_map.mp hc
  refine sm_sub (e := 0) g (fun p hp => (List.mem_filter.mp hp).1) ?_
  have := List.length_filter_le (fun p : Int × Int => decide (T p.1 = k)) c
  omega
end Cv

/-! the law: what it asks of an object that is no cave -/
namespace Cv
open PySem PySem.Spec PyProof.Rows L2 CvT CvS CvW CvD CvR CvG LamX
abbrev lawX (P : Program) (w : World) (K : PySem.W.Frag) (mg : Str → Option Value) (base : Heap) (f c : Addr) (m : Shared) (G : Hp) (E : XK) : Cx := (cxOf CX0 P w K mg base nLaw "law" (defScope sLaw) f (.ref c) callerA [] m G E).nox
def stF : Stmt → List Stmt
  | .For _ _ b _ _ => b
  | .If _ b _ _ => b
  | _ => []
abbrev noS : Stmt := .Pass ⟨0, 0, 0, 0⟩
abbrev lapB : List Stmt := stF ((defBody sLaw).getD 1 noS)
abbrev twoB : List Stmt := stF (lapB.getD 2 noS)
abbrev benB : List Stmt := stF (lapB.getD 5 noS)
abbrev badB : List Stmt := stF (benB.getD 3 noS)
section
variable {P : Program} {w : World} {K : PySem.W.Frag} {mg : Str → Option Value} {base : Heap} {CI CE f c T : Addr} {m : Shared} {G : Hp} {E : XK}
theorem ext_lst {H H' : Hp} {a : Addr} {xs : List V} (e : ExtN H H') (h : H a = some (.lst xs)) : H' a = some (.lst xs) := e _ _ h fun _ z => by cases z
theorem Dq.ext {H H' : Hp} {x : V} {d : PyData} (e : ExtN H H') (h : Dq K H x d) : Dq K H' x d := Dq.up nt_le _ (Dq.up (nt_ext e) _ (Dq.nt' h))
theorem tabs_lst {TT : List (Addr × Str)} {H : Hp} {a : Addr} {xs ys : List V} (t : Tabs TT H) (h : H a = some (.lst xs)) : Tabs TT (upd H a (.lst ys)) := fun x hx => by
  obtain ⟨ps, h1, h2, h3⟩ := t x hx
  refine ⟨ps, by rw [upd_ne (fun z => by rw [z, h] at h1; cases h1)]; exact h1, h2, fun pos cv hc => ?_⟩
  obtain ⟨c, e1, e2⟩ := h3 pos cv hc
  exact ⟨c, e1, by rw [upd_ne (fun z => by rw [z, h] at e2; unfold CodeO at e2; cases e2)]; exact e2⟩
theorem tabs_same {TT : List (Addr × Str)} {H H' : Hp} (t : Tabs TT H) (s : Same H H') : Tabs TT H' := t.ext s
theorem bad_ok (Z : Env01 P w K mg base CI CE) (TB : TabB base mg c T) (hr : Room 12 (callerA.deeper (envOfC "law" (defScope sLaw) m.heap.objs.size f (.ref c)))) :
    ∃ t, PSs (lawX P w K mg base f c m G E) badB t ∧
      ∀ (D : Ends) (H : Hp) (v0 v1 v2 v3 v4 v5 v6 v7 v8 v9 v11 v12 v13 v14 v16 v17 : Option V) (y : V) (d : PyData), Dq K H y d → sm 3 2 d → isCaveD d = false → Tabs [(T, (lawX P w K mg base f c m G E).env.qual ++ "<lambda>")] H →
        (∀ H' v12', ExtN H H' → Tabs [(T, (lawX P w K mg base f c m G E).env.qual ++ "<lambda>")] H' → D.nx [v0, v1, v2, v3, v4, v5, v6, v7, v8, v9, some (.str d.shown), v11, v12', v13, v14, some y, v16, v17] H') →
        t D [v0, v1, v2, v3, v4, v5, v6, v7, v8, v9, some (.str d.shown), v11, v12, v13, v14, some y, v16, v17] H := by
  have hr9 : Room 9 _ := hr.mono (by decide)
  have hr8 : Room 8 _ := hr.mono (by decide)
  have hr10 : Room 10 _ := hr.mono (by decide)
  obtain ⟨fW, dW, FW, bW, gW⟩ := Z.word
  obtain ⟨fR, dR, GR, bR, gR, kR⟩ := Z.pRooms.ex
  obtain ⟨fP, dP, GP, bP, gP, kP⟩ := Z.pParts.ex
  refine ⟨_, pss_cons (ps_set (i := 12) scLaw.nd rfl (.inl rfl) (pe_lst (pa_cons (pe_word GR gR kR bR FW bW gW (by rfl) Z.hmE Z.hmI Z.T.isi Z.exC Z.exm TB rfl hr8 (lamS_by (by rfl)) (by rfl) rfl (by rfl)) (pa_cons pe_str pa_nil))))
    (pss_cons (ps_asg (pe_word GP gP kP bP FW bW gW (by rfl) Z.hmE Z.hmI Z.T.isi Z.exC Z.exm TB rfl hr10 (lamS_by (by rfl)) (by rfl) rfl (by rfl)) (pg_sub (pv 12) pe_int set_list))
    (pss_one (ps_if (PW.pt (pw_or (pt_cmpR (op_neD hr.units) (pv 12) (pe_op op_rep (pe_lst (pa_cons pe_str pa_nil)) pe_int) (nomark _))
      (pw_or (pt_cmpR op_isnot_bl (Z.pTree.pe hr9 (by rfl) (pa_cons (pv 15) pa_nil)) pe_bl (nomark _))
      (pw_or1 (pt_cmpR op_ne (pe_callB (call_repD rfl hr.units) (by rfl) Z.rep boot_repr (pa_cons (pv 15) pa_nil)) (pv 10) (nomark _)))))) (pss_one (ps_ret pe_bl)) pss_nil))), ?_⟩
  intro D H v0 v1 v2 v3 v4 v5 v6 v7 v8 v9 v11 v12 v13 v14 v16 v17 y d dq g no TH q
  refine seqI (asgI ?_)
  refine word_rooms (X := lawX P w K mg base f c m G E) TH rfl dq (fun H' Q' E' dq' hE => ⟨y, d, rfl, dq', fun c' e' g' => (by rw [e', g'.isCave] at no; cases no), fun _ H'' s => hE H'' s⟩) (fun H1 e1 T1 => ?_)
  refine ⟨(by show 2 ≤ sizeLine; decide), fun wd nwd => ?_⟩
  have s2 := same_upd (o := .lst [.str "cave", .str ""]) nwd
  have hwd : upd H1 wd (.lst [.str "cave", .str ""]) wd = some (.lst [.str "cave", .str ""]) := upd_same
  have T2 := tabs_same T1 s2
  have ne : ∀ b o, H1 b = some o → b ≠ wd := fun b o e => ne_of_none e nwd
  dsimp only
  generalize upd H1 wd (HO.lst [V.str "cave", V.str ""]) = H2 at s2 hwd T2
  refine seqI ?_
  refine word_rooms (X := lawX P w K mg base f c m G E) T2 rfl (Dq.up s2 _ (dq.ext e1)) (fun H' Q' E' dq' hE => ⟨y, d, rfl, dq', fun c' e' g' => (by rw [e', g'.isCave] at no; cases no), fun _ H'' s => hE H'' s⟩) (fun H3 e3 T3 => ?_)
  have hwd3 := ext_lst e3 hwd
  refine ⟨.ref wd, rfl, wd, _, 1, 1, rfl, rfl, hwd3, rfl, ?_⟩
  have T4 := tabs_lst (ys := [.str "cave", .str "cave"]) T3 hwd3
  have e4 : ExtN H (upd H3 wd (.lst [.str "cave", .str "cave"])) := fun b o h n => by
    have z := e1 b o h n
    rw [upd_ne (ne b o z)]
    exact e3 b o (s2 b o z) n
  have hwd4 : upd H3 wd (.lst [.str "cave", .str "cave"]) wd = some (.lst [.str "cave", .str "cave"]) := upd_same
  rw [show ([V.str "cave", V.str ""] : List V).set 1 (.str "cave") = [.str "cave", .str "cave"] from rfl]
  dsimp only
  generalize upd H3 wd (HO.lst [V.str "cave", V.str "cave"]) = H4 at T4 e4 hwd4
  refine ⟨.ref wd, rfl, (by show 1 ≤ sizeLine; decide), fun l1 n1 => ?_⟩
  refine ⟨l1, 2, _, rfl, rfl, upd_same, by decide, by decide, (by show 1 * 2 ≤ sizeLine; decide), fun l2 n2 => ?_⟩
  have s5 := (same_upd (o := .lst [.str "cave"]) n1).trans (same_upd (o := .lst (List.replicate (2 : Int).toNat [V.str "cave"]).flatten) n2)
  refine ⟨.list [.str "cave", .str "cave"], .list [.str "cave", .str "cave"], .lst (SqL.of (s5 _ _ hwd4)) (.cons (.str _) (.cons (.str _) .nil)), .lst (SqL.of upd_same) (.cons (.str _) (.cons (.str _) .nil)), by decide +kernel, by decide +kernel, _, rfl, iteF (by decide +kernel) ?_⟩
  have dq5 := Dq.up s5 _ (dq.ext e4)
  have T5 := tabs_same T4 s5
  have e5 : ExtN H _ := e4.trans (ExtN.of s5)
  refine ⟨y, rfl, y, d, rfl, dq5, .inr ⟨no, fun H6 s6 => ?_⟩⟩
  refine ⟨_, false, rfl, rfl, _, rfl, iteF rfl ?_⟩
  obtain ⟨p1, p2, p3, p4⟩ := rp_sm g (by decide)
  refine ⟨y, rfl, y, d, rfl, Dq.up s6 _ dq5, p1, p2, p3, p4, ?_⟩
  refine ⟨.str d.shown, rfl, rfl, _, rfl, iteF (by simp) ?_⟩
  exact q H6 _ (e5.trans (ExtN.of s6)) (tabs_same T5 s6)
end
end Cv

/-! the law: an object near a cave -/
namespace Cv
open PySem PySem.Spec PyProof.Rows L2 CvT CvS CvW CvD CvR CvG LamX
section
variable {P : Program} {w : World} {K : PySem.W.Frag} {mg : Str → Option Value} {base : Heap} {CI CE f c T : Addr} {m : Shared} {G : Hp} {E : XK}
theorem ben_ok (Z : Env01 P w K mg base CI CE) (TB : TabB base mg c T) (hr : Room 12 (callerA.deeper (envOfC "law" (defScope sLaw) m.heap.objs.size f (.ref c)))) :
    ∃ t, PSs (lawX P w K mg base f c m G E) benB t ∧
      ∀ (D : Ends) (H : Hp) (v0 v2 v4 v5 v6 v7 v8 v9 v10 v11 v12 v13 v14 v15 v16 v17 : Option V) (p l a : Addr) (N : Nat) (ts : List Addr) (cc : List (Int × Int)), PenAt H p l N → N < 890000 → CvAt K (cl p H) a ts cc → Good cc → cc.length ≤ 11 → Tabs [(T, (lawX P w K mg base f c m G E).env.qual ++ "<lambda>")] H →
        (∀ H' w10 w11 w12 w15, PenAt H' p l (N + 10) → CvAt K (cl p H') a ts cc → Tabs [(T, (lawX P w K mg base f c m G E).env.qual ++ "<lambda>")] H' → D.nx [v0, some (.ref p), v2, some (.ref a), v4, v5, v6, v7, v8, v9, w10, w11, w12, v13, v14, w15, v16, v17] H') →
        t D [v0, some (.ref p), v2, some (.ref a), v4, v5, v6, v7, v8, v9, v10, v11, v12, v13, v14, v15, v16, v17] H := by
  have hr3 : Room 3 _ := hr.mono (by decide)
  have hr1 : Room 1 _ := hr.mono (by decide)
  have hr4 : Room 4 _ := hr.mono (by decide)
  obtain ⟨tb, hb, rb⟩ := bad_ok (G := G) (E := E) Z TB hr
  refine ⟨_, pss_cons (ps_set (i := 15) scLaw.nd rfl (.inr rfl) (Z.bent.pe hr3 (by rfl) (pa_cons (pv 1) (pa_cons (pv 3) pa_nil))))
    (pss_cons (ps_par (i := 10) (j := 11) rfl scLaw.nd rfl rfl (by decide) rfl rfl (pa_cons (pe_callB (call_repD rfl hr.units) (by rfl) Z.rep boot_repr (pa_cons (pv 15) pa_nil)) (pa_cons (Z.isc.pe hr1 (by rfl) (pa_cons (pv 15) pa_nil)) pa_nil)) (by rfl))
    (pss_cons (ps_if (PW.pt (pw_or (pt_cmpR op_ne (pe_callB (call_repD rfl hr.units) (by rfl) Z.rep boot_repr (pa_cons (Z.pIs.pe hr4 (by rfl) (pa_cons (pv 15) pa_nil)) pa_nil)) (pe_callB (call_repD rfl hr.units) (by rfl) Z.rep boot_repr (pa_cons (pv 11) pa_nil)) (nomark _))
      (pw_or1 (pt_cmpR op_ne (pe_callB (call_repD rfl hr.units) (by rfl) Z.rep boot_repr (pa_cons (pv 15) pa_nil)) (pv 10) (nomark _))))) (pss_one (ps_ret pe_bl)) pss_nil)
    (pss_one (ps_if (pt_not (pt_val (pv 11))) hb pss_nil)))), ?_⟩
  intro D H v0 v2 v4 v5 v6 v7 v8 v9 v10 v11 v12 v13 v14 v15 v16 v17 p l a N ts cc PA hN cv g l11 TH q
  refine seqI (asgI ?_)
  refine ⟨.ref p, rfl, .ref a, rfl, p, l, a, N, ts, cc, rfl, PA, by omega, cv.up cl_le, g, l11, fun H1 y b1 ok1 PA1 => ?_⟩
  obtain ⟨d, dq, sg⟩ := ok1
  have cv1 := cv.up (cl_but b1)
  have T1 := tabs_but TH PA b1
  obtain ⟨p1, p2, p3, p4⟩ := rp_sm sg (by decide)
  obtain ⟨r1, r2, r3, r4⟩ := rp_bl (b := isCaveD d)
  dsimp only
  refine seqI ?_
  refine ⟨y, rfl, y, d, rfl, dq, p1, p2, p3, p4, ⟨y, rfl, y, d, rfl, dq, (fun ds e => by have z := sg.1 ds e; omega), fun H2 s2 => ⟨_, _, rfl, ?_⟩⟩⟩
  dsimp only
  have dq2 := Dq.up s2 _ dq
  refine seqI ?_
  refine ⟨y, rfl, y, d, rfl, dq2, fun H3 s3 => ?_⟩
  have dq3 := Dq.up s3 _ dq2
  refine ⟨.bl (isCaveD d), .bool (isCaveD d), rfl, .bl _, r1, r2, r3, r4, ?_⟩
  refine ⟨.bl (isCaveD d), rfl, .bl (isCaveD d), .bool (isCaveD d), rfl, .bl _, r1, r2, r3, r4, ?_⟩
  refine ⟨rfl, _, rfl, iteF (by simp) ?_⟩
  refine ⟨y, rfl, y, d, rfl, dq3, p1, p2, p3, p4, ?_⟩
  refine ⟨.str d.shown, rfl, rfl, _, rfl, iteF (by simp) ?_⟩
  dsimp only [tNext]
  have PA3 := (PA1.keep s2).keep s3
  have cv3 := (cv1.up (cl_same s2)).up (cl_same s3)
  have T3 := tabs_same (tabs_same T1 s2) s3
  refine ⟨_, rfl, _, rfl, ite2 (fun e => ?_) (fun e => ?_)⟩
  · refine rb D H3 _ _ _ _ _ _ _ _ _ _ _ _ _ _ _ _ y d dq3 sg (by simpa using e) T3 fun H4 w12 e4 T4 => ?_
    exact q H4 _ _ _ _ (PA3.ext e4) (cv3.up (cl_ext e4)) T4
  · exact q H3 _ _ _ _ PA3 cv3 T3
end
end Cv

/-! the law: rooms and parts of a cave, asked twice -/
namespace Cv
open PySem PySem.Spec PyProof.Rows L2 CvT CvS CvW CvD CvR CvG LamX
section
variable {P : Program} {w : World} {K : PySem.W.Frag} {mg : Str → Option Value} {base : Heap} {CI CE f c T : Addr} {m : Shared} {G : Hp} {E : XK}
theorem two_ok (Z : Env01 P w K mg base CI CE) (hr : Room 12 (callerA.deeper (envOfC "law" (defScope sLaw) m.heap.objs.size f (.ref c)))) :
    ∃ t, PSs (lawX P w K mg base f c m G E) twoB t ∧
      ∀ (D : Ends) (H : Hp) (v0 v1 v2 v4 v6 v7 v8 v9 v10 v11 v12 v13 v14 v15 v16 v17 : Option V) (a due : Addr) (ts : List Addr) (cc : List (Int × Int)) (U : Int → Int) (xs : List V), CvAt K H a ts cc → Good cc → cc.length ≤ 11 → IsTag cc U → H due = some (.lst xs) → DqAll K H xs ((partsM U cc).map caveD) →
        (∀ H' w7 w8, Same H H' → D.nx [v0, v1, v2, some (.ref a), v4, some (.ref due), v6, w7, w8, v9, v10, v11, v12, v13, v14, v15, v16, v17] H') →
        t D [v0, v1, v2, some (.ref a), v4, some (.ref due), v6, v7, v8, v9, v10, v11, v12, v13, v14, v15, v16, v17] H := by
  have hr1 : Room 1 _ := hr.mono (by decide)
  have hr6 : Room 6 _ := hr.mono (by decide)
  have hr8 : Room 8 _ := hr.mono (by decide)
  refine ⟨_, pss_cons (ps_par (i := 7) (j := 8) rfl scLaw.nd rfl rfl (by decide) rfl rfl (pa_cons (Z.pRooms.peX hr6 (by rfl) (pa_cons (pv 3) pa_nil)) (pa_cons (Z.pParts.peX hr8 (by rfl) (pa_cons (pv 3) pa_nil)) pa_nil)) (by rfl))
    (pss_cons (ps_if (PW.pt (pw_or (pt_cmpR op_ne (pe_callB (call_repD rfl hr.units) (by rfl) Z.rep boot_repr (pa_cons (pv 7) pa_nil)) (pe_callB (call_repD rfl hr.units) (by rfl) Z.rep boot_repr (pa_cons (Z.rooms.pe hr1 (by rfl) (pa_cons (pv 3) pa_nil)) pa_nil)) (nomark _))
      (pw_or1 (pt_cmpR op_ne (pe_callB (call_repD rfl hr.units) (by rfl) Z.rep boot_repr (pa_cons (pv 8) pa_nil)) (pe_callB (call_repD rfl hr.units) (by rfl) Z.rep boot_repr (pa_cons (pv 5) pa_nil)) (nomark _))))) (pss_one (ps_ret pe_bl)) pss_nil)
    (pss_cons (ps_expr (pe_bm PySem.F.plainAttrs_list PySem.F.slot_list_append PySem.F.type_list_append mt_append (pv 7) (pa_cons pe_non pa_nil)))
    (pss_one (ps_expr (pe_bm PySem.F.plainAttrs_list PySem.F.slot_list_append PySem.F.type_list_append mt_append (pv 8) (pa_cons pe_non pa_nil)))))), ?_⟩
  intro D H v0 v1 v2 v4 v6 v7 v8 v9 v10 v11 v12 v13 v14 v15 v16 v17 a due ts cc U xs cv g l11 tg hdue dq q
  obtain ⟨p1, p2, p3, p4⟩ := rp_rooms cc
  obtain ⟨r1, r2, r3, r4⟩ := rp_parts (T := U) g l11
  refine seqI ?_
  refine ⟨.ref a, rfl, ?_⟩
  refine ⟨_, _, rfl, cv.dq, fun c' e' g' H1 a1 s1 n1 h1 => ?_, fun z => by rw [g.isCave] at z; cases z⟩
  obtain rfl := caveD_inj e'
  refine ⟨.ref a, rfl, ?_⟩
  refine ⟨_, _, rfl, (cv.up s1).dq, fun c' e' g' H2 a2 xs2 U2 s2 n2 h2 tU dq2 => ?_, fun z => by rw [g.isCave] at z; cases z⟩
  obtain rfl := caveD_inj e'
  rw [tU.parts g.rg tg] at dq2
  refine ⟨_, _, rfl, ?_⟩
  dsimp only
  have s12 := s1.trans s2
  have cv2 := cv.up s12
  have h1' := s2 _ _ h1
  refine seqI ?_
  refine ⟨.ref a1, rfl, .ref a1, _, rfl, .lst (SqL.of h1') (dq_ints _), p1, p2, p3, p4, ?_⟩
  refine ⟨.ref a, rfl, a, ts, _, rfl, cv2, g, by omega, fun H3 a3 s3 n3 h3 => ?_⟩
  refine ⟨.ref a3, _, rfl, .lst (SqL.of h3) (dq_ints _), p1, p2, p3, p4, ?_⟩
  refine ⟨rfl, _, rfl, iteF (by simp) ?_⟩
  have h2' := s3 _ _ h2
  have hd := (s12.trans s3) _ _ hdue
  refine ⟨.ref a2, rfl, .ref a2, _, rfl, .lst (SqL.of h2') (DqAll.up s3 _ dq2), r1, r2, r3, r4, ?_⟩
  refine ⟨.ref due, rfl, .ref due, _, rfl, .lst (SqL.of hd) (DqAll.up (s12.trans s3) _ dq), r1, r2, r3, r4, ?_⟩
  refine ⟨rfl, _, rfl, iteF (by simp) ?_⟩
  dsimp only [tNext]
  have h1'' := s3 _ _ h1'
  have n12 : a1 ≠ a2 := ne_of_none h1 n2
  refine seqI ?_
  refine ⟨.ref a1, rfl, .inl ⟨rfl, _, SqL.of h1''⟩, a1, _, .non, rfl, rfl, h1'', ?_, ?_⟩
  · have l100 : (roomsM cc).length ≤ 100 := by
      have z := List.length_filter_le (inC cc) allRooms
      have y : allRooms.length = 100 := by decide
      unfold roomsM
      omega
    rw [List.length_map, sizeLine_eq]
    omega
  have h2'' : ∀ ys, upd H3 a1 (.lst ys) a2 = some (.lst xs2) := fun ys => by
    rw [upd_ne n12.symm]
    exact h2'
  refine ⟨.ref a2, rfl, .inl ⟨rfl, _, SqL.of (h2'' _)⟩, a2, _, .non, rfl, rfl, h2'' _, ?_, ?_⟩
  · have z := dq2.len
    have z2 := keysM_len U cc []
    rw [List.length_map] at z
    unfold partsM at z
    rw [List.length_map] at z
    rw [List.length_nil] at z2
    rw [sizeLine_eq]
    omega
  refine q _ _ _ fun b o e => ?_
  have z3 := (s12.trans s3) _ _ e
  rw [upd_ne (ne_of_none (s1 _ _ e) n2), upd_ne (ne_of_none e n1)]
  exact z3
end
end Cv

/-! the law: a lap -/
namespace Cv
open PySem PySem.Spec PyProof.Rows L2 CvT CvS CvW CvD CvR CvG LamX
theorem pick_cave {K : PySem.W.Frag} {k : Bool} {ta tb : TE} {σ : L2.St} {H H1 : Hp} {Q : VK} {p l : Addr} {N : Nat} (key : ∀ (H4 : Hp) (a : Addr) (ts : List Addr) (cc : List (Int × Int)), But p H H4 → CvAt K H4 a ts cc → Good cc → cc.length ≤ 11 → PenAt H4 p l N → Q (.ref a) H4)
    (ha : (∀ (H4 : Hp) (a : Addr) (ts : List Addr) (cc : List (Int × Int)), But p H H4 → CvAt K H4 a ts cc → Good cc → cc.length ≤ 11 → PenAt H4 p l N → Q (.ref a) H4) → ta σ H1 Q)
    (hb : (∀ (H4 : Hp) (a : Addr) (ts : List Addr) (cc : List (Int × Int)), But p H H4 → CvAt K H4 a ts cc → Good cc → cc.length ≤ 11 → PenAt H4 p l N → Q (.ref a) H4) → tb σ H1 Q) : if k = true then ta σ H1 Q else tb σ H1 Q := ite2 (fun _ => ha key) (fun _ => hb key)
theorem and_one {b z : Bool} {tb : TE} {σ : L2.St} {H : Hp} {Q : VK} (key : ∀ H', Same H H' → Q (.bl z) H') (h1 : b = true → (∀ H', Same H H' → Q (.bl z) H') → tb σ H Q) (h2 : b = false → z = false) : ∃ c, V.bl b = .bl c ∧ if c = true then tb σ H Q else Q (.bl false) H :=
  ⟨b, rfl, ite2 (fun e => h1 e key) (fun e => by
    have z := key H (Same.refl H)
    rw [h2 (by simpa using e)] at z
    exact z)⟩
section
variable {P : Program} {w : World} {K : PySem.W.Frag} {mg : Str → Option Value} {base : Heap} {CI CE f c T : Addr} {m : Shared} {G : Hp} {E : XK}
theorem lap_ok (Z : Env01 P w K mg base CI CE) (TB : TabB base mg c T) (hr : Room 12 (callerA.deeper (envOfC "law" (defScope sLaw) m.heap.objs.size f (.ref c)))) :
    ∃ t, PSs (lawX P w K mg base f c m G E) lapB t ∧
      ∀ (D : Ends) (H : Hp) (v0 v2 v3 v4 v5 v6 v7 v8 v9 v10 v11 v12 v13 v14 v15 v16 v17 : Option V) (p l : Addr) (N : Nat), PenAt H p l N → N < 800000 → Tabs [(T, (lawX P w K mg base f c m G E).env.qual ++ "<lambda>")] H →
        (∀ H' w3 w4 w5 w6 w7 w8 w9 w10 w11 w12 w15, PenAt H' p l (N + 8000) → Tabs [(T, (lawX P w K mg base f c m G E).env.qual ++ "<lambda>")] H' → D.nx [v0, some (.ref p), v2, w3, w4, w5, w6, w7, w8, w9, w10, w11, w12, v13, v14, w15, v16, v17] H') →
        t D [v0, some (.ref p), v2, v3, v4, v5, v6, v7, v8, v9, v10, v11, v12, v13, v14, v15, v16, v17] H := by
  have hr1 : Room 1 _ := hr.mono (by decide)
  have hr2 : Room 2 _ := hr.mono (by decide)
  have hr3 : Room 3 _ := hr.mono (by decide)
  have hr4 : Room 4 _ := hr.mono (by decide)
  have hr9 : Room 9 _ := hr.mono (by decide)
  obtain ⟨t2, h2, rtwo⟩ := two_ok (G := G) (E := E) Z hr
  obtain ⟨t12, h12, rben⟩ := ben_ok (G := G) (E := E) Z TB hr
  refine ⟨_, pss_cons (ps_set (i := 3) scLaw.nd rfl (.inl rfl) (pe_ifExp (pt_cmpR op_eq (Z.draw.pe hr2 (by rfl) (pa_cons (pv 1) (pa_cons pe_int pa_nil))) pe_int (nomark _)) (Z.cave.pe hr4 (by rfl) (pa_cons (pv 1) (pa_cons pe_int pa_nil))) (Z.tree.pe hr3 (by rfl) (pa_cons (pv 1) (pa_cons pe_int pa_nil)))))
    (pss_cons (ps_par (i := 4) (j := 5) rfl scLaw.nd rfl rfl (by decide) rfl rfl (pa_cons (pe_callB (call_repD rfl hr.units) (by rfl) Z.rep boot_repr (pa_cons (pv 3) pa_nil)) (pa_cons (Z.parts.pe hr2 (by rfl) (pa_cons (pv 3) pa_nil)) pa_nil)) (by rfl))
    (pss_cons (ps_for PassesOwn.never rfl (pi_range1 (by rfl) Z.T.rng (pa_cons pe_int pa_nil)) (pg_name (i := 6) scLaw.nd rfl (.inl rfl)) h2)
    (pss_cons (ps_set (i := 9) scLaw.nd rfl (.inl rfl) (pe_and (pe_cmpR op_eq (pe_callB call_len_seq (by rfl) Z.T.len PySem.boot_len (pa_cons (pv 5) pa_nil)) pe_int (nomark _)) (pe_one (pe_cmpR op_eq (pe_callB call_len_seq (by rfl) Z.T.len PySem.boot_len (pa_cons (Z.rooms.pe hr1 (by rfl) (pa_cons (pv 3) pa_nil)) pa_nil)) (pe_op op_add (pe_callB call_len_seq (by rfl) Z.T.len PySem.boot_len (pa_cons (pv 3) pa_nil)) pe_int) (nomark _)))))
    (pss_cons (ps_if (PW.pt (pw_or (pt_cmpR op_isnot_bl (Z.pIs.pe hr4 (by rfl) (pa_cons (pv 3) pa_nil)) pe_bl (nomark _)) (pw_or1 (pt_cmpR op_ne (pe_callB (call_repD rfl hr.units) (by rfl) Z.rep boot_repr (pa_cons (Z.pTree.pe hr9 (by rfl) (pa_cons (pv 3) pa_nil)) pa_nil)) (pe_callB (call_repD rfl hr.units) (by rfl) Z.rep boot_repr (pa_cons (pv 9) pa_nil)) (nomark _))))) (pss_one (ps_ret pe_bl)) pss_nil)
    (pss_cons (ps_for PassesOwn.never rfl (pi_range1 (by rfl) Z.T.rng (pa_cons pe_int pa_nil)) (pg_name (i := 6) scLaw.nd rfl (.inl rfl)) h12)
    (pss_one (ps_if (pt_cmpR op_ne (pe_callB (call_repD rfl hr.units) (by rfl) Z.rep boot_repr (pa_cons (pv 3) pa_nil)) (pv 4) (nomark _)) (pss_one (ps_ret pe_bl)) pss_nil))))))), ?_⟩
  intro D H v0 v2 v3 v4 v5 v6 v7 v8 v9 v10 v11 v12 v13 v14 v15 v16 v17 p l N PA hN TH q
  refine seqI (asgI ?_)
  refine ⟨.ref p, rfl, p, l, N, 2, rfl, PA, by omega, by decide, by decide, fun H1 d d0 d1 PA1 b1 => ⟨rfl, _, rfl, ?_⟩⟩
  dsimp only
  refine pick_cave (K := K) (H := H) (p := p) (l := l) (N := N + 7001) ?_ (fun key => ?_) (fun key => ?_)
  rotate_left
  · exact ⟨.ref p, rfl, p, l, N + 1, 9, rfl, PA1, by omega, by decide, by decide, fun H' a ts cc b cv g l11 PA' => key H' a ts cc (b1.trans b) cv g l11 (PA'.more (by omega))⟩
  · exact ⟨.ref p, rfl, p, l, N + 1, 11, rfl, PA1, by omega, by decide, by decide, fun H' a ts cc b cv g l11 PA' => key H' a ts cc (b1.trans b) cv g l11 (PA'.more (by omega))⟩
  intro H2 a ts cc b2 cv g l11 PA2
  have T2 := tabs_but TH PA b2
  obtain ⟨p1, p2, p3, p4⟩ := rp_sm (sm_cave (e := 1) (f := 0) g (by omega)) (by decide)
  refine seqI ?_
  refine ⟨.ref a, rfl, .ref a, caveD cc, rfl, cv.dq, p1, p2, p3, p4, ⟨.ref a, rfl, a, ts, cc, rfl, cv, g, by omega, fun H3 due xs U s3 n3 h3 tg dq => ⟨_, _, rfl, ?_⟩⟩⟩
  dsimp only
  refine seqI ?_
  refine ⟨2, rfl, by decide, by decide, for_range (lo := 0) (n := (2 : Int).toNat) (fun i σ H' => ∃ w6 w7 w8, σ = [v0, some (.ref p), v2, some (.ref a), some (.str (caveD cc).shown), some (.ref due), w6, w7, w8, v9, v10, v11, v12, v13, v14, v15, v16, v17] ∧ Same H3 H') ⟨_, _, _, rfl, Same.refl H3⟩ ?_ ?_⟩
  · rintro i σ H4 hi ⟨w6, w7, w8, rfl, s4⟩
    dsimp only [gName]
    exact rtwo _ H4 _ _ _ _ _ _ _ _ _ _ _ _ _ _ _ _ a due ts cc U xs (cv.up (s3.trans s4)) g l11 tg (s4 _ _ h3) (DqAll.up s4 _ dq) fun H5 w7' w8' s5 => ⟨_, _, _, rfl, s4.trans s5⟩
  rintro σ H4 ⟨w6, w7, w8, rfl, s4⟩
  dsimp only
  refine seqI (asgI ?_)
  have cv4 := cv.up (s3.trans s4)
  have hd4 := s4 _ _ h3
  have lx : xs.length = (partsM U cc).length := by rw [dq.len, List.length_map]
  refine ⟨.ref due, rfl, due, _, rfl, .inl (SqL.of hd4), rfl, ?_⟩
  refine and_one (z := treeM U cc) (fun H5 s5 => ?_) (fun e key => ?_) (fun e => ?_)
  rotate_left
  · refine ⟨.ref a, rfl, a, ts, cc, rfl, cv4, g, by omega, fun H5 a5 s5 n5 h5 => ?_⟩
    refine ⟨a5, _, rfl, .inl (SqL.of h5), .ref a, rfl, a, _, rfl, .inr (cv4.up s5).sq, _, _, rfl, rfl, rfl, ?_⟩
    have z := key H5 s5
    have e1 : xs.length = 1 := by
      have y := V.int.inj (of_decide_eq_true e)
      omega
    have e5 : treeM U cc = decide (V.int ((((roomsM cc).map V.int).length : Nat) : Int) = V.int ((((ts.map V.ref).length : Nat) : Int) + 1)) := by
      unfold treeM
      rw [← lx, decide_eq_true e1, Bool.and_true, List.length_map, List.length_map, cv4.len]
      exact decide_eq_decide.mpr ⟨fun y => by rw [y]; rfl, fun y => by have := V.int.inj y; omega⟩
    rw [e5] at z
    exact z
  · unfold treeM
    rw [← lx, decide_eq_false (fun z : xs.length = 1 => of_decide_eq_false e (by rw [z]; rfl)), Bool.and_false]
  dsimp only
  have cv5 := cv4.up s5
  obtain ⟨r1, r2, r3, r4⟩ := rp_bl (b := treeM U cc)
  refine seqI ?_
  refine ⟨.ref a, rfl, .ref a, caveD cc, rfl, cv5.dq, fun H6 s6 => ⟨_, true, rfl, rfl, _, rfl, iteF (by rw [g.isCave]; rfl) ?_⟩⟩
  refine ⟨.ref a, rfl, .ref a, caveD cc, rfl, (cv5.up s6).dq, .inl ⟨cc, U, rfl, g, tg, fun H7 s7 => ?_⟩⟩
  refine ⟨.bl _, .bool _, rfl, .bl _, r1, r2, r3, r4, ?_⟩
  refine ⟨.bl _, rfl, .bl _, .bool _, rfl, .bl _, r1, r2, r3, r4, ?_⟩
  refine ⟨rfl, _, rfl, iteF (by simp) ?_⟩
  dsimp only [tNext]
  have s27 := ((s3.trans s4).trans (s5.trans s6)).trans s7
  have PA7 := PA2.keep s27
  have cv7 := cv.up s27
  have T7 := tabs_same T2 s27
  refine seqI ?_
  refine ⟨12, rfl, by decide, by decide, for_range (lo := 0) (n := (12 : Int).toNat) (fun i σ H' => ∃ w6 w10 w11 w12 w15, σ = [v0, some (.ref p), v2, some (.ref a), some (.str (caveD cc).shown), some (.ref due), w6, w7, w8, some (.bl (treeM U cc)), w10, w11, w12, v13, v14, w15, v16, v17] ∧ PenAt H' p l (N + 7001 + 10 * i) ∧ CvAt K (cl p H') a ts cc ∧ Tabs [(T, (lawX P w K mg base f c m G E).env.qual ++ "<lambda>")] H') ⟨_, _, _, _, _, rfl, PA7, CvAt.cl' PA7 cv7, T7⟩ ?_ ?_⟩
  · rintro i σ H8 hi ⟨w6, w10, w11, w12, w15, rfl, PA8, cv8, T8⟩
    have hi : i < 12 := hi
    dsimp only [gName]
    exact rben _ H8 _ _ _ _ _ _ _ _ _ _ _ _ _ _ _ _ p l a (N + 7001 + 10 * i) ts cc PA8 (by omega) cv8 g l11 T8 fun H9 w10 w11 w12 w15 PA9 cv9 T9 => ⟨_, _, _, _, _, rfl, PA9.more (by omega), cv9, T9⟩
  rintro σ H8 ⟨w6, w10, w11, w12, w15, rfl, PA8, cv8, T8⟩
  dsimp only
  refine ⟨.ref a, rfl, .ref a, caveD cc, rfl, (cv8.up cl_le).dq, p1, p2, p3, p4, ?_⟩
  refine ⟨.str (caveD cc).shown, rfl, rfl, _, rfl, iteF (by simp) ?_⟩
  exact q H8 _ _ _ _ _ _ _ _ _ _ _ (PA8.more (by show N + 7001 + 10 * 12 ≤ N + 8000; omega)) T8
end
end Cv

/-! the law -/
namespace Cv
open PySem PySem.Spec PyProof.Rows L2 CvT CvS CvW CvD CvR CvG LamX
def spLaw (K : PySem.W.Frag) (T : Addr) : Sp := fun vs H Q _ => ∃ (a : Addr) (ns : List Int), vs = [.ref a] ∧ SqL K H a (ns.map V.int) ∧ H T = some (.tbl #[]) ∧ ∀ H', Q (.bl true) H'
theorem law_run {P : Program} {w : World} {K : PySem.W.Frag} {mg : Str → Option Value} {base : Heap} {CI CE f c T : Addr} {fd : FuncData} (Z : Env01 P w K mg base CI CE) (F : Fun K "law" "law" sLaw f fd) (ht : PySem.W.tabIn K "law" = some (c, T))
    (hn : PySem.W.nsIn K mainGlobals "law" = some (some (.ref f))) (TB : TabB base mg c T) (hb : ∀ (m : Shared) (u : Value), BindsTo m fd ⟨[u], []⟩ [("script", u)]) : LawRun P w K mg base f (spLaw K T) := by
  refine law_ofT (k := 12) F scLaw ht hn ⟨rfl, by decide, by decide⟩ hb (fun m G vs Q E hr h => ?_)
  obtain ⟨a, ns, rfl, hS, hT, q⟩ := h
  obtain ⟨tt, htl, rt⟩ := tail_ok (G := G) (E := E) Z hr
  obtain ⟨tl, hl, rl⟩ := lap_ok (G := G) (E := E) Z TB hr
  have hr1 : Room 1 _ := hr.mono (by decide)
  refine ⟨_, pss_cons (ps_set (i := 1) scLaw.nd rfl (.inl rfl) (Z.pen.pe hr1 (by rfl) (pa_cons (pv 0) pa_nil))) (pss_cons (ps_for PassesOwn.never rfl (pi_range1 (by rfl) Z.T.rng (pa_cons pe_int pa_nil)) (pg_name (i := 2) scLaw.nd rfl (.inl rfl)) hl) htl), ?_⟩
  refine seqI (asgI ?_)
  refine ⟨.ref a, rfl, a, ns, rfl, hS, fun H1 p l s1 np nl PA => ?_⟩
  dsimp only
  refine seqI ?_
  refine ⟨4, rfl, by decide, by decide, for_range (lo := 0) (n := (4 : Int).toNat) (fun i σ H' => ∃ v2 v3 v4 v5 v6 v7 v8 v9 v10 v11 v12 v13 v14 v15 v16 v17, σ = [some (.ref a), some (.ref p), v2, v3, v4, v5, v6, v7, v8, v9, v10, v11, v12, v13, v14, v15, v16, v17] ∧ PenAt H' p l (8000 * i) ∧ Tabs [(T, (lawX P w K mg base f c m G E).env.qual ++ "<lambda>")] H')
    ⟨_, _, _, _, _, _, _, _, _, _, _, _, _, _, _, _, rfl, PA, fun x hx => by rw [List.mem_singleton.mp hx]; exact TabS.nil (s1 _ _ hT)⟩ ?_ ?_⟩
  · rintro i σ H2 hi ⟨v2, v3, v4, v5, v6, v7, v8, v9, v10, v11, v12, v13, v14, v15, v16, v17, rfl, PA2, T2⟩
    have hi : i < 4 := hi
    dsimp only [gName]
    exact rl _ H2 _ _ _ _ _ _ _ _ _ _ _ _ _ _ _ _ _ p l (8000 * i) PA2 (by omega) T2 fun H3 w3 w4 w5 w6 w7 w8 w9 w10 w11 w12 w15 PA3 T3 => ⟨_, _, _, _, _, _, _, _, _, _, _, _, _, _, _, _, rfl, PA3.more (by omega), T3⟩
  rintro σ H2 ⟨v2, v3, v4, v5, v6, v7, v8, v9, v10, v11, v12, v13, v14, v15, v16, v17, rfl, PA2, T2⟩
  dsimp only
  exact rt _ H2 _ _ _ _ _ _ _ _ _ _ _ _ _ _ _ _ _ _ q
end Cv

/-! what the law rests on, from the defs -/
namespace Cv
open PySem PySem.Spec PyProof.Rows L2 CvT CvS CvW CvD CvR CvG LamX
structure Df (K : PySem.W.Frag) (mg : Str → Option Value) (x : Str) (st : Stmt) (ps : List Str) (f : Addr) (d : FuncData) : Prop where
  F : Fun K x x st f d
  b : Binds K d ps []
  g : mg x = some (.ref f)
theorem env_mk {P : Program} {w : World} {K : PySem.W.Frag} {mg : Str → Option Value} {base : Heap} {CI CE : Addr} {r1 r2 r3 r4 r5 r6 r7 r8 r9 r10 r11 l0 l1 l2 l3 l4 l5 l6 l7 l8 l9 l10 l11 : Addr} {d1 d2 d3 d4 d5 d6 d7 d8 d9 d10 d11 e0 e1 e2 e3 e4 e5 e6 e7 e8 e9 e10 e11 : FuncData}
    (R1 : Df K mg "is_room" sRoom ["thing"] r1 d1) (R2 : Df K mg "is_way" sWay ["thing"] r2 d2) (R3 : Df K mg "are_ascending_ways" sAsc ["thing"] r3 d3) (R4 : Df K mg "is_cave" sIsC ["thing"] r4 d4)
    (R5 : Df K mg "check_cave" sChk ["cave"] r5 d5) (R6 : Df K mg "far_end" sFar ["way", "room"] r6 d6) (R7 : Df K mg "rooms_of" sRooms ["cave"] r7 d7) (R8 : Df K mg "ways_by_room" sWbr ["cave"] r8 d8)
    (R9 : Df K mg "rooms_along" sAlong ["ways_at", "start"] r9 d9) (R10 : Df K mg "parts_of" sParts ["cave"] r10 d10) (R11 : Df K mg "is_tree" sTree ["thing"] r11 d11)
    (M0 : Df K mg "_law_pen" sPen ["script"] l0 e0) (M1 : Df K mg "_law_next" sNext ["pen"] l1 e1) (M2 : Df K mg "_law_draw" sDraw ["pen", "under"] l2 e2) (M3 : Df K mg "_law_some" sSome ["pen", "pool", "most"] l3 e3)
    (M4 : Df K mg "_law_tree" sTr ["pen", "most"] l4 e4) (M5 : Df K mg "_law_cave" sCa ["pen", "most"] l5 e5) (M6 : Df K mg "_law_rooms" sLR ["ways"] l6 e6) (M7 : Df K mg "_law_odd_caves" sOd ["cave"] l7 e7)
    (M8 : Df K mg "_law_word" sWord ["act"] l8 e8) (M9 : Df K mg "_law_is_cave" sLI ["thing"] l9 e9) (M10 : Df K mg "_law_parts" sLP ["cave"] l10 e10) (M11 : Df K mg "_law_bent" sBe ["pen", "cave"] l11 e11)
    (TC : TxtC mg) (TI : TxtI mg) (rep : mg "repr" = none) (O : OwnX K mg "InvalidCave" CI) (hmE : mg "CaveError" = some (.ref CE)) (exC : ExcC K CI) (exm : PySem.W.exmOne K (.ref CI) (.ref CE) = some true) : Env01 P w K mg base CI CE := by
  have D : DefsC K mg r1 r2 r3 r4 d1 d2 d3 d4 := ⟨TC, R1.F, R1.b, R1.g, R2.F, R2.b, R2.g, R3.F, R3.b, R3.g, R4.F, R4.b, R4.g⟩
  have TP : TxtP mg := ⟨TI.len, TI.int, TI.list⟩
  have GI : FnOk P w K mg base CX0 4 r4 d4 ["thing"] (spD K isCaveD) := ok_isC (k := 0) D
  have GCk : FnOk P w K mg base (L2.CX P w) 5 r5 d5 ["cave"] (spCk K CI) := ok_chk (k := 0) R5.F D O
  have GRo : FnOk P w K mg base (L2.CX P w) 6 r7 d7 ["cave"] (spRooms K CI) := ok_rooms (k := 0) R7.F D R5.F R5.b R5.g O TI.srt
  have GW : FnOk P w K mg base CX0 7 r8 d8 ["cave"] (spWbr K) := ok_wbr (k := 0) R8.F GRo R7.b R7.g R7.F.kp
  have GA : FnOk P w K mg base CX0 2 r9 d9 ["ways_at", "start"] (spAlong K) := ok_along (k := 0) R9.F R6.F R6.b R6.g TI.list
  have GPa : FnOk P w K mg base (L2.CX P w) 8 r10 d10 ["cave"] (spParts K CI) := ok_parts (k := 0) R10.F GCk R5.b R5.g R5.F.kp GW R8.b R8.g R8.F.kp GA R9.b R9.g R9.F.kp TI.tup
  have GTr : FnOk P w K mg base CX0 9 r11 d11 ["thing"] (spTree K) := ok_tree (k := 0) R11.F GI R4.b R4.g R4.F.kp GRo R7.b R7.g R7.F.kp GPa R10.b R10.g R10.F.kp TI.len
  have GD : FnOk P w K mg base CX0 2 l2 e2 ["pen", "under"] spDraw := ok_draw (k := 0) M2.F TP M1.F M1.b M1.g
  have GT : FnOk P w K mg base CX0 3 l4 e4 ["pen", "most"] (spTr K) := ok_tr (k := 0) M4.F TI GD M2.b M2.g M2.F.kp
  have GS : FnOk P w K mg base CX0 3 l3 e3 ["pen", "pool", "most"] (spSome K) := ok_some (k := 0) M3.F TI GD M2.b M2.g M2.F.kp
  exact {
    pen := ⟨_, _, ok_pen (k := 0) M0.F TP, M0.b, M0.g, M0.F.kp⟩
    draw := ⟨_, _, GD, M2.b, M2.g, M2.F.kp⟩
    cave := ⟨_, _, ok_ca (k := 0) M5.F TI GD M2.b M2.g M2.F.kp GT M4.b M4.g M4.F.kp GS M3.b M3.g M3.F.kp, M5.b, M5.g, M5.F.kp⟩
    tree := ⟨_, _, GT, M4.b, M4.g, M4.F.kp⟩
    parts := ⟨_, _, ok_lp (k := 0) M10.F TI.toTxtL M6.F M6.b M6.g, M10.b, M10.g, M10.F.kp⟩
    rooms := ⟨_, _, ok_lr (k := 0) M6.F TI.srt TI.set, M6.b, M6.g, M6.F.kp⟩
    bent := ⟨_, _, ok_be (k := 0) M11.F TI GD M2.b M2.g M2.F.kp M7.F M7.b M7.g, M11.b, M11.g, M11.F.kp⟩
    isc := ⟨_, _, ok_li (k := 0) M9.F TI, M9.b, M9.g, M9.F.kp⟩
    pRooms := ⟨_, _, GRo, R7.b, R7.g, R7.F.kp⟩
    pParts := ⟨_, _, GPa, R10.b, R10.g, R10.F.kp⟩
    pIs := ⟨_, _, GI, R4.b, R4.g, R4.F.kp⟩
    pTree := ⟨_, _, GTr, R11.b, R11.g, R11.F.kp⟩
    word := ⟨_, _, M8.F, M8.b, M8.g⟩
    T := TI
    rep := rep
    hmE := hmE
    hmI := O.g
    exC := exC
    exm := exm }
end Cv

namespace Cv
open PySem PySem.Spec PyProof.Rows L2 CvT CvS CvW CvD CvR CvG LamX

theorem all_mk {l : PySem.W.OpenLaw} {w : World} {K : PySem.W.Frag} {h : Heap} {mg : Str → Option Value} {fa : Addr} (X : K.In h) (G : h.Ns mainGlobals mg) (hfa : mg "law" = some (.ref fa))
    {odR1 anR1 : Option Addr} {slR1 : Array (Option Value)} {ocR1 kVR1 dcR1 pmR1 cdR1 ctR1 : Value} {fR1 : Addr} {odR2 anR2 : Option Addr} {slR2 : Array (Option Value)} {ocR2 kVR2 dcR2 pmR2 cdR2 ctR2 : Value} {fR2 : Addr} {odR3 anR3 : Option Addr} {slR3 : Array (Option Value)} {ocR3 kVR3 dcR3 pmR3 cdR3 ctR3 : Value} {fR3 : Addr} {odR4 anR4 : Option Addr} {slR4 : Array (Option Value)} {ocR4 kVR4 dcR4 pmR4 cdR4 ctR4 : Value} {fR4 : Addr} {odR5 anR5 : Option Addr} {slR5 : Array (Option Value)} {ocR5 kVR5 dcR5 pmR5 cdR5 ctR5 : Value} {fR5 : Addr} {odR6 anR6 : Option Addr} {slR6 : Array (Option Value)} {ocR6 kVR6 dcR6 pmR6 cdR6 ctR6 : Value} {fR6 : Addr} {odR7 anR7 : Option Addr} {slR7 : Array (Option Value)} {ocR7 kVR7 dcR7 pmR7 cdR7 ctR7 : Value} {fR7 : Addr} {odR8 anR8 : Option Addr} {slR8 : Array (Option Value)} {ocR8 kVR8 dcR8 pmR8 cdR8 ctR8 : Value} {fR8 : Addr} {odR9 anR9 : Option Addr} {slR9 : Array (Option Value)} {ocR9 kVR9 dcR9 pmR9 cdR9 ctR9 : Value} {fR9 : Addr} {odR10 anR10 : Option Addr} {slR10 : Array (Option Value)} {ocR10 kVR10 dcR10 pmR10 cdR10 ctR10 : Value} {fR10 : Addr} {odR11 anR11 : Option Addr} {slR11 : Array (Option Value)} {ocR11 kVR11 dcR11 pmR11 cdR11 ctR11 : Value} {fR11 : Addr} {odM0 anM0 : Option Addr} {slM0 : Array (Option Value)} {ocM0 kVM0 dcM0 pmM0 cdM0 ctM0 : Value} {fM0 : Addr} {odM1 anM1 : Option Addr} {slM1 : Array (Option Value)} {ocM1 kVM1 dcM1 pmM1 cdM1 ctM1 : Value} {fM1 : Addr} {odM2 anM2 : Option Addr} {slM2 : Array (Option Value)} {ocM2 kVM2 dcM2 pmM2 cdM2 ctM2 : Value} {fM2 : Addr} {odM3 anM3 : Option Addr} {slM3 : Array (Option Value)} {ocM3 kVM3 dcM3 pmM3 cdM3 ctM3 : Value} {fM3 : Addr} {odM4 anM4 : Option Addr} {slM4 : Array (Option Value)} {ocM4 kVM4 dcM4 pmM4 cdM4 ctM4 : Value} {fM4 : Addr} {odM5 anM5 : Option Addr} {slM5 : Array (Option Value)} {ocM5 kVM5 dcM5 pmM5 cdM5 ctM5 : Value} {fM5 : Addr} {odM6 anM6 : Option Addr} {slM6 : Array (Option Value)} {ocM6 kVM6 dcM6 pmM6 cdM6 ctM6 : Value} {fM6 : Addr} {odM7 anM7 : Option Addr} {slM7 : Array (Option Value)} {ocM7 kVM7 dcM7 pmM7 cdM7 ctM7 : Value} {fM7 : Addr} {odM8 anM8 : Option Addr} {slM8 : Array (Option Value)} {ocM8 kVM8 dcM8 pmM8 cdM8 ctM8 : Value} {fM8 : Addr} {odM9 anM9 : Option Addr} {slM9 : Array (Option Value)} {ocM9 kVM9 dcM9 pmM9 cdM9 ctM9 : Value} {fM9 : Addr} {odM10 anM10 : Option Addr} {slM10 : Array (Option Value)} {ocM10 kVM10 dcM10 pmM10 cdM10 ctM10 : Value} {fM10 : Addr} {odM11 anM11 : Option Addr} {slM11 : Array (Option Value)} {ocM11 kVM11 dcM11 pmM11 cdM11 ctM11 : Value} {fM11 : Addr} {odL anL : Option Addr} {slL : Array (Option Value)} {ocL kVL dcL pmL ctL : Value} {fL : Addr} {CI CE cT tT : Addr} {y1 : Value} {y2 : Option Addr} {y3 : Array (Option Value)} {vsC : Array Value}
    (aR1 : PySem.W.nsIn K mainGlobals "is_room" = some (some (.ref fR1)))
    (lR1 : K.lookup fR1 = some ⟨ocR1, odR1, .func (PySem.W.fnOf "is_room" "is_room" (defArgs sRoom) (defBody sRoom) (defScope sRoom) .none kVR1 dcR1 pmR1 anR1 cdR1 ctR1), slR1⟩)
    (eR1 : PySem.W.codeIn K cdR1 "is_room" = true)
    (kR1 : PySem.W.keepIn K (.ref fR1) = true)
    (aR2 : PySem.W.nsIn K mainGlobals "is_way" = some (some (.ref fR2)))
    (lR2 : K.lookup fR2 = some ⟨ocR2, odR2, .func (PySem.W.fnOf "is_way" "is_way" (defArgs sWay) (defBody sWay) (defScope sWay) .none kVR2 dcR2 pmR2 anR2 cdR2 ctR2), slR2⟩)
    (eR2 : PySem.W.codeIn K cdR2 "is_way" = true)
    (kR2 : PySem.W.keepIn K (.ref fR2) = true)
    (aR3 : PySem.W.nsIn K mainGlobals "are_ascending_ways" = some (some (.ref fR3)))
    (lR3 : K.lookup fR3 = some ⟨ocR3, odR3, .func (PySem.W.fnOf "are_ascending_ways" "are_ascending_ways" (defArgs sAsc) (defBody sAsc) (defScope sAsc) .none kVR3 dcR3 pmR3 anR3 cdR3 ctR3), slR3⟩)
    (eR3 : PySem.W.codeIn K cdR3 "are_ascending_ways" = true)
    (kR3 : PySem.W.keepIn K (.ref fR3) = true)
    (aR4 : PySem.W.nsIn K mainGlobals "is_cave" = some (some (.ref fR4)))
    (lR4 : K.lookup fR4 = some ⟨ocR4, odR4, .func (PySem.W.fnOf "is_cave" "is_cave" (defArgs sIsC) (defBody sIsC) (defScope sIsC) .none kVR4 dcR4 pmR4 anR4 cdR4 ctR4), slR4⟩)
    (eR4 : PySem.W.codeIn K cdR4 "is_cave" = true)
    (kR4 : PySem.W.keepIn K (.ref fR4) = true)
    (aR5 : PySem.W.nsIn K mainGlobals "check_cave" = some (some (.ref fR5)))
    (lR5 : K.lookup fR5 = some ⟨ocR5, odR5, .func (PySem.W.fnOf "check_cave" "check_cave" (defArgs sChk) (defBody sChk) (defScope sChk) .none kVR5 dcR5 pmR5 anR5 cdR5 ctR5), slR5⟩)
    (eR5 : PySem.W.codeIn K cdR5 "check_cave" = true)
    (kR5 : PySem.W.keepIn K (.ref fR5) = true)
    (aR6 : PySem.W.nsIn K mainGlobals "far_end" = some (some (.ref fR6)))
    (lR6 : K.lookup fR6 = some ⟨ocR6, odR6, .func (PySem.W.fnOf "far_end" "far_end" (defArgs sFar) (defBody sFar) (defScope sFar) .none kVR6 dcR6 pmR6 anR6 cdR6 ctR6), slR6⟩)
    (eR6 : PySem.W.codeIn K cdR6 "far_end" = true)
    (kR6 : PySem.W.keepIn K (.ref fR6) = true)
    (aR7 : PySem.W.nsIn K mainGlobals "rooms_of" = some (some (.ref fR7)))
    (lR7 : K.lookup fR7 = some ⟨ocR7, odR7, .func (PySem.W.fnOf "rooms_of" "rooms_of" (defArgs sRooms) (defBody sRooms) (defScope sRooms) .none kVR7 dcR7 pmR7 anR7 cdR7 ctR7), slR7⟩)
    (eR7 : PySem.W.codeIn K cdR7 "rooms_of" = true)
    (kR7 : PySem.W.keepIn K (.ref fR7) = true)
    (aR8 : PySem.W.nsIn K mainGlobals "ways_by_room" = some (some (.ref fR8)))
    (lR8 : K.lookup fR8 = some ⟨ocR8, odR8, .func (PySem.W.fnOf "ways_by_room" "ways_by_room" (defArgs sWbr) (defBody sWbr) (defScope sWbr) .none kVR8 dcR8 pmR8 anR8 cdR8 ctR8), slR8⟩)
    (eR8 : PySem.W.codeIn K cdR8 "ways_by_room" = true)
    (kR8 : PySem.W.keepIn K (.ref fR8) = true)
    (aR9 : PySem.W.nsIn K mainGlobals "rooms_along" = some (some (.ref fR9)))
    (lR9 : K.lookup fR9 = some ⟨ocR9, odR9, .func (PySem.W.fnOf "rooms_along" "rooms_along" (defArgs sAlong) (defBody sAlong) (defScope sAlong) .none kVR9 dcR9 pmR9 anR9 cdR9 ctR9), slR9⟩)
    (eR9 : PySem.W.codeIn K cdR9 "rooms_along" = true)
    (kR9 : PySem.W.keepIn K (.ref fR9) = true)
    (aR10 : PySem.W.nsIn K mainGlobals "parts_of" = some (some (.ref fR10)))
    (lR10 : K.lookup fR10 = some ⟨ocR10, odR10, .func (PySem.W.fnOf "parts_of" "parts_of" (defArgs sParts) (defBody sParts) (defScope sParts) .none kVR10 dcR10 pmR10 anR10 cdR10 ctR10), slR10⟩)
    (eR10 : PySem.W.codeIn K cdR10 "parts_of" = true)
    (kR10 : PySem.W.keepIn K (.ref fR10) = true)
    (aR11 : PySem.W.nsIn K mainGlobals "is_tree" = some (some (.ref fR11)))
    (lR11 : K.lookup fR11 = some ⟨ocR11, odR11, .func (PySem.W.fnOf "is_tree" "is_tree" (defArgs sTree) (defBody sTree) (defScope sTree) .none kVR11 dcR11 pmR11 anR11 cdR11 ctR11), slR11⟩)
    (eR11 : PySem.W.codeIn K cdR11 "is_tree" = true)
    (kR11 : PySem.W.keepIn K (.ref fR11) = true)
    (aM0 : PySem.W.nsIn K mainGlobals "_law_pen" = some (some (.ref fM0)))
    (lM0 : K.lookup fM0 = some ⟨ocM0, odM0, .func (PySem.W.fnOf "_law_pen" "_law_pen" (defArgs sPen) (defBody sPen) (defScope sPen) .none kVM0 dcM0 pmM0 anM0 cdM0 ctM0), slM0⟩)
    (eM0 : PySem.W.codeIn K cdM0 "_law_pen" = true)
    (kM0 : PySem.W.keepIn K (.ref fM0) = true)
    (aM1 : PySem.W.nsIn K mainGlobals "_law_next" = some (some (.ref fM1)))
    (lM1 : K.lookup fM1 = some ⟨ocM1, odM1, .func (PySem.W.fnOf "_law_next" "_law_next" (defArgs sNext) (defBody sNext) (defScope sNext) .none kVM1 dcM1 pmM1 anM1 cdM1 ctM1), slM1⟩)
    (eM1 : PySem.W.codeIn K cdM1 "_law_next" = true)
    (kM1 : PySem.W.keepIn K (.ref fM1) = true)
    (aM2 : PySem.W.nsIn K mainGlobals "_law_draw" = some (some (.ref fM2)))
    (lM2 : K.lookup fM2 = some ⟨ocM2, odM2, .func (PySem.W.fnOf "_law_draw" "_law_draw" (defArgs sDraw) (defBody sDraw) (defScope sDraw) .none kVM2 dcM2 pmM2 anM2 cdM2 ctM2), slM2⟩)
    (eM2 : PySem.W.codeIn K cdM2 "_law_draw" = true)
    (kM2 : PySem.W.keepIn K (.ref fM2) = true)
    (aM3 : PySem.W.nsIn K mainGlobals "_law_some" = some (some (.ref fM3)))
    (lM3 : K.lookup fM3 = some ⟨ocM3, odM3, .func (PySem.W.fnOf "_law_some" "_law_some" (defArgs sSome) (defBody sSome) (defScope sSome) .none kVM3 dcM3 pmM3 anM3 cdM3 ctM3), slM3⟩)
    (eM3 : PySem.W.codeIn K cdM3 "_law_some" = true)
    (kM3 : PySem.W.keepIn K (.ref fM3) = true)
    (aM4 : PySem.W.nsIn K mainGlobals "_law_tree" = some (some (.ref fM4)))
    (lM4 : K.lookup fM4 = some ⟨ocM4, odM4, .func (PySem.W.fnOf "_law_tree" "_law_tree" (defArgs sTr) (defBody sTr) (defScope sTr) .none kVM4 dcM4 pmM4 anM4 cdM4 ctM4), slM4⟩)
    (eM4 : PySem.W.codeIn K cdM4 "_law_tree" = true)
    (kM4 : PySem.W.keepIn K (.ref fM4) = true)
    (aM5 : PySem.W.nsIn K mainGlobals "_law_cave" = some (some (.ref fM5)))
    (lM5 : K.lookup fM5 = some ⟨ocM5, odM5, .func (PySem.W.fnOf "_law_cave" "_law_cave" (defArgs sCa) (defBody sCa) (defScope sCa) .none kVM5 dcM5 pmM5 anM5 cdM5 ctM5), slM5⟩)
    (eM5 : PySem.W.codeIn K cdM5 "_law_cave" = true)
    (kM5 : PySem.W.keepIn K (.ref fM5) = true)
    (aM6 : PySem.W.nsIn K mainGlobals "_law_rooms" = some (some (.ref fM6)))
    (lM6 : K.lookup fM6 = some ⟨ocM6, odM6, .func (PySem.W.fnOf "_law_rooms" "_law_rooms" (defArgs sLR) (defBody sLR) (defScope sLR) .none kVM6 dcM6 pmM6 anM6 cdM6 ctM6), slM6⟩)
    (eM6 : PySem.W.codeIn K cdM6 "_law_rooms" = true)
    (kM6 : PySem.W.keepIn K (.ref fM6) = true)
    (aM7 : PySem.W.nsIn K mainGlobals "_law_odd_caves" = some (some (.ref fM7)))
    (lM7 : K.lookup fM7 = some ⟨ocM7, odM7, .func (PySem.W.fnOf "_law_odd_caves" "_law_odd_caves" (defArgs sOd) (defBody sOd) (defScope sOd) .none kVM7 dcM7 pmM7 anM7 cdM7 ctM7), slM7⟩)
    (eM7 : PySem.W.codeIn K cdM7 "_law_odd_caves" = true)
    (kM7 : PySem.W.keepIn K (.ref fM7) = true)
    (aM8 : PySem.W.nsIn K mainGlobals "_law_word" = some (some (.ref fM8)))
    (lM8 : K.lookup fM8 = some ⟨ocM8, odM8, .func (PySem.W.fnOf "_law_word" "_law_word" (defArgs sWord) (defBody sWord) (defScope sWord) .none kVM8 dcM8 pmM8 anM8 cdM8 ctM8), slM8⟩)
    (eM8 : PySem.W.codeIn K cdM8 "_law_word" = true)
    (kM8 : PySem.W.keepIn K (.ref fM8) = true)
    (aM9 : PySem.W.nsIn K mainGlobals "_law_is_cave" = some (some (.ref fM9)))
    (lM9 : K.lookup fM9 = some ⟨ocM9, odM9, .func (PySem.W.fnOf "_law_is_cave" "_law_is_cave" (defArgs sLI) (defBody sLI) (defScope sLI) .none kVM9 dcM9 pmM9 anM9 cdM9 ctM9), slM9⟩)
    (eM9 : PySem.W.codeIn K cdM9 "_law_is_cave" = true)
    (kM9 : PySem.W.keepIn K (.ref fM9) = true)
    (aM10 : PySem.W.nsIn K mainGlobals "_law_parts" = some (some (.ref fM10)))
    (lM10 : K.lookup fM10 = some ⟨ocM10, odM10, .func (PySem.W.fnOf "_law_parts" "_law_parts" (defArgs sLP) (defBody sLP) (defScope sLP) .none kVM10 dcM10 pmM10 anM10 cdM10 ctM10), slM10⟩)
    (eM10 : PySem.W.codeIn K cdM10 "_law_parts" = true)
    (kM10 : PySem.W.keepIn K (.ref fM10) = true)
    (aM11 : PySem.W.nsIn K mainGlobals "_law_bent" = some (some (.ref fM11)))
    (lM11 : K.lookup fM11 = some ⟨ocM11, odM11, .func (PySem.W.fnOf "_law_bent" "_law_bent" (defArgs sBe) (defBody sBe) (defScope sBe) .none kVM11 dcM11 pmM11 anM11 cdM11 ctM11), slM11⟩)
    (eM11 : PySem.W.codeIn K cdM11 "_law_bent" = true)
    (kM11 : PySem.W.keepIn K (.ref fM11) = true)
    (aL : PySem.W.nsIn K mainGlobals "law" = some (some (.ref fL)))
    (lL : K.lookup fL = some ⟨ocL, odL, .func (PySem.W.fnOf "law" "law" (defArgs sLaw) (defBody sLaw) (defScope sLaw) .none kVL dcL pmL anL (.ref cT) ctL), slL⟩)
    (eL : PySem.W.codeIn K (.ref cT) "law" = true)
    (kL : PySem.W.keepIn K (.ref fL) = true)
    (tc : K.lookup cT = some ⟨y1, y2, .fields vsC, y3⟩)
    (tv : (vsC[11]? : Option Value) = some (.ref tT))
    (tn : K.lookup tT = none)
    (xn : PySem.W.nsIn K mainGlobals "InvalidCave" = some (some (.ref CI)))
    (xe : PySem.W.nsIn K mainGlobals "CaveError" = some (some (.ref CE)))
    (xq : PySem.W.excIn K CI [.type "ValueError", .type "Exception", .type "BaseException", .type "object"] "ValueError.__new__" = true)
    (xk : PySem.W.keepIn K (.ref CI) = true)
    (xg : PySem.W.findIn K (.ref CI) "__getattribute__" = some (some (.builtin "BaseException.__getattribute__")))
    (xh : PySem.W.findIn K (.ref CI) "__getattr__" = some none)
    (xs : PySem.W.subIn K (.ref CI) (.type "BaseException") = some true)
    (xd : PySem.W.hasDictIn K CI = true)
    (xa : PySem.W.findIn K (.ref CI) "__class__" = some (some (.builtin "object.__class__")))
    (xm : PySem.W.mroIn K CI (.type "object") = some true)
    (xt : PySem.W.typeIn K (.ref CI) = some (.type "type"))
    (gn : PySem.W.specialIn K (.builtin "object.__class__") "__get__" = some (some (.builtin "getset_descriptor.__get__")))
    (gt : PySem.W.takesIn K (.builtin "object.__class__") = some true)
    (x1 : PySem.W.subIn K (.ref CE) (.type "BaseException") = some true)
    (x2 : PySem.W.isClsIn K CE = true)
    (x3 : PySem.W.typeIn K (.ref CE) = some (.type "type"))
    (x4 : PySem.W.subIn K (.ref CI) (.ref CE) = some true)
    (z_sorted : PySem.W.nsIn K mainGlobals "sorted" = some none)
    (z_set : PySem.W.nsIn K mainGlobals "set" = some none)
    (z_range : PySem.W.nsIn K mainGlobals "range" = some none)
    (z_len : PySem.W.nsIn K mainGlobals "len" = some none)
    (z_min : PySem.W.nsIn K mainGlobals "min" = some none)
    (z_max : PySem.W.nsIn K mainGlobals "max" = some none)
    (z_tuple : PySem.W.nsIn K mainGlobals "tuple" = some none)
    (z_list : PySem.W.nsIn K mainGlobals "list" = some none)
    (z_isinstance : PySem.W.nsIn K mainGlobals "isinstance" = some none)
    (z_int : PySem.W.nsIn K mainGlobals "int" = some none)
    (z_bool : PySem.W.nsIn K mainGlobals "bool" = some none)
    (z_all : PySem.W.nsIn K mainGlobals "all" = some none)
    (z_repr : PySem.W.nsIn K mainGlobals "repr" = some none)
    (z_type : PySem.W.nsIn K mainGlobals "type" = some none)
    (z_enumerate : PySem.W.nsIn K mainGlobals "enumerate" = some none)
    : ∃ c T : Addr, PySem.W.tabIn K "law" = some (c, T) ∧ K.lookup T = none ∧ ∀ base : Heap, K.In base → base.Ns mainGlobals mg → TabB base mg c T → LawRun l.prog w K mg base fa (spLaw K T) := by
  have tl : PySem.W.tabIn K "law" = some (cT, tT) := by
    unfold PySem.W.tabIn
    rw [aL]
    dsimp only
    rw [lL]
    show (match K.lookup cT with
      | some ⟨_, _, .fields vs, _⟩ => (match (vs[11]? : Option Value) with
        | some (.ref P) => some (cT, P)
        | _ => none)
      | _ => none) = some (cT, tT)
    rw [tc]
    dsimp only
    rw [tv]
  have xx : PySem.W.exmOne K (.ref CI) (.ref CE) = some true := by
    have e1 : (PySem.W.subIn K (.ref CE) (.type "BaseException") == some true) = true := by rw [x1] <;> rfl
    have e2 : ((PySem.W.clsIn K CE).isSome && PySem.W.typeIn K (.ref CE) == some (.type "type")) = true := by
      have z : (PySem.W.clsIn K CE).isSome = true := x2
      rw [z, x3] <;> rfl
    show (if (PySem.W.subIn K (.ref CE) (.type "BaseException") == some true) = true then (if ((PySem.W.clsIn K CE).isSome && PySem.W.typeIn K (.ref CE) == some (.type "type")) = true then PySem.W.subIn K (.ref CI) (.ref CE) else none) else none) = some true
    rw [if_pos e1, if_pos e2]
    exact x4
  refine ⟨cT, tT, tl, tn, fun base _ _ TB => ?_⟩
  obtain rfl : fL = fa := by
    have e := hfa.symm.trans (PySem.W.mg_of X G aL)
    cases e
    rfl
  have FR1 := fun_mk (st := sRoom) lR1 eR1 kR1
  have DR1 : Df K mg "is_room" sRoom ["thing"] fR1 _ := ⟨FR1, FR1.binds (ps := ["thing"]) fun _ _ _ _ _ _ us hl => (match us, hl with | [_], _ => rfl), PySem.W.mg_of X G aR1⟩
  have FR2 := fun_mk (st := sWay) lR2 eR2 kR2
  have DR2 : Df K mg "is_way" sWay ["thing"] fR2 _ := ⟨FR2, FR2.binds (ps := ["thing"]) fun _ _ _ _ _ _ us hl => (match us, hl with | [_], _ => rfl), PySem.W.mg_of X G aR2⟩
  have FR3 := fun_mk (st := sAsc) lR3 eR3 kR3
  have DR3 : Df K mg "are_ascending_ways" sAsc ["thing"] fR3 _ := ⟨FR3, FR3.binds (ps := ["thing"]) fun _ _ _ _ _ _ us hl => (match us, hl with | [_], _ => rfl), PySem.W.mg_of X G aR3⟩
  have FR4 := fun_mk (st := sIsC) lR4 eR4 kR4
  have DR4 : Df K mg "is_cave" sIsC ["thing"] fR4 _ := ⟨FR4, FR4.binds (ps := ["thing"]) fun _ _ _ _ _ _ us hl => (match us, hl with | [_], _ => rfl), PySem.W.mg_of X G aR4⟩
  have FR5 := fun_mk (st := sChk) lR5 eR5 kR5
  have DR5 : Df K mg "check_cave" sChk ["cave"] fR5 _ := ⟨FR5, FR5.binds (ps := ["cave"]) fun _ _ _ _ _ _ us hl => (match us, hl with | [_], _ => rfl), PySem.W.mg_of X G aR5⟩
  have FR6 := fun_mk (st := sFar) lR6 eR6 kR6
  have DR6 : Df K mg "far_end" sFar ["way", "room"] fR6 _ := ⟨FR6, FR6.binds (ps := ["way", "room"]) fun _ _ _ _ _ _ us hl => (match us, hl with | [_, _], _ => rfl), PySem.W.mg_of X G aR6⟩
  have FR7 := fun_mk (st := sRooms) lR7 eR7 kR7
  have DR7 : Df K mg "rooms_of" sRooms ["cave"] fR7 _ := ⟨FR7, FR7.binds (ps := ["cave"]) fun _ _ _ _ _ _ us hl => (match us, hl with | [_], _ => rfl), PySem.W.mg_of X G aR7⟩
  have FR8 := fun_mk (st := sWbr) lR8 eR8 kR8
  have DR8 : Df K mg "ways_by_room" sWbr ["cave"] fR8 _ := ⟨FR8, FR8.binds (ps := ["cave"]) fun _ _ _ _ _ _ us hl => (match us, hl with | [_], _ => rfl), PySem.W.mg_of X G aR8⟩
  have FR9 := fun_mk (st := sAlong) lR9 eR9 kR9
  have DR9 : Df K mg "rooms_along" sAlong ["ways_at", "start"] fR9 _ := ⟨FR9, FR9.binds (ps := ["ways_at", "start"]) fun _ _ _ _ _ _ us hl => (match us, hl with | [_, _], _ => rfl), PySem.W.mg_of X G aR9⟩
  have FR10 := fun_mk (st := sParts) lR10 eR10 kR10
  have DR10 : Df K mg "parts_of" sParts ["cave"] fR10 _ := ⟨FR10, FR10.binds (ps := ["cave"]) fun _ _ _ _ _ _ us hl => (match us, hl with | [_], _ => rfl), PySem.W.mg_of X G aR10⟩
  have FR11 := fun_mk (st := sTree) lR11 eR11 kR11
  have DR11 : Df K mg "is_tree" sTree ["thing"] fR11 _ := ⟨FR11, FR11.binds (ps := ["thing"]) fun _ _ _ _ _ _ us hl => (match us, hl with | [_], _ => rfl), PySem.W.mg_of X G aR11⟩
  have FM0 := fun_mk (st := sPen) lM0 eM0 kM0
  have DM0 : Df K mg "_law_pen" sPen ["script"] fM0 _ := ⟨FM0, FM0.binds (ps := ["script"]) fun _ _ _ _ _ _ us hl => (match us, hl with | [_], _ => rfl), PySem.W.mg_of X G aM0⟩
  have FM1 := fun_mk (st := sNext) lM1 eM1 kM1
  have DM1 : Df K mg "_law_next" sNext ["pen"] fM1 _ := ⟨FM1, FM1.binds (ps := ["pen"]) fun _ _ _ _ _ _ us hl => (match us, hl with | [_], _ => rfl), PySem.W.mg_of X G aM1⟩
  have FM2 := fun_mk (st := sDraw) lM2 eM2 kM2
  have DM2 : Df K mg "_law_draw" sDraw ["pen", "under"] fM2 _ := ⟨FM2, FM2.binds (ps := ["pen", "under"]) fun _ _ _ _ _ _ us hl => (match us, hl with | [_, _], _ => rfl), PySem.W.mg_of X G aM2⟩
  have FM3 := fun_mk (st := sSome) lM3 eM3 kM3
  have DM3 : Df K mg "_law_some" sSome ["pen", "pool", "most"] fM3 _ := ⟨FM3, FM3.binds (ps := ["pen", "pool", "most"]) fun _ _ _ _ _ _ us hl => (match us, hl with | [_, _, _], _ => rfl), PySem.W.mg_of X G aM3⟩
  have FM4 := fun_mk (st := sTr) lM4 eM4 kM4
  have DM4 : Df K mg "_law_tree" sTr ["pen", "most"] fM4 _ := ⟨FM4, FM4.binds (ps := ["pen", "most"]) fun _ _ _ _ _ _ us hl => (match us, hl with | [_, _], _ => rfl), PySem.W.mg_of X G aM4⟩
  have FM5 := fun_mk (st := sCa) lM5 eM5 kM5
  have DM5 : Df K mg "_law_cave" sCa ["pen", "most"] fM5 _ := ⟨FM5, FM5.binds (ps := ["pen", "most"]) fun _ _ _ _ _ _ us hl => (match us, hl with | [_, _], _ => rfl), PySem.W.mg_of X G aM5⟩
  have FM6 := fun_mk (st := sLR) lM6 eM6 kM6
  have DM6 : Df K mg "_law_rooms" sLR ["ways"] fM6 _ := ⟨FM6, FM6.binds (ps := ["ways"]) fun _ _ _ _ _ _ us hl => (match us, hl with | [_], _ => rfl), PySem.W.mg_of X G aM6⟩
  have FM7 := fun_mk (st := sOd) lM7 eM7 kM7
  have DM7 : Df K mg "_law_odd_caves" sOd ["cave"] fM7 _ := ⟨FM7, FM7.binds (ps := ["cave"]) fun _ _ _ _ _ _ us hl => (match us, hl with | [_], _ => rfl), PySem.W.mg_of X G aM7⟩
  have FM8 := fun_mk (st := sWord) lM8 eM8 kM8
  have DM8 : Df K mg "_law_word" sWord ["act"] fM8 _ := ⟨FM8, FM8.binds (ps := ["act"]) fun _ _ _ _ _ _ us hl => (match us, hl with | [_], _ => rfl), PySem.W.mg_of X G aM8⟩
  have FM9 := fun_mk (st := sLI) lM9 eM9 kM9
  have DM9 : Df K mg "_law_is_cave" sLI ["thing"] fM9 _ := ⟨FM9, FM9.binds (ps := ["thing"]) fun _ _ _ _ _ _ us hl => (match us, hl with | [_], _ => rfl), PySem.W.mg_of X G aM9⟩
  have FM10 := fun_mk (st := sLP) lM10 eM10 kM10
  have DM10 : Df K mg "_law_parts" sLP ["cave"] fM10 _ := ⟨FM10, FM10.binds (ps := ["cave"]) fun _ _ _ _ _ _ us hl => (match us, hl with | [_], _ => rfl), PySem.W.mg_of X G aM10⟩
  have FM11 := fun_mk (st := sBe) lM11 eM11 kM11
  have DM11 : Df K mg "_law_bent" sBe ["pen", "cave"] fM11 _ := ⟨FM11, FM11.binds (ps := ["pen", "cave"]) fun _ _ _ _ _ _ us hl => (match us, hl with | [_, _], _ => rfl), PySem.W.mg_of X G aM11⟩
  have FL := fun_mk (st := sLaw) lL eL kL
  have TL : TxtL mg := ⟨PySem.W.mg_none_of X G z_sorted, PySem.W.mg_none_of X G z_set, PySem.W.mg_none_of X G z_range, PySem.W.mg_none_of X G z_len, PySem.W.mg_none_of X G z_min, PySem.W.mg_none_of X G z_max, PySem.W.mg_none_of X G z_tuple, PySem.W.mg_none_of X G z_list⟩
  have TI : TxtI mg := ⟨TL, PySem.W.mg_none_of X G z_isinstance, PySem.W.mg_none_of X G z_int, PySem.W.mg_none_of X G z_bool, PySem.W.mg_none_of X G z_all⟩
  have TC : TxtC mg := ⟨PySem.W.mg_none_of X G z_type, PySem.W.mg_none_of X G z_int, PySem.W.mg_none_of X G z_tuple, PySem.W.mg_none_of X G z_len, PySem.W.mg_none_of X G z_enumerate⟩
  have O : OwnX K mg "InvalidCave" CI := ⟨xq, PySem.W.mg_of X G xn, xk, xs, xt⟩
  have V : Env01 l.prog w K mg base CI CE := env_mk DR1 DR2 DR3 DR4 DR5 DR6 DR7 DR8 DR9 DR10 DR11 DM0 DM1 DM2 DM3 DM4 DM5 DM6 DM7 DM8 DM9 DM10 DM11 TC TI (PySem.W.mg_none_of X G z_repr) O (PySem.W.mg_of X G xe) ⟨xg, xh, xs, xd, xa, gn, gt, xm⟩ xx
  exact law_run V FL tl aL TB (fun m u => BindsTo.of_eq rfl)
end Cv
open PySem PySem.W PyProof.Rows in
set_option maxRecDepth 100000 in
set_option maxHeartbeats 0 in
theorem PySem.Challenge.cw_cavesweep_k01_caves_holds : PySem.Challenge.rw_cavesweep_k01_caves.Holds := by
  w_on; o_law; k_head; (case hw => w_witness2)
  k_fill
  refine CvG.law_goesT (l := PySem.Challenge.rw_cavesweep_k01_caves) (n := 63) (sp := Cv.spLaw) rfl (by decide) rfl rfl (fun w h Y => PySem.W.km_in_of Y) ?F (fun K T G a ns _ hT hS => ⟨a, ns, rfl, hS, hT, fun _ => rfl⟩)
  case F =>
    intro w mg fa h KX G hmg
    refine' Cv.all_mk KX G hmg ?aR1 ?lR1 ?eR1 ?kR1 ?aR2 ?lR2 ?eR2 ?kR2 ?aR3 ?lR3 ?eR3 ?kR3 ?aR4 ?lR4 ?eR4 ?kR4 ?aR5 ?lR5 ?eR5 ?kR5 ?aR6 ?lR6 ?eR6 ?kR6 ?aR7 ?lR7 ?eR7 ?kR7 ?aR8 ?lR8 ?eR8 ?kR8 ?aR9 ?lR9 ?eR9 ?kR9 ?aR10 ?lR10 ?eR10 ?kR10 ?aR11 ?lR11 ?eR11 ?kR11 ?aM0 ?lM0 ?eM0 ?kM0 ?aM1 ?lM1 ?eM1 ?kM1 ?aM2 ?lM2 ?eM2 ?kM2 ?aM3 ?lM3 ?eM3 ?kM3 ?aM4 ?lM4 ?eM4 ?kM4 ?aM5 ?lM5 ?eM5 ?kM5 ?aM6 ?lM6 ?eM6 ?kM6 ?aM7 ?lM7 ?eM7 ?kM7 ?aM8 ?lM8 ?eM8 ?kM8 ?aM9 ?lM9 ?eM9 ?kM9 ?aM10 ?lM10 ?eM10 ?kM10 ?aM11 ?lM11 ?eM11 ?kM11 ?aL ?lL ?eL ?kL ?tc ?tv ?tn ?xn ?xe ?xq ?xk ?xg ?xh ?xs ?xd ?xa ?xm ?xt ?gn ?gt ?x1 ?x2 ?x3 ?x4 ?z_sorted ?z_set ?z_range ?z_len ?z_min ?z_max ?z_tuple ?z_list ?z_isinstance ?z_int ?z_bool ?z_all ?z_repr ?z_type ?z_enumerate
    (case aR1 => k_is)
    (case lR1 => k_is)
    (case eR1 => k_is)
    (case kR1 => k_is)
    (case aR2 => k_is)
    (case lR2 => k_is)
    (case eR2 => k_is)
    (case kR2 => k_is)
    (case aR3 => k_is)
    (case lR3 => k_is)
    (case eR3 => k_is)
    (case kR3 => k_is)
    (case aR4 => k_is)
    (case lR4 => k_is)
    (case eR4 => k_is)
    (case kR4 => k_is)
    (case aR5 => k_is)
    (case lR5 => k_is)
    (case eR5 => k_is)
    (case kR5 => k_is)
    (case aR6 => k_is)
    (case lR6 => k_is)
    (case eR6 => k_is)
    (case kR6 => k_is)
    (case aR7 => k_is)
    (case lR7 => k_is)
    (case eR7 => k_is)
    (case kR7 => k_is)
    (case aR8 => k_is)
    (case lR8 => k_is)
    (case eR8 => k_is)
    (case kR8 => k_is)
    (case aR9 => k_is)
    (case lR9 => k_is)
    (case eR9 => k_is)
    (case kR9 => k_is)
    (case aR10 => k_is)
    (case lR10 => k_is)
    (case eR10 => k_is)
    (case kR10 => k_is)
    (case aR11 => k_is)
    (case lR11 => k_is)
    (case eR11 => k_is)
    (case kR11 => k_is)
    (case aM0 => k_is)
    (case lM0 => k_is)
    (case eM0 => k_is)
    (case kM0 => k_is)
    (case aM1 => k_is)
    (case lM1 => k_is)
    (case eM1 => k_is)
    (case kM1 => k_is)
    (case aM2 => k_is)
    (case lM2 => k_is)
    (case eM2 => k_is)
    (case kM2 => k_is)
    (case aM3 => k_is)
    (case lM3 => k_is)
    (case eM3 => k_is)
    (case kM3 => k_is)
    (case aM4 => k_is)
    (case lM4 => k_is)
    (case eM4 => k_is)
    (case kM4 => k_is)
    (case aM5 => k_is)
    (case lM5 => k_is)
    (case eM5 => k_is)
    (case kM5 => k_is)
    (case aM6 => k_is)
    (case lM6 => k_is)
    (case eM6 => k_is)
    (case kM6 => k_is)
    (case aM7 => k_is)
    (case lM7 => k_is)
    (case eM7 => k_is)
    (case kM7 => k_is)
    (case aM8 => k_is)
    (case lM8 => k_is)
    (case eM8 => k_is)
    (case kM8 => k_is)
    (case aM9 => k_is)
    (case lM9 => k_is)
    (case eM9 => k_is)
    (case kM9 => k_is)
    (case aM10 => k_is)
    (case lM10 => k_is)
    (case eM10 => k_is)
    (case kM10 => k_is)
    (case aM11 => k_is)
    (case lM11 => k_is)
    (case eM11 => k_is)
    (case kM11 => k_is)
    (case aL => k_is)
    (case lL => k_is)
    (case eL => k_is)
    (case kL => k_is)
    (case tc => k_is)
    (case tv => rfl)
    (case tn => kernel_rfl)
    (case xn => k_is)
    (case xe => k_is)
    (case xq => k_exc)
    (case xk => k_is)
    (case xg => k_is)
    (case xh => k_is)
    (case xs => k_is)
    (case xd => k_is)
    (case xa => k_is)
    (case xm => k_is)
    (case xt => k_is)
    (case gn => k_is)
    (case gt => k_is)
    (case x1 => k_is)
    (case x2 => k_is)
    (case x3 => k_is)
    (case x4 => k_is)
    (case z_sorted => k_is)
    (case z_set => k_is)
    (case z_range => k_is)
    (case z_len => k_is)
    (case z_min => k_is)
    (case z_max => k_is)
    (case z_tuple => k_is)
    (case z_list => k_is)
    (case z_isinstance => k_is)
    (case z_int => k_is)
    (case z_bool => k_is)
    (case z_all => k_is)
    (case z_repr => k_is)
    (case z_type => k_is)
    (case z_enumerate => k_is)
