import PyProof.Rows.All
import Wide.All
import OpenK.AllK
import Wide.FinOn
import HandS.ForMost
import HandS.Wide
import HandS.Walk
import HandS.Small
import HandS.Exc
import HandS.ExcInit
import HandS.ExcIs
import HandS.IsInst
import HandS.FStr
import PyProof.ReprRoads
import KE.KExcIs
import KE.KExcInit
import HandS.Lambda
import HandS.TryMany
import KE.KDflt
import HandS.Zip
import KE.GoesEnum
import HandS.Iter
import KE.DataCmp
import HandS.TupAny
import HandS.Conv
import PyProof.CallType
import HandS.Sort
import KE.KDictKeyed
import HandS.Dict
import KE.SortData
import PyProof.Rows.SortWalk
import HandS.HotCalls
import HandS.ExcValue
import HandS.TupMul
import HandS.EndTab
import KE.KNestM
import PySem.Challenge.RW_rowsthatname_k17_errors_of_the_first_par
set_option Elab.async false
set_option linter.all false
set_option maxRecDepth 100000
set_option maxHeartbeats 2000000
namespace K80
open PySem PySem.Spec PyProof.Rows L2
def topS (i : Nat) : Stmt := PySem.Challenge.pw_rowsthatname_k17_errors_of_the_first_par.main.body.getD i (.Pass ⟨0, 0, 0, 0⟩)
abbrev sMixed : Stmt := topS 81
abbrev sFolded : Stmt := topS 82
abbrev sDraw : Stmt := topS 83
abbrev sBegun : Stmt := topS 84
theorem scMixed : FnScope ["cell", "n", "blend"] ["cell", "n"] (defScope sMixed) := ⟨rfl, rfl, rfl, by decide +kernel, rfl, by decide +kernel, by decide +kernel⟩
section
variable {P : Program} {w : World} {K : PySem.W.Frag} {mg : Str → Option Value} {base : Heap}
def spMixed : Sp := fun vs H Q _ => ∃ (c n : Int), vs = [.int c, .int n] ∧ 0 ≤ n ∧ n < 1000000 ∧ ∀ r : Int, 0 ≤ r → r < 2147483647 → Q (.int r) H
theorem ok_mixed {f : Addr} {fd : FuncData} {k : Nat} (F : Fun K "_law_mixed" "_law_mixed" sMixed f fd) (zi : mg "int" = none) : FnOk P w K mg base CX0 (k + 1) f fd ["cell", "n"] spMixed := by
  refine F.ok scMixed (fun vs H Q E h => ?_) (fun cdv A outer s H vs Q E hr h => ?_)
  · obtain ⟨c, n, rfl, _⟩ := h
    rfl
  · obtain ⟨c, n, rfl, hn0, hn1, q⟩ := h
    refine ⟨_, pss_cons (ps_set (i := 2) scMixed.nd rfl (.inl rfl) (pe_op op_add (pe_op op_add (pe_op op_mod (pe_callTy call_int1 (by rfl) zi (by decide +kernel) (pa_cons (pe_op op_mul (pe_op op_mul (pv 0) (pe_op op_add pe_int (pe_op op_mul pe_int (pv 1)))) pe_int) pa_nil)) pe_int) (pe_op op_mul (pe_op op_mul pe_int (pv 1)) (pv 1))) (pe_op op_mul pe_int (pv 1))))
      (pss_one (ps_ret (pe_op op_fdiv (pe_op op_mod (pe_callTy call_int1 (by rfl) zi (by decide +kernel) (pa_cons (pe_op op_mul (pv 2) pe_int) pa_nil)) pe_int) pe_int))), ?_⟩
    refine ⟨_, rfl, _, rfl, _, _, rfl, rfl, .inl (by decide), _, _, rfl, rfl, _, _, rfl, rfl, .inr (by constructor <;> omega), _, _, rfl, rfl, .inr (by decide), .inl ⟨_, rfl, ?_⟩⟩
    refine ⟨_, _, rfl, rfl, (by show (0 : Int) < 2147483647; decide), _, rfl, _, _, rfl, rfl, .inl (by decide), _, rfl, _, _, rfl, rfl, .inr (by constructor <;> omega), _, _, rfl, rfl, _, rfl, _, _, rfl, rfl, .inl (by decide), _, _, rfl, rfl, ?_⟩
    generalize c * (1 + 2 * n) * 48271 % 2147483647 + 7919 * n * n + 104729 * n = b
    refine ⟨_, rfl, _, _, rfl, rfl, .inr (by decide), .inl ⟨_, rfl, ?_⟩⟩
    refine ⟨_, _, rfl, rfl, (by show (0 : Int) < 2147483629; decide), _, _, rfl, rfl, ⟨by decide, by decide⟩, ?_⟩
    exact q _ (by omega) (by omega)
theorem iteR {σ : L2.St} {p : Bool → Hp → Prop} {B : Hp → Prop} {Hh : Hp} (h : p true Hh) : tYes σ Hh (fun b H3 => if b = true then p b H3 else B H3) := by
  show if true = true then p true Hh else B Hh
  rw [if_pos rfl]
  exact h
theorem same_upd {H : Hp} {p : Addr} {o : HO} (h : H p = none) : Same H (upd H p o) := fun b x e => by
  rw [upd_ne (ne_of_none e h)]
  exact e
theorem same_upd2 {H H' : Hp} {p : Addr} {o : HO} (h : H p = none) (s : Same H H') : Same H (upd H' p o) := fun b x e => by
  rw [upd_ne (ne_of_none e h)]
  exact s _ _ e
theorem at_int {ns : List Int} {i : Int} (h0 : 0 ≤ i) (h1 : i < ns.length) : ∃ z : Int, atI (ns.map V.int) i = some (V.int z) := by
  have hj : i.toNat < ns.length := by omega
  refine ⟨ns[i.toNat], ?_⟩
  refine at_of (j := i.toNat) (by omega) ?_
  rw [List.getElem?_map, List.getElem?_eq_getElem hj]
  rfl
theorem ix_int {n : Nat} {i : Int} (h0 : 0 ≤ i) (h1 : i < n) : ixN n i = some i.toNat := by
  unfold ixN
  rw [if_pos h0, if_pos h1]
theorem scFolded : FnScope ["script", "n", "found", "cell"] ["script"] (defScope sFolded) := ⟨rfl, rfl, rfl, by decide +kernel, rfl, by decide +kernel, by decide +kernel⟩
theorem blkF : blkC ["script", "n", "found", "cell"] (defScope sFolded) { kind := .function, names := [(".0", .local), ("n", .local)], isGenerator := false, isCoroutine := false } [("n", 1)] = true := by decide +kernel
/-- a list of 64 ints stands at p -/
def Cells (H : Hp) (p : Addr) : Prop := ∃ ns : List Int, ns.length = 64 ∧ H p = some (.lst (ns.map V.int))
def spFolded (K : PySem.W.Frag) : Sp := fun vs H Q _ => ∃ (a : Addr) (ns : List Int), vs = [.ref a] ∧ SqL K H a (ns.map V.int) ∧ ns.length ≤ 63 ∧ ∀ H' p, Same H H' → H p = none → Cells H' p → Q (.ref p) H'
theorem ok_folded {f : Addr} {fd : FuncData} {k : Nat} (F : Fun K "_law_folded" "_law_folded" sFolded f fd) (zi : mg "int" = none) (zr : mg "range" = none) (ze : mg "enumerate" = none) : FnOk P w K mg base CX0 (k + 1) f fd ["script"] (spFolded K) := by
  refine F.ok scFolded (fun vs H Q E h => ?_) (fun cdv A outer s H vs Q E hr h => ?_)
  · obtain ⟨a, ns, rfl, _⟩ := h
    rfl
  · obtain ⟨a, ns, rfl, hS, hlen, q⟩ := h
    refine ⟨_, pss_cons (ps_setLc (i := 2) rfl scFolded.nd rfl rfl (sw_true rfl rfl rfl rfl) (pi_range1 (by rfl) zr (pa_cons pe_int pa_nil)) (blkOk_by (own := [("n", 1)]) blkF) (fun s H C cl fp => pg_name (i := 1) scFolded.nd rfl (.inl rfl)) (fun _ _ _ _ _ => pts_nil) (fun _ _ _ _ _ => pe_op op_add pe_int (pv 1)))
      (pss_cons (ps_for PassesOwn.never rfl (pi_enum (by rfl) ze (pa_cons (pv 0) pa_nil)) (pg_tup rfl (pgs_cons (pg_name (i := 1) scFolded.nd rfl (.inl rfl)) (pgs_cons (pg_name (i := 3) scFolded.nd rfl (.inl rfl)) pgs_nil)))
        (pss_one (ps_asg (pe_op op_mod (pe_callTy call_int1 (by rfl) zi (by decide +kernel) (pa_cons (pe_op op_add (pe_op op_mul (pe_ix ix_list (pv 2) (pe_op op_mod (pe_callTy call_int1 (by rfl) zi (by decide +kernel) (pa_cons (pv 1) pa_nil)) pe_int) (fun _ _ => rfl)) pe_int) (pv 3)) pa_nil)) pe_int)
          (pg_sub (pv 2) (pe_op op_mod (pe_callTy call_int1 (by rfl) zi (by decide +kernel) (pa_cons (pv 1) pa_nil)) pe_int) set_list))))
      (pss_cons (ps_for PassesOwn.never rfl (pi_range2 (by rfl) zr (pa_cons pe_int (pa_cons pe_int pa_nil))) (pg_name (i := 1) scFolded.nd rfl (.inl rfl))
        (pss_one (ps_asg (pe_op op_mod (pe_callTy call_int1 (by rfl) zi (by decide +kernel) (pa_cons (pe_op op_add (pe_ix ix_list (pv 2) (pv 1) (fun _ _ => rfl)) (pe_op op_mul (pe_ix ix_list (pv 2) (pe_op op_sub (pv 1) pe_int) (fun _ _ => rfl)) pe_int)) pa_nil)) pe_int)
          (pg_sub (pv 2) (pv 1) set_list))))
      (pss_one (ps_ret (pv 2))))), ?_⟩
    refine ⟨64, rfl, by decide, by decide, fun D nD => lc_range (fun i Hh => ∃ ns : List Int, ns.length = i ∧ Hh D = some (.lst (ns.map V.int)) ∧ Same H Hh) ⟨[], rfl, upd_same, same_upd nD⟩ ?_ ?_⟩
    · rintro i Hh hi ⟨ms, hm, hD, sm⟩
      refine ⟨rfl, ?_⟩
      refine iteR ?_
      refine ⟨_, rfl, _, _, rfl, rfl, _, hD, by rw [List.length_map, hm]; exact small1000 (by omega), ms ++ [17 + (0 + (i : Int))], by rw [List.length_append, hm] <;> rfl, ?_, same_upd2 nD sm⟩
      rw [upd_same, List.map_append] <;> rfl
    · rintro Hh ⟨ms, hm, hD, sm⟩
      refine ⟨_, rfl, a, ns.map V.int, rfl, sm.seq hS, ?_⟩
      refine for_it (walk_enum (xs := ns.map V.int)) (fun i σ H3 => ∃ (y1 y3 : Option V) (ms : List Int), σ = [some (.ref a), y1, some (.ref D), y3] ∧ ms.length = 64 ∧ H3 D = some (.lst (ms.map V.int)) ∧ Same H H3) ⟨_, _, ms, rfl, hm, hD, sm⟩ (fun i σ H3 _ ⟨_, _, _, _, _, _, s3⟩ => s3.seq hS) ?_ ?_
      · rintro i x σ H3 H4 hi ⟨y1, y3, ms, rfl, hm, hD, sm⟩ hy
        obtain ⟨T, x1, x2, rfl, nT, rfl, e1, e2⟩ := hy
        cases e1
        obtain ⟨c, rfl⟩ : ∃ c, x2 = V.int c := by
          replace e2 : (ns.map V.int)[i]? = some x2 := e2
          rw [List.getElem?_map] at e2
          cases e : ns[i]? with
          | none =>
            rw [e] at e2
            cases e2
          | some z =>
            rw [e] at e2
            exact ⟨z, (Option.some.inj e2).symm⟩
        have hil : i < 64 := by
          rw [List.length_map] at hi
          omega
        have hDT : (upd H3 T (.tup [.int (i : Nat), .int c])) D = some (.lst (ms.map V.int)) := by
          rw [upd_ne (ne_of_none hD nT)]
          exact hD
        obtain ⟨z, hz⟩ := at_int (ns := ms) (i := ((i : Nat) : Int) % 64) (by omega) (by omega)
        refine ⟨T, _, rfl, .inl (.inl upd_same), rfl, _, _, rfl, _, _, rfl, rfl, ?_⟩
        refine ⟨.ref D, rfl, _, rfl, .inl ⟨_, rfl, ?_⟩⟩
        refine ⟨_, _, rfl, rfl, (by show (0 : Int) < 64; decide), _, _, _, _, rfl, rfl, .inl (.inl hDT), hz, _, _, rfl, rfl, .inr (by decide), _, rfl, _, _, rfl, rfl, .inl ⟨_, rfl, ?_⟩⟩
        refine ⟨_, _, rfl, rfl, (by show (0 : Int) < 2147483647; decide), .ref D, rfl, _, rfl, .inl ⟨_, rfl, _, _, rfl, rfl, (by show (0 : Int) < 64; decide), ?_⟩⟩
        refine ⟨D, _, _, _, rfl, rfl, hDT, ix_int (by omega) (by rw [List.length_map]; omega), ?_⟩
        refine ⟨_, _, ms.set (((i : Nat) : Int) % 64).toNat ((z * 48271 + c) % 2147483647), rfl, by rw [List.length_set]; exact hm, ?_, same_upd2 nD (same_upd2 (sm.free nT) sm)⟩
        rw [upd_same, List.map_set]
      · rintro σ H3 ⟨y1, y3, ms, rfl, hm, hD, sm⟩
        refine ⟨_, _, rfl, by decide, for_range (fun i σ H4 => ∃ (y1 : Option V) (ms : List Int), σ = [some (.ref a), y1, some (.ref D), y3] ∧ ms.length = 64 ∧ H4 D = some (.lst (ms.map V.int)) ∧ Same H H4) ⟨_, ms, rfl, hm, hD, sm⟩ ?_ ?_⟩
        · rintro i σ H4 hi ⟨y1, ms, rfl, hm, hD, sm⟩
          have hi' : i < 63 := hi
          obtain ⟨z, hz⟩ := at_int (ns := ms) (i := 1 + (i : Int)) (by omega) (by omega)
          obtain ⟨z2, hz2⟩ := at_int (ns := ms) (i := 1 + (i : Int) - 1) (by omega) (by omega)
          refine ⟨.ref D, rfl, _, rfl, _, _, _, _, rfl, rfl, .inl (.inl hD), hz, .ref D, rfl, _, rfl, _, _, rfl, rfl, _, _, _, _, rfl, rfl, .inl (.inl hD), hz2, _, _, rfl, rfl, .inr (by decide), _, _, rfl, rfl, .inl ⟨_, rfl, ?_⟩⟩
          refine ⟨_, _, rfl, rfl, (by show (0 : Int) < 2147483647; decide), .ref D, rfl, _, rfl, D, _, _, _, rfl, rfl, hD, ix_int (by omega) (by rw [List.length_map]; omega), ?_⟩
          refine ⟨_, ms.set (1 + (i : Int)).toNat ((z + z2 * 16807) % 2147483647), rfl, by rw [List.length_set]; exact hm, ?_, same_upd2 nD sm⟩
          rw [upd_same, List.map_set]
        · rintro σ H4 ⟨y1, ms, rfl, hm, hD, sm⟩
          exact ⟨_, rfl, q H4 D sm nD ⟨ms, hm, hD⟩⟩
theorem dps {K : PySem.W.Frag} {H : Hp} : ∀ gs : List Int, DpAll K H (gs.map V.int) (gs.map PyData.int)
  | [] => .nil
  | x :: r => .cons (.int x) (dps r)
theorem lay_ints : ∀ gs : List Int, PyData.canLayAll0 (gs.map PyData.int) = true
  | [] => rfl
  | x :: r => by
    show (PyData.canLay0 (.int x) && PyData.canLayAll0 (r.map PyData.int)) = true
    rw [lay_ints r] <;> rfl
theorem depth_ints : ∀ gs : List Int, PyData.depthAll (gs.map PyData.int) = 0
  | [] => by simp [PyData.depthAll]
  | x :: r => by
    have ih := depth_ints r
    simp [PyData.depthAll, PyData.depth, ih]
theorem shaped_ints (gs : List Int) : SeqAt.shaped (.list (gs.map PyData.int)) = true := by
  unfold SeqAt.shaped
  have h1 : PyData.canLay0 (.list (gs.map PyData.int)) = true := lay_ints gs
  have h2 : PyData.depth (.list (gs.map PyData.int)) ≤ 64 := by
    simp [PyData.depth, depth_ints]
  rw [h1, decide_eq_true h2] <;> rfl
theorem scDraw : FnScope ["m", "limit", "n", "lot", "here", "cell"] ["m", "limit"] (defScope sDraw) := ⟨rfl, rfl, rfl, by decide +kernel, rfl, by decide +kernel, by decide +kernel⟩
/-- the state of the draws stands at m: 64 cells at c, great ones at g, the next place -/
structure Drw (H : Hp) (m c g : Addr) (sp : Int) : Prop where
  dm : H m = some (.dK [(.inr "cells", .ref c), (.inr "great", .ref g), (.inr "spot", .int sp)])
  cs : Cells H c
  gs : ∃ gs : List Int, gs.length ≤ 63 ∧ H g = some (.lst (gs.map V.int))
  cg : c ≠ g
/-- all that was tracked, m and g apart, is as it was -/
def SameD (m g : Addr) (H H' : Hp) : Prop := ∀ b o, b ≠ m → b ≠ g → H b = some o → H' b = some o
def spDraw : Sp := fun vs H Q _ => ∃ (m c g : Addr) (sp lim : Int), vs = [.ref m, .int lim] ∧ Drw H m c g sp ∧ 0 ≤ sp ∧ sp < 900000 ∧ 0 < lim ∧ lim < 1073741824 ∧ ∀ (r : Int) H', 0 ≤ r → r < lim → Drw H' m c g (sp + 1) → SameD m g H H' → Q (.int r) H'
theorem ok_draw {f fM : Addr} {fd fdM : FuncData} {k : Nat} (F : Fun K "_law_draw" "_law_draw" sDraw f fd) (FM : Fun K "_law_mixed" "_law_mixed" sMixed fM fdM) (bM : Binds K fdM ["cell", "n"] []) (gM : mg "_law_mixed" = some (.ref fM)) (zi : mg "int" = none) (zl : mg "len" = none) : FnOk P w K mg base CX0 (k + 2) f fd ["m", "limit"] spDraw := by
  have GM : FnOk P w K mg base CX0 (k + 1) fM fdM ["cell", "n"] spMixed := ok_mixed FM zi
  refine F.ok scDraw (fun vs H Q E h => ?_) (fun cdv A outer s H vs Q E hr h => ?_)
  · obtain ⟨m, c, g, sp, lim, rfl, _⟩ := h
    rfl
  · obtain ⟨m, c, g, sp, lim, rfl, D, hs0, hs1, hl0, hl1, q⟩ := h
    have hu := hu_of hr
    have hu64 := hr.units
    obtain ⟨⟨ns, hn, hc⟩, ⟨gs, hgl, hg⟩⟩ := And.intro D.cs D.gs
    have hm := D.dm
    have mc : m ≠ c := ne_of hm hc (by intro z; cases z)
    have mgn : m ≠ g := ne_of hm hg (by intro z; cases z)
    refine ⟨_, pss_cons (ps_set (i := 2) scDraw.nd rfl (.inl rfl) (pe_dget hu (pv 0) pe_str (fun _ _ => rfl)))
      (pss_cons (ps_dput hu (pv 0) pe_str (pe_op op_add (pv 2) pe_int) rfl)
      (pss_cons (ps_if (pt_cmpR (op_neD hr.units) (pe_dget hu (pv 0) pe_str (fun _ _ => rfl)) (pe_lst pa_nil) (nomark _))
        (pss_cons (ps_set (i := 3) scDraw.nd rfl (.inl rfl) (pe_dget hu (pv 0) pe_str (fun _ _ => rfl)))
        (pss_cons (ps_set (i := 4) scDraw.nd rfl (.inl rfl) (pe_op op_mod (pe_callTy call_int1 (by rfl) zi (by decide +kernel) (pa_cons (pv 2) pa_nil)) (pe_callB call_len_seq (by rfl) zl PySem.boot_len (pa_cons (pv 3) pa_nil))))
        (pss_cons (ps_set (i := 5) scDraw.nd rfl (.inl rfl) (pe_ix ix_list (pv 3) (pv 4) (fun _ _ => rfl)))
        (pss_one (ps_if (pt_cmpR op_gt (pv 5) pe_int (nomark _))
          (pss_cons (ps_asg (pe_op op_fdiv (pv 5) (pv 1)) (pg_sub (pv 3) (pv 4) set_list))
          (pss_one (ps_ret (pe_op op_mod (pe_callTy call_int1 (by rfl) zi (by decide +kernel) (pa_cons (pv 5) pa_nil)) (pv 1)))))
          pss_nil)))))
        pss_nil)
      (pss_cons (ps_set (i := 3) scDraw.nd rfl (.inl rfl) (pe_dget hu (pv 0) pe_str (fun _ _ => rfl)))
      (pss_one (ps_ret (pe_op op_mod (pe_callTy call_int1 (by rfl) zi (by decide +kernel) (pa_cons
        (pe_call GM hr (by rfl) gM FM.kp bM .nil pass0 (pa_cons
          (pe_call GM hr (by rfl) gM FM.kp bM .nil pass0 (pa_cons (pe_op op_add (pe_ix ix_list (pv 3) (pe_op op_mod (pe_callTy call_int1 (by rfl) zi (by decide +kernel) (pa_cons (pv 2) pa_nil)) pe_int) (fun _ _ => rfl)) (pe_op op_mul pe_int (pe_op op_fdiv (pv 2) pe_int))) (pa_cons (pv 2) pa_nil)))
          (pa_cons (pe_op op_add (pv 2) pe_int) pa_nil))) pa_nil)) (pv 1))))))), ?_⟩
    have eS : ∀ (sp : Int) Hh, Hh m = some (.dK [((.inr "cells" : Key), V.ref c), (.inr "great", .ref g), (.inr "spot", .int sp)]) → DGet Hh m (.str "spot") (some (.int sp)) := fun sp Hh h => DGet.k (k := .inr "spot") h
    have eG : ∀ (sp : Int) Hh, Hh m = some (.dK [((.inr "cells" : Key), V.ref c), (.inr "great", .ref g), (.inr "spot", .int sp)]) → DGet Hh m (.str "great") (some (.ref g)) := fun sp Hh h => DGet.k (k := .inr "great") h
    have eC : ∀ (sp : Int) Hh, Hh m = some (.dK [((.inr "cells" : Key), V.ref c), (.inr "great", .ref g), (.inr "spot", .int sp)]) → DGet Hh m (.str "cells") (some (.ref c)) := fun sp Hh h => DGet.k (k := .inr "cells") h
    refine ⟨_, rfl, m, _, rfl, eS _ _ hm, ?_⟩
    refine ⟨_, rfl, _, _, rfl, rfl, _, rfl, m, _, rfl, DPut.k (k := .inr "spot") hm (show 3 < sizeLine by decide), ?_⟩
    have hHm0 : (upd H m (.dK (putK [((.inr "cells" : Key), V.ref c), (.inr "great", .ref g), (.inr "spot", .int sp)] (.inr "spot") (.int (sp + 1))))) m = some (.dK [((.inr "cells" : Key), V.ref c), (.inr "great", .ref g), (.inr "spot", .int (sp + 1))]) := upd_same
    have hHc0 : (upd H m (.dK (putK [((.inr "cells" : Key), V.ref c), (.inr "great", .ref g), (.inr "spot", .int sp)] (.inr "spot") (.int (sp + 1))))) c = some (.lst (ns.map V.int)) := by
      rw [upd_ne mc.symm]
      exact hc
    have hHg0 : (upd H m (.dK (putK [((.inr "cells" : Key), V.ref c), (.inr "great", .ref g), (.inr "spot", .int sp)] (.inr "spot") (.int (sp + 1))))) g = some (.lst (gs.map V.int)) := by
      rw [upd_ne mgn.symm]
      exact hg
    have hS0 : SameD m g H (upd H m (.dK (putK [((.inr "cells" : Key), V.ref c), (.inr "great", .ref g), (.inr "spot", .int sp)] (.inr "spot") (.int (sp + 1))))) := fun b o h1 h2 e => by
      rw [upd_ne h1]
      exact e
    generalize upd H m (.dK (putK [((.inr "cells" : Key), V.ref c), (.inr "great", .ref g), (.inr "spot", .int sp)] (.inr "spot") (.int (sp + 1)))) = H0 at hHm0 hHc0 hHg0 hS0
    refine ⟨_, rfl, m, _, rfl, eG _ _ hHm0, Nat.zero_le _, fun p np => ?_⟩
    have hHm : (upd H0 p (.lst [])) m = some (.dK [((.inr "cells" : Key), V.ref c), (.inr "great", .ref g), (.inr "spot", .int (sp + 1))]) := same_upd np _ _ hHm0
    have hHc : (upd H0 p (.lst [])) c = some (.lst (ns.map V.int)) := same_upd np _ _ hHc0
    have hHg : (upd H0 p (.lst [])) g = some (.lst (gs.map V.int)) := same_upd np _ _ hHg0
    have hSD : SameD m g H (upd H0 p (.lst [])) := fun b o h1 h2 e => same_upd np _ _ (hS0 b o h1 h2 e)
    refine ⟨_, _, .lst (.inl (.inl hHg)) (dps gs), .lst (.inl (.inl upd_same)) .nil, shaped_ints gs, shaped_ints [], _, rfl, ?_⟩
    cases gs with
    | nil =>
        have hD : Drw (upd H0 p (.lst [])) m c g (sp + 1) := ⟨hHm, ⟨ns, hn, hHc⟩, ⟨[], by decide, hHg⟩, D.cg⟩
        refine iteF ?_
        obtain ⟨z, hz⟩ := at_int (ns := ns) (i := sp % 64) (by omega) (by omega)
        refine ⟨_, rfl, m, _, rfl, eC _ _ hHm, ?_⟩
        refine ⟨.ref c, rfl, _, rfl, .inl ⟨_, rfl, _, _, rfl, rfl, (by show (0 : Int) < 64; decide), _, _, _, _, rfl, rfl, .inl (.inl hHc), hz, _, rfl, _, _, rfl, rfl, ⟨by decide, by decide⟩, _, _, rfl, rfl, .inl (by decide), _, _, rfl, rfl, _, rfl, ?_⟩⟩
        refine ⟨_, _, rfl, by omega, by omega, fun r1 _ _ => ?_⟩
        refine ⟨_, rfl, _, _, rfl, rfl, ?_⟩
        refine ⟨_, _, rfl, by omega, by omega, fun r2 _ _ => .inl ⟨_, rfl, ?_⟩⟩
        refine ⟨_, rfl, _, _, rfl, rfl, hl0, ?_⟩
        exact q _ _ (Int.emod_nonneg _ (by omega)) (Int.emod_lt_of_pos _ hl0) hD hSD
    | cons x r =>
        refine iteT ?_
        have hlen : 0 < ((x :: r).length : Int) := by
          rw [List.length_cons]
          omega
        generalize x :: r = gs at *
        have h0 : 0 ≤ sp % (gs.length : Int) := Int.emod_nonneg _ (by omega)
        have h1 : sp % (gs.length : Int) < gs.length := Int.emod_lt_of_pos _ hlen
        obtain ⟨y, hy⟩ := at_int (ns := gs) h0 h1
        have hD : Drw (upd H0 p (.lst [])) m c g (sp + 1) := ⟨hHm, ⟨ns, hn, hHc⟩, ⟨gs, hgl, hHg⟩, D.cg⟩
        refine ⟨_, rfl, m, _, rfl, eG _ _ hHm, ?_⟩
        refine ⟨_, rfl, .inl ⟨_, rfl, .ref g, rfl, g, _, rfl, .inl (.inl (.inl hHg)), _, _, rfl, rfl, ?_, ?_⟩⟩
        · show (0 : Int) < ((gs.map V.int).length : Int)
          rw [List.length_map]
          exact hlen
        rw [List.length_map]
        refine ⟨.ref g, rfl, _, rfl, g, _, _, _, rfl, rfl, .inl (.inl hHg), hy, ?_⟩
        refine ⟨_, rfl, _, _, rfl, rfl, _, rfl, ?_⟩
        refine ite2 (fun hpos => ?_) (fun hneg => ?_)
        · refine ⟨_, rfl, _, rfl, _, _, rfl, rfl, ⟨hl0, hl1⟩, .ref g, rfl, _, rfl, g, _, _, _, rfl, rfl, hHg, ix_int h0 (by rw [List.length_map]; exact h1), ?_⟩
          refine ⟨_, rfl, .inl ⟨_, rfl, _, rfl, _, _, rfl, rfl, hl0, ?_⟩⟩
          refine q _ _ (Int.emod_nonneg _ (by omega)) (Int.emod_lt_of_pos _ hl0) ⟨?_, ⟨ns, hn, ?_⟩, ⟨gs.set (sp % (gs.length : Int)).toNat (y / lim), by rw [List.length_set]; exact hgl, ?_⟩, D.cg⟩ fun b o h1 h2 e => ?_
          · rw [upd_ne mgn]
            exact hHm
          · rw [upd_ne D.cg]
            exact hHc
          · rw [upd_same, List.map_set]
          · rw [upd_ne h2]
            exact hSD b o h1 h2 e
        · obtain ⟨z, hz⟩ := at_int (ns := ns) (i := sp % 64) (by omega) (by omega)
          refine ⟨_, rfl, m, _, rfl, eC _ _ hHm, ?_⟩
          refine ⟨.ref c, rfl, _, rfl, .inl ⟨_, rfl, _, _, rfl, rfl, (by show (0 : Int) < 64; decide), _, _, _, _, rfl, rfl, .inl (.inl hHc), hz, _, rfl, _, _, rfl, rfl, ⟨by decide, by decide⟩, _, _, rfl, rfl, .inl (by decide), _, _, rfl, rfl, _, rfl, ?_⟩⟩
          refine ⟨_, _, rfl, by omega, by omega, fun r1 _ _ => ?_⟩
          refine ⟨_, rfl, _, _, rfl, rfl, ?_⟩
          refine ⟨_, _, rfl, by omega, by omega, fun r2 _ _ => .inl ⟨_, rfl, ?_⟩⟩
          refine ⟨_, rfl, _, _, rfl, rfl, hl0, ?_⟩
          exact q _ _ (Int.emod_nonneg _ (by omega)) (Int.emod_lt_of_pos _ hl0) hD hSD
end
end K80

set_option Elab.async false
set_option linter.all false
set_option maxRecDepth 100000
set_option maxHeartbeats 2000000
namespace K80
open PySem PySem.Spec PyProof.Rows L2
section
variable {P : Program} {w : World} {K : PySem.W.Frag} {mg : Str → Option Value} {base : Heap}
theorem scBegun : FnScope ["script", "m", "cell"] ["script"] (defScope sBegun) := ⟨rfl, rfl, rfl, by decide +kernel, rfl, by decide +kernel, by decide +kernel⟩
theorem blkB : blkC ["script", "m", "cell"] (defScope sBegun) { kind := .function, names := [(".0", .local), ("cell", .local)], isGenerator := false, isCoroutine := false } [("cell", 2)] = true := by decide +kernel
def spBegun (K : PySem.W.Frag) : Sp := fun vs H Q _ => ∃ (a : Addr) (ns : List Int), vs = [.ref a] ∧ SqL K H a (ns.map V.int) ∧ ns.length ≤ 63 ∧ ∀ H' m c g, Same H H' → H m = none → H c = none → H g = none → Drw H' m c g 0 → Q (.ref m) H'
theorem ok_begun {f fF : Addr} {fd fdF : FuncData} {k : Nat} (F : Fun K "_law_begun" "_law_begun" sBegun f fd) (FF : Fun K "_law_folded" "_law_folded" sFolded fF fdF) (bF : Binds K fdF ["script"] []) (gF : mg "_law_folded" = some (.ref fF)) (zi : mg "int" = none) (zr : mg "range" = none) (ze : mg "enumerate" = none) : FnOk P w K mg base CX0 (k + 2) f fd ["script"] (spBegun K) := by
  have GF : FnOk P w K mg base CX0 (k + 1) fF fdF ["script"] (spFolded K) := ok_folded FF zi zr ze
  refine F.ok scBegun (fun vs H Q E h => ?_) (fun cdv A outer s H vs Q E hr h => ?_)
  · obtain ⟨a, ns, rfl, _⟩ := h
    rfl
  · obtain ⟨a, ns, rfl, hS, hlen, q⟩ := h
    have hu := hu_of hr
    refine ⟨_, pss_cons (ps_set (i := 1) scBegun.nd rfl (.inl rfl) (pe_disp (pps_cons pe_str (pe_call GF hr (by rfl) gF FF.kp bF .nil pass0 (pa_cons (pv 0) pa_nil)) (pps_cons pe_str (pe_lst pa_nil) (pps_cons pe_str pe_int pps_nil))) (by rfl) (by rfl) (by simp) (by simp)))
      (pss_cons (ps_dput hu (pv 1) pe_str (pe_lc rfl scBegun.nd (pi_list (pv 0)) (blkOk_by (own := [("cell", 2)]) blkB) (fun s H C cl fp => pg_name (i := 2) scBegun.nd rfl (.inl rfl)) (fun _ _ _ _ _ => pts_nil) (fun _ _ _ _ _ => pe_ifExp (pt_cmpR op_ge (pv 2) (pe_op op_pow pe_int pe_int) (nomark _)) (pv 2) pe_int)) rfl)
      (pss_one (ps_ret (pv 1)))), ?_⟩
    -- m = {..}
    intro m nm
    refine ⟨_, rfl, a, ns, rfl, (same_upd nm).seq hS, hlen, fun H1 c sm1 nc hc => ?_⟩
    have hm1 : H1 m = some (.dK []) := sm1 _ _ upd_same
    have smH1 : Same H H1 := (same_upd nm).trans sm1
    have ncH : H c = none := (same_upd nm).free nc
    have cm : c ≠ m := fun z => by
      rw [z, upd_same] at nc
      cases nc
    refine ⟨Nat.zero_le _, fun p np => ?_⟩
    have pm : p ≠ m := fun z => by
      rw [z, hm1] at np
      cases np
    have hm2 : (upd H1 p (.lst [])) m = some (.dK []) := by
      rw [upd_ne pm.symm]
      exact hm1
    refine ⟨hm2, [(.inr "cells", .ref c), (.inr "great", .ref p), (.inr "spot", .int 0)], rfl, by simp, ?_⟩
    -- m['great'] = [..]
    have hm3 : (upd (upd H1 p (.lst [])) m (.dK (mergeK [] [((.inr "cells" : Key), V.ref c), (.inr "great", .ref p), (.inr "spot", .int 0)]))) m = some (.dK [(.inr "cells", .ref c), (.inr "great", .ref p), (.inr "spot", .int 0)]) := upd_same
    have hs3 : Same H (upd (upd H1 p (.lst [])) m (.dK (mergeK [] [((.inr "cells" : Key), V.ref c), (.inr "great", .ref p), (.inr "spot", .int 0)]))) := same_upd2 nm (same_upd2 (smH1.free np) smH1)
    have hc3 : Cells (upd (upd H1 p (.lst [])) m (.dK (mergeK [] [((.inr "cells" : Key), V.ref c), (.inr "great", .ref p), (.inr "spot", .int 0)]))) c := by
      obtain ⟨zs, h1, h2⟩ := hc
      refine ⟨zs, h1, ?_⟩
      rw [upd_ne cm, upd_ne (ne_of_none h2 np)]
      exact h2
    generalize upd (upd H1 p (.lst [])) m (.dK (mergeK [] [((.inr "cells" : Key), V.ref c), (.inr "great", .ref p), (.inr "spot", .int 0)])) = H3 at hm3 hs3 hc3
    refine ⟨.ref a, rfl, a, rfl, ⟨_, hs3.seq hS⟩, fun g ng => ?_⟩
    have hmc : Same H3 (upd H3 g (.lst [])) := same_upd ng
    refine lc_list (a := a) (xs := ns.map V.int) (fun i Hh => i ≤ ns.length ∧ ∃ gs : List Int, gs.length = i ∧ Hh g = some (.lst (gs.map V.int)) ∧ Same H3 Hh) ⟨Nat.zero_le _, [], rfl, upd_same, same_upd ng⟩ (fun i Hh _ ⟨_, _, _, _, s4⟩ => s4.seq (hs3.seq hS)) ?_ ?_
    · rintro i x Hh hx ⟨hi, gs, hgl, hg, s4⟩
      have hil : i < (ns.map V.int).length := (List.getElem?_eq_some_iff.mp hx).1
      rw [List.length_map] at hil
      obtain ⟨y, rfl⟩ : ∃ y, x = V.int y := by
        rw [List.getElem?_map] at hx
        cases e : ns[i]? with
        | none =>
          rw [e] at hx
          cases hx
        | some z =>
          rw [e] at hx
          exact ⟨z, (Option.some.inj hx).symm⟩
      have fin : ∀ v : Int, ∃ acc, Hh g = some (.lst acc) ∧ acc.length < sizeLine ∧ (i + 1 ≤ ns.length ∧ ∃ gs : List Int, gs.length = i + 1 ∧ (upd Hh g (.lst (acc ++ [V.int v]))) g = some (.lst (gs.map V.int)) ∧ Same H3 (upd Hh g (.lst (acc ++ [V.int v])))) := fun v => by
        refine ⟨_, hg, by rw [List.length_map, hgl]; exact small1000 (by omega), by omega, gs ++ [v], by rw [List.length_append, hgl] <;> rfl, ?_, same_upd2 ng s4⟩
        rw [upd_same, List.map_append] <;> rfl
      refine ⟨rfl, ?_⟩
      refine iteR ?_
      refine ⟨_, rfl, _, _, rfl, rfl, ⟨by decide, by decide, by decide⟩, _, _, rfl, rfl, _, rfl, ?_⟩
      refine ite2 (fun _ => ?_) (fun _ => ?_)
      · exact ⟨_, rfl, fin y⟩
      · exact fin 0
    · rintro Hh ⟨hi, gs, hgl, hg, s4⟩
      rw [List.length_map] at hgl
      have hm4 : Hh m = some (.dK [((.inr "cells" : Key), V.ref c), (.inr "great", .ref p), (.inr "spot", .int 0)]) := s4 _ _ hm3
      have gm : g ≠ m := fun z => by
        rw [z, hm3] at ng
        cases ng
      refine ⟨_, rfl, m, _, rfl, DPut.k (k := .inr "great") hm4 (show 3 < sizeLine by decide), ?_⟩
      refine ⟨_, rfl, q _ m c g (fun b o e => ?_) nm ncH (hs3.free ng) ⟨upd_same, ?_, ⟨gs, by omega, ?_⟩, ?_⟩⟩
      · rw [upd_ne (ne_of_none e nm)]
        exact s4 _ _ (hs3 _ _ e)
      · obtain ⟨zs, h1, h2⟩ := hc3
        refine ⟨zs, h1, ?_⟩
        rw [upd_ne cm]
        exact s4 _ _ h2
      · rw [upd_ne gm]
        exact hg
      · intro z
        obtain ⟨zs, h1, h2⟩ := hc3
        rw [z, ng] at h2
        cases h2
end
end K80

set_option Elab.async false
set_option linter.all false
set_option maxRecDepth 100000
set_option maxHeartbeats 2000000
/-! ### Promises of defs that are called where no repr is under way (the layer's own FnOk says nothing of that, and repr asks it) -/
namespace KG
open PySem PySem.Spec PyProof.Rows L2
/-- as FnOk, of callers under which no repr is under way -/
structure FnG (P : Program) (w : World) (K : PySem.W.Frag) (mg : Str → Option Value) (base : Heap) (k : Nat) (f : Addr) (fd : FuncData) (ps : List Str) (sp : Sp) : Prop where
  len : ∀ vs H Q E, sp vs H Q E → vs.length = ps.length
  run : ∀ (A : Around) (outer : List Env) (s : Shared) (H : Hp) (args : Args) (us : List Value) (vs : List V) (Q : VK) (E : XK), A.guards = some [] → Room k A → Env0 P w K mg base A outer s H → BindsTo s fd args (ps.zip us) → Vals vs us → sp vs H Q E →
    codeAny (model P w) A (.call (.ref f) args) (CR CX0 outer P w H s Q E) s
theorem gd_deeper (A : Around) (e : Env) : (A.deeper e).guards = A.guards := by
  rfl
section
variable {P : Program} {w : World} {K : PySem.W.Frag} {mg : Str → Option Value} {base : Heap}
theorem fnG_of {k : Nat} {f : Addr} {x qual : Str} {st : Stmt} {fd : FuncData} {N ps : List Str} {sp : Sp} (F : Fun K x qual st f fd) (S : FnScope N ps (defScope st))
    (len : ∀ vs H Q E, sp vs H Q E → vs.length = ps.length)
    (hbody : ∀ (cdv : Value) (A : Around) (outer : List Env) (s : Shared) (H : Hp) (vs : List V) (Q : VK) (E : XK), (A.deeper (envOfC qual (defScope st) s.heap.objs.size f cdv)).guards = some [] → Room k (A.deeper (envOfC qual (defScope st) s.heap.objs.size f cdv)) → sp vs H Q E →
      ∃ t, PSs (cxOf CX0 P w K mg base N qual (defScope st) f cdv A outer s H E).nox (defBody st) t ∧ t { nx := fun _ H' => Q .non H', rt := Q } (start N vs) H) : FnG P w K mg base (k + 1) f fd ps sp := by
  obtain ⟨oc, od, kV, doc, pm, an, cdv, ct, osl, rfl, lk, hcd⟩ := F.ex
  refine ⟨len, fun A outer s H args us vs Q E hgd hr e0 hb r hsp => ?_⟩
  have old : ∀ b o, base.get? b = some o → s.heap.get? b = some o := fun b o e => (e0.bs b o e).1
  have kinds : ∀ y ∈ ps.zip us, (defScope st).names.lookup y.1 = some .local ∨ ((defScope st).names.lookup y.1 = some .cell ∧ ((cellsFrom (s.heap.objs.size + 1) (defScope st).names []).lookup y.1).isSome = true) := fun y hy => by
    obtain ⟨n, v⟩ := y
    exact (S.par n (List.of_mem_zip hy).1).imp id fun q => ⟨q, PySem.W.cellsFrom_some _ _ _ (.inl q)⟩
  have KX : K.In s.heap := e0.mod.kin.keeps old
  refine codeAny_call_function hr.depth (KX _ _ lk) rfl S.co S.gen rfl (PySem.W.codeRec_of KX hcd) (hb _ _ _ _ ?_)
  refine wpAny_newFunctionEnv_cells S.kind kinds fun env he s1 x => ?_
  subst he
  refine ⟨(e0.mod.nolimit.keeps old).keeps x.toInCall.keep, codeAny_func ?_⟩
  obtain ⟨t, ht, hq⟩ := hbody cdv A outer s H vs Q E hgd (hr.deeper _) hsp
  have I := inv_start (CX := CX0) (E := E) S hr.hd e0 (len _ _ _ _ hsp) r x
  refine wpAny_mono (ht.nox.run [] s1 (start N vs) H _ I hq) (fun fl s' hs => ?_) fun e s' hs => hs
  cases fl with
  | ret u => exact let ⟨v, σ', H', J, rv, q⟩ := hs; ⟨v, H', J.os, J.bare, J.base, J.hok, rv, q⟩
  | next => exact let ⟨σ', H', J, q⟩ := hs; ⟨V.non, H', J.os, J.bare, J.base, J.hok, rfl, q⟩
  | brk => exact let ⟨_, _, _, q⟩ := hs; q.elim
  | cont => exact let ⟨_, _, _, q⟩ := hs; q.elim
end
section
variable {X : Cx} {k : Nat} {f : Addr} {fd : FuncData} {ps : List Str} {sp : Sp} {ds : List Value} {dvs : List V} {x : Str} {e : Expr} {es : List Expr} {t : TA} {p pos : Pos}
/-- a call of such a def where no repr is under way -/
theorem pe_callG (F : FnG X.prog X.w X.K X.mg X.base k f fd ps sp) (hgd : X.A.guards = some []) (hr : Room k X.A) (hg : Gl X x) (hm : X.mg x = some (.ref f)) (hk : PySem.W.keepIn X.K (.ref f) = true) (hb : Binds X.K fd ps []) (ha : PA X (e :: es) t)
    (hdb : (x == ("__debug__" : Str)) = false := by decide) (he : starEach (e :: es) X.env = (false, eval e X.env) :: starEach es X.env := by rfl) (hpl : (backTo pos (starEach es X.env)).any (·.1) = false := by rfl) :
    PE X (.Call (.Name x p) (e :: es) [] pos) (tCall sp [] E0 t) := by
  refine ⟨fun pins s σ H Q I h => wpAny_Call_Name_kw (ld_glob I hg hm ?_ hdb)⟩
  refine PySem.W.callWith_K (h₀ := X.base) I.ok.mod.kin hk (thn (ha.run pos pins s σ H _ I h) fun us s1 ⟨vs, H1, I1, r, q⟩ => ⟨I1.kIn, ?_⟩) he hpl
  have r2 : Vals (vs ++ []) (us ++ []) := r.append .nil
  have hl : (us ++ []).length = ps.length := r2.length.symm.trans (F.len _ _ _ _ q)
  refine wpAny_call (codeAny_mono (F.run X.A X.stack s1 H1 ⟨us, []⟩ (us ++ []) (vs ++ []) Q E0 hgd hr I1.env0 (hb s1 us I1.kIn hl) r2 q) fun r s' hq => ?_)
  cases r with
  | error e => exact pass0 pins σ H1 s1 e s' I1 hq
  | ok fl => cases fl with
    | ret u => exact I1.after hq
    | next => exact hq.elim
    | brk => exact hq.elim
    | cont => exact hq.elim
end
end KG

set_option Elab.async false
set_option linter.all false
set_option maxRecDepth 100000
set_option maxHeartbeats 2000000
/-! ### Nested values and their texts -/
namespace KG
open PySem PySem.Spec PyProof.Rows L2
mutual
/-- a value is this datum: lists, tuples, dicts of texts to ints, nested -/
inductive Dq (H : Hp) : V → PyData → Prop
  | non : Dq H .non .none
  | bl (b : Bool) : Dq H (.bl b) (.bool b)
  | int (i : Int) : Dq H (.int i) (.int i)
  | str (x : Str) : Dq H (.str x) (.str x)
  | lst {a : Addr} {xs : List V} {ds : List PyData} : H a = some (.lst xs) → a ≠ sysModules → DqA H xs ds → Dq H (.ref a) (.list ds)
  | tup {a : Addr} {xs : List V} {ds : List PyData} : H a = some (.tup xs) → DqA H xs ds → Dq H (.ref a) (.tuple ds)
  | dct {a : Addr} {ks : List (Str × Int)} : H a = some (.dK (ks.map fun p => ((.inr p.1 : Key), V.int p.2))) → Dq H (.ref a) (.dict (ks.map fun p => (PyData.str p.1, PyData.int p.2)))
inductive DqA (H : Hp) : List V → List PyData → Prop
  | nil : DqA H [] []
  | cons {v : V} {vs : List V} {d : PyData} {ds : List PyData} : Dq H v d → DqA H vs ds → DqA H (v :: vs) (d :: ds)
end
mutual
theorem Dq.same {H H' : Hp} (S : Same H H') : ∀ (d : PyData) (v : V), Dq H v d → Dq H' v d
  | .none, _, h => by cases h; exact .non
  | .bool b, _, h => by cases h; exact .bl b
  | .int i, _, h => by cases h; exact .int i
  | .str x, _, h => by cases h; exact .str x
  | .list ds, _, h => by
    cases h with
    | lst e n r => exact .lst (S _ _ e) n (DqA.same S ds _ r)
  | .tuple ds, _, h => by
    cases h with
    | tup e r => exact .tup (S _ _ e) (DqA.same S ds _ r)
  | .dict kvs, v, h => by
    generalize hd : PyData.dict kvs = d at h
    cases h with
    | dct e => rw [← hd]; injection hd with hd; rw [hd]; exact .dct (S _ _ e)
    | _ => cases hd
theorem DqA.same {H H' : Hp} (S : Same H H') : ∀ (ds : List PyData) (vs : List V), DqA H vs ds → DqA H' vs ds
  | [], _, h => by cases h; exact .nil
  | d :: ds, _, h => by
    cases h with
    | cons h1 h2 => exact .cons (Dq.same S d _ h1) (DqA.same S ds _ h2)
end
section
variable {X : Cx} {pins : List (Addr × Obj)} {σ : L2.St} {H : Hp} {s : Shared}
theorem keys_read {h : Heap} {prog : Program} {w : World} : ∀ {es : List DictEntry} {vs : List (Key × Value)} {ks : List (Str × Int)}, Pairs (mixKind prog w) es vs → KV (ks.map fun p => ((.inr p.1 : Key), V.int p.2)) vs →
    ReadsAll h (es.map (·.key)) (ks.map fun p => PyData.str p.1) [] ∧ ReadsAll h (es.map (·.val)) (ks.map fun p => PyData.int p.2) [] := by
  intro es vs ks hp
  induction hp generalizing ks with
  | nil =>
    intro hk
    cases ks with
    | nil => exact ⟨.nil, .nil⟩
    | cons k r => cases hk
  | @cons e kv es kvs h1 h2 h3 ih =>
    intro hk
    cases ks with
    | nil => cases hk
    | cons k r =>
      cases hk with
      | cons q hr =>
        obtain ⟨i1, i2⟩ := ih hr
        obtain ⟨q1, q2⟩ := q
        have q1 : (Sum.inr k.1 : Key) = kv.1 := q1
        rw [← q1] at h1
        obtain ⟨t, ht⟩ : ∃ t, e.key = Value.str k.1 t := by
          rcases keyIs_shape (show keyIs (.inr k.1) e.key = true from h1) with ⟨i, t, e1, _⟩ | ⟨x, t, e1, e2⟩
          · cases e1
          · cases e1
            exact ⟨t, e2⟩
        obtain ⟨u, hu⟩ : ∃ u, e.val = Value.int k.2 u := by
          obtain ⟨u, hu⟩ := (show ∃ u, kv.2 = Value.int k.2 u from q2)
          exact ⟨u, h2.trans hu⟩
        refine ⟨?_, ?_⟩
        · show ReadsAll h (e.key :: es.map (·.key)) (PyData.str k.1 :: r.map fun p => PyData.str p.1) ([] ++ [])
          rw [ht]
          exact .cons (.str _ _) i1
        · show ReadsAll h (e.val :: es.map (·.val)) (PyData.int k.2 :: r.map fun p => PyData.int p.2) ([] ++ [])
          rw [hu]
          exact .cons (.int _ _) i2
mutual
theorem Dq.reads (I : Inv X pins σ H s) : ∀ (d : PyData) (v : V) (u : Value), Dq H v d → RelV v u → ∃ as, Reads s.heap u d as ∧ sysModules ∉ as
  | .none, _, _, h, r => by
    cases h
    cases r
    exact ⟨_, .none, by simp⟩
  | .bool b, _, _, h, r => by
    cases h
    cases r
    exact ⟨_, .bool _, by simp⟩
  | .int i, _, _, h, r => by
    cases h
    obtain ⟨t, rfl⟩ := r
    exact ⟨_, .int _ _, by simp⟩
  | .str x, _, _, h, r => by
    cases h
    obtain ⟨t, rfl⟩ := r
    exact ⟨_, .str _ _, by simp⟩
  | .list ds, _, _, h, r => by
    cases h with
    | lst e n ha =>
      cases r
      obtain ⟨its, m, rv, ho, _⟩ := I.lst e
      obtain ⟨as, h1, h2⟩ := DqA.reads I ds _ its ha rv
      exact ⟨_, .list ho rfl rfl h1, fun z => (List.mem_cons.mp z).elim (fun z => n z.symm) h2⟩
  | .tuple ds, _, _, h, r => by
    cases h with
    | tup e ha =>
      cases r
      obtain ⟨its, rv, ⟨o, ho, hc, n, hd⟩, _⟩ := I.tuple (xs := _) (.inl (.inl e))
      obtain ⟨as, h1, h2⟩ := DqA.reads I ds _ its ha rv
      exact ⟨_, .tuple ho hc hd h1, h2⟩
  | .dict kvs, _, _, h, r => by
    generalize hd : PyData.dict kvs = d at h
    cases h with
    | dct e =>
      rename_i a ks
      cases r
      obtain ⟨_, hn, vs, rk, o, es, ep, ho, hx, hdat, _, hp, _⟩ := dk_of I.hok e
      obtain ⟨r1, r2⟩ := keys_read (h := s.heap) hp rk
      refine ⟨a :: [] ++ [], .dict ho hx.1 hdat ?_ ?_, ?_⟩
      · rw [List.map_map]
        exact r1
      · rw [List.map_map]
        exact r2
      · intro z
        have z' : sysModules = a := by simpa using z
        rw [← z'] at hn
        exact absurd hn (by decide)
    | _ => cases hd
theorem DqA.reads (I : Inv X pins σ H s) : ∀ (ds : List PyData) (vs : List V) (us : List Value), DqA H vs ds → Vals vs us → ∃ as, ReadsAll s.heap us ds as ∧ sysModules ∉ as
  | [], _, _, h, r => by
    cases h
    cases r
    exact ⟨_, .nil, by simp⟩
  | d :: ds, _, _, h, r => by
    cases h with
    | cons h1 h2 =>
      cases r with
      | cons r1 r2 =>
        obtain ⟨as, q1, n1⟩ := Dq.reads I d _ _ h1 r1
        obtain ⟨bs, q2, n2⟩ := DqA.reads I ds _ _ h2 r2
        exact ⟨_, .cons q1 q2, fun z => (List.mem_append.mp z).elim n1 n2⟩
end
end
section
variable {X : Cx}
/-- what can be shown with room to spare -/
structure Shw (d : PyData) : Prop where
  sh : d.showable = true
  dp : d.depth ≤ 8
  sz : d.shown.length ≤ 20000
  st : ∀ y : Str, d = .str y → y.length ≤ 20000
theorem Shw.line {d : PyData} (h : Shw d) : d.shown.length ≤ sizeLine := Nat.le_trans h.sz (by decide)
/-- repr(x) -/
theorem call_repr (hg : X.A.guards = some []) (hu : X.A.units + 64 < cLine) : CallR X (.builtin "repr") (fun xs H Q => ∃ v d, xs = [v] ∧ Dq H v d ∧ Shw d ∧ (∃ a, v = .ref a) ∧ Q (.str d.shown) H) := by
  intro pins s σ H xs us Q I r h
  obtain ⟨v, d, rfl, hd, hs, ⟨a, rfl⟩, q⟩ := h
  obtain ⟨u, rfl, ru⟩ := vals1 r
  obtain ⟨as, rd, n⟩ := Dq.reads I d _ u hd ru
  cases ru
  have z := hs.dp
  refine repr_of_reads' rd hs.sh (fun _ => n) hg (by omega) (fun _ _ e => e) (fun h' u tk k => ⟨.str d.shown, H, I.kept (t' := tk) fun b o e => k b o e, ⟨_, rfl⟩, q⟩) hs.line
/-- {x} in an f-string -/
def tFmtD (te : TE) : TE := fun σ H Q => te σ H fun x H1 => ∃ d, Dq H1 x d ∧ Shw d ∧ ∀ y : Str, y.length ≤ 20000 → Q (.str y) H1
theorem pe_fmtD {e : Expr} {te : TE} {pos : Pos} (hg : X.A.guards = some []) (hu : X.A.units + 64 < cLine) (he : PE X e te) : PE X (.FormattedValue e (-1) none pos) (tFmtD te) := by
  refine ⟨fun pins s σ H Q I h => ?_⟩
  refine wpAny_FormattedValue_plain (thn (he.run pins s σ H _ I h) fun v s1 hv => ?_)
  obtain ⟨x, H1, I1, r1, d, hd, hs, q⟩ := hv
  have hz := hs.sz
  have hl := hs.line
  have hp := hs.dp
  cases hd with
  | non =>
    cases r1
    exact wpAny_formatField_none ⟨.str "None", H1, I1.tok _, ⟨_, rfl⟩, q _ hz⟩
  | bl b =>
    cases r1
    exact wpAny_formatField_bool ⟨.str (if b then "True" else "False"), H1, I1.tok _, ⟨_, rfl⟩, q _ (by cases b <;> decide)⟩
  | int i =>
    obtain ⟨t, rfl⟩ := r1
    have hb : i.natAbs.log2 < 1920 := of_decide_eq_true hs.sh
    exact wpAny_formatField_int hb ⟨.str (toString i), H1, I1.tok _, ⟨_, rfl⟩, q _ hz⟩
  | str y =>
    obtain ⟨t, rfl⟩ := r1
    have hy : y.length ≤ 20000 := hs.st y rfl
    exact wpAny_formatField_str ⟨.str y, H1, I1, ⟨t, rfl⟩, q _ hy⟩ ⟨.str y, H1, I1.tok _, ⟨_, rfl⟩, q _ hy⟩ (Nat.le_trans hy (by decide))
  | lst e n ha =>
    obtain ⟨as, rd, n'⟩ := Dq.reads I1 _ _ v (.lst e n ha) r1
    cases r1
    exact formatField_of_reads rd hs.sh (fun _ => n') hg (by omega) (fun _ _ e => e) (fun h' u tk k => ⟨.str _, H1, I1.kept (t' := tk) fun b o e => k b o e, ⟨_, rfl⟩, q _ hz⟩) hl
  | tup e ha =>
    obtain ⟨as, rd, n'⟩ := Dq.reads I1 _ _ v (.tup e ha) r1
    cases r1
    exact formatField_of_reads rd hs.sh (fun _ => n') hg (by omega) (fun _ _ e => e) (fun h' u tk k => ⟨.str _, H1, I1.kept (t' := tk) fun b o e => k b o e, ⟨_, rfl⟩, q _ hz⟩) hl
  | dct e =>
    obtain ⟨as, rd, n'⟩ := Dq.reads I1 _ _ v (.dct e) r1
    cases r1
    exact formatField_of_reads rd hs.sh (fun _ => n') hg (by omega) (fun _ _ e => e) (fun h' u tk k => ⟨.str _, H1, I1.kept (t' := tk) fun b o e => k b o e, ⟨_, rfl⟩, q _ hz⟩) hl
/-- a list display, with one word more on its place -/
def tLstN (t : TA) : TE := fun σ H Q => t σ H fun xs H1 => xs.length ≤ sizeLine ∧ ∀ p, H1 p = none → p ≠ sysModules → Q (.ref p) (upd H1 p (.lst xs))
theorem pe_lstN {es : List Expr} {t : TA} {pos : Pos} (h : PA X es t) : PE X (.List es pos) (tLstN t) := by
  refine ⟨fun pins s σ H Q I hq => wpAny_List_spliced (thn (h.run pos pins s σ H _ I hq) fun us s1 hh => ?_)⟩
  obtain ⟨xs, H1, I1, r, z, q⟩ := hh
  have new : ObjOk X.prog X.w (upd H1 s1.heap.objs.size (.lst xs)) (s1.heap.push { cls := .type "list", data := .seq us.toArray }) s1.heap.objs.size (.lst xs) := ⟨z, us, 0, r, Heap.get?_push_size _ rfl⟩
  exact ⟨by rw [← r.length]; exact z, .ref s1.heap.objs.size, _, I1.laid (t' := s1.toks) (fun b u e => Heap.get?_push_of_some _ e) (Nat.le_refl _) new, rfl, q _ (I1.hok.fresh (Nat.le_refl _)) (Nat.ne_of_gt I1.big)⟩
/-- list + list, likewise -/
def rCatN : R2 := fun x y H Q => ∃ l b xs zs, x = .ref l ∧ y = .ref b ∧ H l = some (.lst xs) ∧ H b = some (.lst zs) ∧ xs.length + zs.length ≤ sizeLine ∧ ∀ p, H p = none → p ≠ sysModules → Q (.ref p) (upd H p (.lst (xs ++ zs)))
theorem op_catN : OpR X (binaryOp .Add) rCatN := by
  intro pins s σ H x y v u Q I rx ry h
  obtain ⟨l, b, xs, zs, rfl, rfl, hH, hB, hz, q⟩ := h
  cases rx
  cases ry
  obtain ⟨z, its, n, r, hl, e⟩ := I.lstM hH
  obtain ⟨z2, its2, n2, r2, hl2, e2⟩ := I.lstM hB
  refine PySem.P.add_list e e2 ?_ (by simp only [List.size_toArray]; omega)
  rw [show its.toArray ++ its2.toArray = (its ++ its2).toArray by simp]
  exact ⟨.ref s.heap.objs.size, _, I.lnew (t' := s.toks) (r.append r2) (by simp only [List.length_append]; omega), rfl, q _ I.fresh (Nat.ne_of_gt I.big)⟩
end
end KG

set_option Elab.async false
set_option linter.all false
set_option maxRecDepth 100000
set_option maxHeartbeats 4000000
/-! ### Own exceptions as values: made by place or by names, over any built-in base -/
namespace KG
open PySem PySem.Spec PyProof.Rows L2 PySem.HandSPX
section
variable {prog : Program} {w : World} {A : Around} {E : Value → Shared → Prop} {R : Result → Shared → Prop} {h : Heap} {g : Array GenState} {d : Drawn} {t : Nat} {os : OsState}
variable {nm q : Str} {C N : Addr} {bs bm bmB : List Value} {hdct : Bool} {sn : List Str} {sub : List Value} {ab : Bool} {col : Option Bool} {dd : Option Addr} {k0 k1 k2 k3 k5 : Option Value} {B newId initId : String}
theorem checkK (F : ExcBaseFacts B newId initId bmB) (hT : ∀ X : String, bm.contains (.type X) = bmB.contains (.type X)) {kw : List (Str × Value)} {Q : Unit → Shared → Prop} {M : Model}
    (hC : h.get? C = some (excClassObj nm q C N bs bm hdct sn sub ab col dd k0 k1 k2 k3 k5 newId)) (hq : Q () ⟨h, g, d, t, os⟩) : wpAny M A (checkBuiltinCall newId ⟨[.ref C], kw⟩) Q E ⟨h, g, d, t, os⟩ := by
  have own : (Value.ref C :: bm).contains (.type B) = true := by rw [List.contains_cons, hT, F.hasB, Bool.or_true]
  have star := F.noStar
  simp only [checkBuiltinCall, F.newKind, F.newSplit, F.newRow]
  repeat (first | refine wpAny_loadPart_at hC ?_ | (refine wpAny_isSubtype_exc hC ?_; rw [own]) | refine wpAny_staticBase_exc hC ?_ | refine wpAny_madeBy_exc hC ?_ | simp only [bne_self_eq_false, Bool.false_eq_true, if_false] | wp_step)
  exact hq
theorem newK (F : ExcBaseFacts B newId initId bmB) (hT : ∀ X : String, bm.contains (.type X) = bmB.contains (.type X)) {kw : List (Str × Value)}
    (hC : h.get? C = some (excClassObj nm q C N bs bm hdct sn sub ab col dd k0 k1 k2 k3 k5 newId))
    (hq : R (.ok (.ret (.ref (h.objs.size + 1)))) ⟨(h.push (PySem.W.kdv_tup [])).push (excO C h.objs.size), g, d, t, os⟩) :
    codeAny (model prog w) A (.builtin newId ⟨[.ref C], kw⟩) R ⟨h, g, d, t, os⟩ := by
  have ends := F.ends
  have c1 : (Value.ref C :: bm).contains (.type B) = true := by rw [List.contains_cons, hT, F.hasB, Bool.or_true]
  have c2 : (Value.ref C :: bm).contains (.type "AttributeError") = false := by rw [List.contains_cons, hT, F.noAttr]; rfl
  have c3 : (Value.ref C :: bm).contains (.type "NameError") = false := by rw [List.contains_cons, hT, F.noName]; rfl
  refine codeAny_builtinAt F.entry ?_
  unfold Builtin.«BaseException.__new__»
  refine PySem.wpAt_bind ?_
  show PySem.wpAt _ _ _ (stack >>= _) _ _ _
  refine PySem.wpAt_bind (PySem.wpAt_stack fun p below => PySem.wpAt_of_wpAny ?_)
  wp_walk
  refine PySem.wpAt_of_wpAny ?_
  rw [F.owner]
  repeat (first | with_reducible refine wpAny_madeHere_exc F.canon hC ?_ | with_reducible refine wpAny_loadPart_at hC ?_ | (with_reducible refine wpAny_isSubtype_exc hC ?_; first | rw [c1] | rw [c2] | rw [c3]) | wp_step)
  show R _ _
  rw [Heap.size_push]
  exact hq
theorem typeCallK (F : ExcBaseFacts B newId initId bmB) (hT : ∀ X : String, bm.contains (.type X) = bmB.contains (.type X)) {kw : List (Str × Value)} {fI : Addr} {Q : Fin → Shared → Prop}
    (hC : h.get? C = some (excClassObj nm q C N bs bm hdct sn sub ab col dd k0 k1 k2 k3 k5 newId))
    (hi : PySem.W.Looks (model prog w) h (typeLookup (.ref C) "__init__") (some (.ref fI))) (hb : ∀ self, PySem.W.Looks (model prog w) h (bindSpecial (.ref fI) self) (.ref fI, [self]))
    (hq : codeAny (model prog w) A (.call (.ref fI) ⟨[.ref (h.objs.size + 1)], kw⟩)
      (fun r s' => match r with | .ok (.ret v) => v = .none ∧ Q (.done (.ret (.ref (h.objs.size + 1)))) s' | .ok _ => False | .error e => E e s')
      ⟨(h.push (PySem.W.kdv_tup [])).push (excO C h.objs.size), g, d, t, os⟩) :
    wpAny (model prog w) A (Builtin.«type.__call__» ⟨[.ref C], kw⟩) Q E ⟨h, g, d, t, os⟩ := by
  repeat (first | with_reducible refine wpAny_loadPart_at hC ?_ | with_reducible refine wpAny_madeBy_exc hC ?_ | wp_step)
  refine codeAny_call_builtin_code (Code.quiet_builtin _ F.quiet) (checkK F hT hC ?_)
  refine newK F hT hC ?_
  show wpAny _ _ _ _ _ _
  have keep : ∀ b o, h.get? b = some o → ((h.push (PySem.W.kdv_tup [])).push (excO C h.objs.size)).get? b = some o := fun b o e => Heap.get?_push_of_some _ (Heap.get?_push_of_some _ e)
  have here : ((h.push (PySem.W.kdv_tup [])).push (excO C h.objs.size)).get? (h.objs.size + 1) = some (excO C h.objs.size) := by heap_get
  have cC : (Value.ref C :: bm).contains (.ref C) = true := by simp
  have hC1 := keep _ _ hC
  unfold isInstance
  repeat (first | with_reducible refine wpAny_loadPart_at here ?_ | (with_reducible refine wpAny_isSubtype_exc hC1 ?_; rw [cC]) | wp_step)
  show wpAny _ _ (typeLookup (.ref C) _) _ _ _
  refine (hi.keeps keep).at ?_
  refine wpAny_holding (wpAny_bind (((hb (.ref (h.objs.size + 1))).keeps keep).at ?_))
  refine wpAny_bind (wpAny_call (codeAny_mono hq fun r s' z => ?_))
  rcases r with e | (v | _ | _ | _) <;> first | exact z | exact z.elim | skip
  obtain ⟨rfl, z⟩ := z
  first
    | exact wpAny_pure (wpAny_pure z)
    | (wp_walk; exact z)
theorem callK (F : ExcBaseFacts B newId initId bmB) (hT : ∀ X : String, bm.contains (.type X) = bmB.contains (.type X)) {kw : List (Str × Value)} {fI : Addr}
    (hC : h.get? C = some (excClassObj nm q C N bs bm hdct sn sub ab col dd k0 k1 k2 k3 k5 newId))
    (hi : PySem.W.Looks (model prog w) h (typeLookup (.ref C) "__init__") (some (.ref fI))) (hb : ∀ self, PySem.W.Looks (model prog w) h (bindSpecial (.ref fI) self) (.ref fI, [self]))
    (hq : codeAny (model prog w) (A.under (.builtin "type.__call__" ⟨[.ref C], kw⟩)) (.call (.ref fI) ⟨[.ref (h.objs.size + 1)], kw⟩) (PySem.W.InitBack (h.objs.size + 1) R)
      ⟨(h.push (PySem.W.kdv_tup [])).push (excO C h.objs.size), g, d, t, os⟩) :
    codeAny (model prog w) A (.call (.ref C) ⟨[], kw⟩) R ⟨h, g, d, t, os⟩ := by
  have f1 := tc_lookup
  have f2 := tc_bind (.ref C)
  have ty : (⟨h, g, d, t, os⟩ : Shared).TypeIs (.ref C) "type" := ⟨_, hC, rfl⟩
  refine codeAny_of_tree ?_
  show wpAny _ _ (callAny (.ref C) _) _ _ _
  repeat (any_goals (first | assumption | with_reducible refine wpAny_loadPart_at hC ?_ | wp_step))
  refine ⟨rfl, codeAny_call_builtin_at (Code.quiet_builtin _ (by decide +kernel)) entry_typeCall ?_⟩
  refine wpAny_check_type_call_sub hC (typeCallK F hT hC hi hb ?_)
  refine codeAny_mono hq fun r s' z => ?_
  rcases r with e | (v | _ | _ | _) <;> exact z
end
end KG

set_option Elab.async false
set_option linter.all false
set_option maxRecDepth 100000
set_option maxHeartbeats 4000000
/-! ### Own exceptions as values: the rules -/
namespace KG
open PySem PySem.Spec PyProof.Rows L2 PySem.HandSPX
open Builtin Builtin.ObjectAttr
/-- what the written part says of an own exception class over a built-in one -/
structure XB (K : PySem.W.Frag) (C : Addr) (newId : String) (bmB : List Value) : Prop where
  cls : ∃ nm q N bs bm sn sub ab col dd k0 k1 k2 k3 k5, K.lookup C = some (excClassObj nm q C N bs bm true sn sub ab col dd k0 k1 k2 k3 k5 newId) ∧ PySem.W.excTail bmB bm = true
  sa : PySem.W.findIn K (.ref C) "__setattr__" = some (some (.builtin "object.__setattr__"))
  ov : PySem.W.excOver K C bmB = true
  hd : PySem.W.hasDictIn K C = true
  kC : PySem.W.keepIn K (.ref C) = true
section
variable {prog : Program} {w : World} {A : Around} {R : Result → Shared → Prop} {hp : Heap} {g : Array GenState} {d : Drawn} {t : Nat} {os : OsState} {K : PySem.W.Frag} {B : String} {bmB : List Value}
theorem gosa {name : Str} {tk : Tok} {v : Value} {x C : Addr} {fv : Array Value} (SF : StoreFacts B bmB "object.__setattr__" "object") (X : K.In hp) (hx : hp.get? x = some { cls := .ref C, data := .fields fv })
    (hov : PySem.W.excOver K C bmB = true) (hh : PySem.W.hasDictIn K C = true) (ht : PySem.W.takerIn K C name = some none)
    (hq : ∀ h' tk' dx, (∀ b o, b ≠ x → hp.get? b = some o → h'.get? b = some o) → hp.objs.size ≤ dx → dx ≠ x → h'.get? x = some { cls := .ref C, dict := some dx, data := .fields fv } →
      h'.Ns1 dx (fun y => if y = name then some v else none) → R (.ok (.ret .none)) ⟨h', g, d, tk', os⟩) :
    codeAny (model prog w) A (.call (.builtin "object.__setattr__") ⟨[.ref x, .str name tk, v], []⟩) R ⟨hp, g, d, t, os⟩ := by
  have xs : x ≠ hp.objs.size := Nat.ne_of_lt (Heap.lt_size hx)
  obtain ⟨cd, hcd, hd⟩ := PySem.W.any_some hh
  refine PySem.W.osa_openX (od := none) SF X ⟨hx, rfl, rfl, trivial⟩ hov ht fun b => ?_
  have hcls : PySem.W.Looks (model prog w) hp (classData C) cd := PySem.W.looks_clsIn X hcd
  show wpAny _ _ (storeInOwnDict (.ref x) (.ref C) (.str name tk) name v b) _ _ _
  obtain ⟨nm, bs, mro, ns, qn, hd', sn, sb, ab, col, del⟩ := cd
  dsimp only at hd
  subst hd
  unfold storeInOwnDict ownDictForStores
  repeat (first | with_reducible refine store_in_new ?_ ?_ | with_reducible refine wpAny_loadPart_at hx ?_ | with_reducible refine hcls.at ?_ | wp_step)
  · exact ⟨_, #[], _, (Heap.get?_update_ne _ _ _ _ xs.symm).trans (Heap.get?_push_at rfl rfl), rfl, fun e he => absurd he (by simp), fun _ => rfl⟩
  · intro h' tk' hn' hs
    have hx1 : (hp.push { cls := .type "dict", data := .dict #[] }).get? x = some { cls := .ref C, data := .fields fv } := Heap.get?_push_of_some _ hx
    refine hq h' tk' hp.objs.size (fun b o hb ho => (hs.2 b (Nat.ne_of_lt (Heap.lt_size ho))).trans ((Heap.get?_update_ne _ _ _ _ hb).trans (Heap.get?_push_of_some _ ho))) (Nat.le_refl _) xs.symm ((hs.2 x xs).trans (Heap.get?_update_self _ hx1 rfl)) hn'
end
section
variable {X : Cx} {pins : List (Addr × Obj)} {σ : L2.St} {H : Hp} {s : Shared} {a C : Addr} {f : Str} {y : V} {u : Value} {E : Value → Shared → Prop} {A : Around} {B newId initId : String} {bmB : List Value}
/-- self.f = y, the first field -/
theorem gst_new {Q : Unit → Shared → Prop} (T : XB X.K C newId bmB) (SF : StoreFacts B bmB "object.__setattr__" "object") (I : Inv X pins σ H s) (e : H a = some (exo a C none)) (ht : PySem.W.takerIn X.K C f = some none) (ry : RelV y u)
    (h : ∀ dx s', H dx = none → dx ≠ a → Inv X pins σ (upd (upd H dx (exd dx [(f, y)])) a (exo a C (some dx))) s' → Q () s') : wpAny (model X.prog X.w) A (setAttr (.ref a) f u) Q E s := by
  obtain ⟨t1, ho⟩ := exo_at I.hok e
  obtain ⟨hp, g, d, t, os⟩ := s
  refine PySem.W.set_plain I.kIn (ox := { cls := .ref C, dict := none, data := .fields #[.ref t1, .none, .none, .none, .bool false, .none] }) (od := none) ⟨ho, rfl, rfl, trivial⟩ T.sa ?_
  refine gosa SF I.kIn ho T.ov T.hd ht fun h' tk' dx k dn dne hx hn => ?_
  have free : H dx = none := I.hok.fresh dn
  have offd : ∀ {b : Addr} {o : Obj}, hp.get? b = some o → b ≠ dx := fun q => Nat.ne_of_lt (Nat.lt_of_lt_of_le (Heap.lt_size q) dn)
  have offa : ∀ {b : Addr}, H b = none → b ≠ a := fun n z => by
    rw [z, e] at n
    cases n
  have same : ∀ {b : Addr} {o : HO}, H b = some o → b ≠ a → (upd (upd H dx (exd dx [(f, y)])) a (exo a C (some dx))) b = some o := fun q hb => by
    rw [upd_ne hb, upd_ne (ne_of_none q free)]
    exact q
  have U : Un X.fs [] H (upd (upd H dx (exd dx [(f, y)])) a (exo a C (some dx))) hp h' :=
    ⟨fun b o q n _ _ => k b o (offa n) q, fun b o q n _ _ => ⟨o.slots, k b o (offa n) q⟩, fun b o q n _ => by rw [upd_ne (offa n), upd_ne (offd q)]; exact n,
      fun b o q _ => (Classical.em (b = a)).elim (fun hb => ⟨_, hb ▸ hx⟩) fun hb => ⟨o, k b o hb q⟩,
      fun b xs q => same q (at_ne e q exo_tup), fun b o v q => same q (at_ne e q exo_frz), fun b ps q => ⟨#[], by rw [same q (at_ne e q exo_tbl)]; simp⟩⟩
  refine h dx _ free dne (I.un (t' := tk') U fun b o q => ?_)
  by_cases hb : b = a
  · subst hb
    rw [upd_same] at q
    cases q
    exact exo_ok hx
  rw [upd_ne hb] at q
  by_cases hd : b = dx
  · subst hd
    rw [upd_same] at q
    cases q
    exact exd_ok hn (relO_put (fs := []) ry fun g => True.intro)
  rw [upd_ne hd] at q
  exact (I.hok b o q).stay (fun c v hc z => k c v (hc.elim (fun hc => hc ▸ hb) fun hc => at_ne e hc exo_own) z) (fun c hc => same hc (at_ne e hc exo_own)) fun c xs hc => same hc (at_ne e hc exo_tup)
/-- B.__init__(self, ..) -/
theorem ginit {us : List Value} {Q : Value → Shared → Prop} (F : ExcBaseFacts B newId initId bmB) (T : XB X.K C newId bmB) (I : Inv X pins σ H s) (e : H a = some (exo a C none)) (hl : us.length ≤ sizeLine) (h : ∀ s', Inv X pins σ H s' → Q .none s') :
    wpAny (model X.prog X.w) A (call (.builtin initId) (.ref a :: us)) Q E s := by
  obtain ⟨nm, q, N, bs, bm, sn, sub, ab, col, dd, k0, k1, k2, k3, k5, hC, hbm⟩ := T.cls
  obtain ⟨t1, ho⟩ := exo_at I.hok e
  obtain ⟨hp, g, d, t, os⟩ := s
  refine wpAny_call (PySem.HandSPX.init_base F (fun Y => PySem.W.excTail_contains Y bm hbm) (I.kIn _ _ hC) ho hl fun h' t2 k hx => h _ ?_)
  have J := I.write (t' := t) (x := a) (e := a) (o := exo a C none) (by rw [e]; exact True.intro) (.inl rfl) k ⟨_, hx⟩ (exo_ok hx)
  rwa [show upd H a (exo a C none) = H from funext fun b => (Classical.em (b = a)).elim (fun hb => by rw [hb, upd_same, e]) fun hb => upd_ne hb] at J
end
end KG

set_option Elab.async false
set_option linter.all false
set_option maxRecDepth 100000
set_option maxHeartbeats 4000000
namespace KG
open PySem PySem.Spec PyProof.Rows L2 PySem.HandSPX
/-- B.__init__(self, ..), of whatever class it is read -/
def tBI (K : PySem.W.Frag) (newId : String) (bmB : List Value) (ta : TA) : TE := fun σ H Q => ta σ H fun vs H1 => ∃ (a C : Addr) (ws : List V), vs = .ref a :: ws ∧ ws.length ≤ 1000 ∧ XB K C newId bmB ∧ H1 a = some (exo a C none) ∧ Q .non H1
/-- self.f = e, the first field -/
def tGst (K : PySem.W.Frag) (newId : String) (bmB : List Value) (f : Str) (to te : TE) : TS := fun D σ H => te σ H fun y H1 => to σ H1 fun x H2 => ∃ a C : Addr, x = .ref a ∧ XB K C newId bmB ∧ PySem.W.takerIn K C f = some none ∧
  H2 a = some (exo a C none) ∧ ∀ dx, H2 dx = none → dx ≠ a → D.nx σ (upd (upd H2 dx (exd dx [(f, y)])) a (exo a C (some dx)))
/-- C(e, ..) as a value -/
def tXv (C : Addr) (sp : Sp) (ta : TA) : TE := fun σ H Q => ta σ H fun vs H1 => vs.length ≤ 1000 ∧ ∀ a, H1 a = none → sp (.ref a :: vs) (upd H1 a (exo a C none)) (fun v H2 => v = .non ∧ Q (.ref a) H2) E0
/-- C(k = v, ..) as a value: perm puts the keywords' values into the order of the parameters -/
def tXk (C : Addr) (n : Nat) (perm : List V → List V) (sp : Sp) (tk : TA) : TE := fun σ H Q => tk σ H fun zs H1 => zs.length = n ∧ ∀ a, H1 a = none → sp (.ref a :: perm zs) (upd H1 a (exo a C none)) (fun v H2 => v = .non ∧ Q (.ref a) H2) E0
/-- e.f of such a value -/
def tXat (K : PySem.W.Frag) (f : Str) (te : TE) : TE := fun σ H Q => te σ H fun x H1 => ∃ (a C d : Addr) (fs : List (Str × V)) (v : V), x = .ref a ∧ H1 a = some (exo a C (some d)) ∧ H1 d = some (exd d fs) ∧ ExcC K C ∧ PySem.W.findIn K (.ref C) f = some none ∧ fs.lookup f = some v ∧ Q v H1
section
variable {X : Cx} {o e : Expr} {es : List Expr} {kws : List Keyword} {to te : TE} {ta tk : TA} {f x : Str} {p p' p1 p2 pos : Pos} {B newId initId : String} {bmB : List Value}
theorem after_init {pins : List (Addr × Obj)} {s1 : Shared} {σ : L2.St} {H1 : Hp} {Q : VK} {us : List Value} {vs : List V} {a C : Addr} {ws : List V} (F : ExcBaseFacts B newId initId bmB) (I1 : Inv X pins σ H1 s1) (r1 : Vals vs us) (ev : vs = .ref a :: ws) (hl : ws.length ≤ 1000) (T : XB X.K C newId bmB) (ea : H1 a = some (exo a C none)) (q : Q .non H1) :
    wpAny (model X.prog X.w) X.A (call (.builtin initId) us) (EP X pins σ Q) X.xe s1 := by
  subst ev
  cases r1 with
  | @cons _ u0 _ ur ra rw' =>
    obtain rfl : u0 = Value.ref a := ra
    have hlen : ur.length ≤ sizeLine := by
      rw [← Paired.length rw', sizeLine_eq]
      omega
    exact ginit F T I1 ea hlen fun s' J => ⟨.non, H1, J, rfl, q⟩
theorem pe_ownInit {F0 : Addr} {pl : Sem Bool} (F : ExcBaseFacts B newId initId bmB) (hg : Gl X x) (hm : X.mg x = some (.ref F0)) (ga : PySem.W.specialIn X.K (.ref F0) "__getattribute__" = some (some (.builtin "type.__getattribute__")))
    (rd : PySem.W.readsIn X.K F0 (.type "type") = true) (fc : PySem.W.findCls X.K (.ref F0) (.type "type") "__init__" = some (.val (.builtin initId))) (hh : PySem.W.handedIn (.builtin initId) = true) (ha : PA X (e :: es) ta)
    (hc : eval (.Call (.Attribute (.Name x p1) "__init__" p2) (e :: es) [] pos) X.env = (do
      let ov ← eval (.Name x p1) X.env
      standAt p2.atName
      let (f, first) ← holding [ov] (getMethod ov "__init__" pl)
      callWith pos f first (backTo pos (starEach (e :: es) X.env)) (backToKw pos (keywordEach [] X.env))) := by rfl)
    (hdb : (x == ("__debug__" : Str)) = false := by decide) (he : starEach (e :: es) X.env = (false, eval e X.env) :: starEach es X.env := by rfl) (hpl : (backTo pos (starEach es X.env)).any (·.1) = false := by rfl) :
    PE X (.Call (.Attribute (.Name x p1) "__init__" p2) (e :: es) [] pos) (tBI X.K newId bmB ta) := by
  refine ⟨fun pins s σ H Q I h => PySem.W.methodCall_KW (ld_glob I hg hm ?_ hdb) hc⟩
  refine PySem.W.method_cls I.kIn ga (PySem.W.cls_value I.kIn rd fc hh ?_)
  show wpAny _ _ (callWith pos (Value.builtin initId) [] (backTo pos (starEach (e :: es) X.env)) []) _ _ _
  refine PyProof.Rows.callWith_method1 (thn (ha.run pos pins _ σ H _ (I.tok _) h) fun us s1 ⟨vs, H1, I1, r1, a, C, ws, ev, hl, T, ea, q⟩ => ?_) he hpl
  exact after_init F I1 r1 ev hl T ea q
theorem typ_OE : typeOf (.type "OverflowError") = pure (.type "type") := by kernel_rfl
theorem pe_oeInit {pl : Sem Bool} (hg : Gl X "OverflowError") (hm : X.mg "OverflowError" = none) (fc : PySem.W.findCls X.K (.type "OverflowError") (.type "type") "__init__" = some (.val (.builtin "OverflowError.__init__"))) (ha : PA X (e :: es) ta)
    (hc : eval (.Call (.Attribute (.Name "OverflowError" p1) "__init__" p2) (e :: es) [] pos) X.env = (do
      let ov ← eval (.Name "OverflowError" p1) X.env
      standAt p2.atName
      let (f, first) ← holding [ov] (getMethod ov "__init__" pl)
      callWith pos f first (backTo pos (starEach (e :: es) X.env)) (backToKw pos (keywordEach [] X.env))) := by rfl)
    (he : starEach (e :: es) X.env = (false, eval e X.env) :: starEach es X.env := by rfl) (hpl : (backTo pos (starEach es X.env)).any (·.1) = false := by rfl) :
    PE X (.Call (.Attribute (.Name "OverflowError" p1) "__init__" p2) (e :: es) [] pos) (tBI X.K "OverflowError.__new__" [.type "OverflowError", .type "ArithmeticError", .type "Exception", .type "BaseException", .type "object"] ta) := by
  refine ⟨fun pins s σ H Q I h => PySem.W.methodCall_KW (ld_blt I hg hm PyProof.Rows.Boot.«OverflowError» ?_ (by decide) (by decide)) hc⟩
  obtain ⟨m, fr⟩ := I.fr
  refine PySem.W.method_type fr I.ok.mod.kin typ_OE (by decide +kernel) fc (by decide +kernel) ?_
  show wpAny _ _ (callWith pos (Value.builtin "OverflowError.__init__") [] (backTo pos (starEach (e :: es) X.env)) []) _ _ _
  refine PyProof.Rows.callWith_method1 (thn (ha.run pos pins _ σ H _ (I.tok _) h) fun us s1 ⟨vs, H1, I1, r1, a, C, ws, ev, hl, T, ea, q⟩ => ?_) he hpl
  exact after_init F.excBase_OverflowError I1 r1 ev hl T ea q
theorem ps_gst (SF : StoreFacts B bmB "object.__setattr__" "object") (ho : PE X o to) (he : PE X e te) (hs : swapsWith e (some (.Attribute o f p')) pos.line X.env = pure false := by rfl) : PS X (.Assign [.Attribute o f p'] e pos) (tGst X.K newId bmB f to te) := by
  refine ⟨fun pins s σ H D I h => ?_⟩
  refine plainObj_wpAny_Assign_Attribute (thn (he.run pins s σ H _ I h) fun v s1 ⟨y, H1, I1, r1, q1⟩ => thn (ho.run pins s1 σ H1 _ I1 q1) fun u s2 ⟨x, H2, I2, r2, a, C, ex, T, ht, ea, q⟩ => ?_) hs
  subst ex
  obtain rfl : u = Value.ref a := r2
  exact gst_new T SF I2 ea ht r1 fun dx s' n ne J => ⟨σ, _, J, q dx n ne⟩
theorem pe_xat (he : PE X e te) (hb : attributeBase e f X.env (eval e X.env) = eval e X.env := by rfl) : PE X (.Attribute e f pos) (tXat X.K f te) := by
  refine ⟨fun pins s σ H Q I h => attr_of hb (thn (he.run pins s σ H _ I h) fun u s1 hh => ?_)⟩
  obtain ⟨x, H1, I1, rx, a, C, d, fs, v, ex, ea, ed, T, hno, hl, q⟩ := hh
  subst ex
  obtain rfl : u = Value.ref a := rx
  obtain ⟨t1, ho⟩ := exo_at I1.hok ea
  obtain ⟨mA, hns, hr⟩ := exd_at I1.hok ed
  obtain ⟨od, hod, hlk⟩ := lookIn_ns hns
  obtain ⟨w', hw, rw'⟩ := RelO.some_of (v := v) (o := mA f) (by rw [← hl]; exact hr f)
  have J : PySem.W.InstAt s1.heap a { cls := .ref C, dict := some d, data := .fields #[.ref t1, .none, .none, .none, .bool false, .none] } C (some od) := ⟨ho, rfl, rfl, hod⟩
  exact PySem.HandSPX.exc_get I1.kIn J T.hg T.hk T.hs (PySem.W.findObj_own T.hd hno rfl (by rw [hlk, hw])) (handed_of rw') ⟨v, H1, I1.tok _, rw', q⟩
/-- isinstance(e, c), e such a value -/
theorem call_isX : CallR X (.builtin "isinstance") (fun xs H Q => ∃ (a C d : Addr) (fs : List (Str × V)) (c : V) (cv : Value) (b : Bool), xs = [.ref a, c] ∧ H a = some (exo a C (some d)) ∧ H d = some (exd d fs) ∧ ExcC X.K C ∧ ClsV c cv ∧ PySem.W.kitOne X.K (.ref C) cv = some b ∧ Q (.bl b) H) := by
  intro pins s σ H xs us Q I r h
  obtain ⟨a, C, d, fs, c, cv, b, rfl, ea, ed, T, k, e, q⟩ := h
  obtain ⟨u1, u2, rfl, r1, r2⟩ := vals2 r
  have e2 := k.eq r2
  subst e2
  obtain rfl : u1 = Value.ref a := r1
  obtain ⟨t1, ho⟩ := exo_at I.hok ea
  obtain ⟨mA, hns, hr⟩ := exd_at I.hok ed
  obtain ⟨od, hod, hlk⟩ := lookIn_ns hns
  have J : PySem.W.InstAt s.heap a { cls := .ref C, dict := some d, data := .fields #[.ref t1, .none, .none, .none, .bool false, .none] } C (some od) := ⟨ho, rfl, rfl, hod⟩
  have cl : (PySem.W.clsIn X.K C).isSome = true := by
    obtain ⟨cd, hc, _⟩ := PySem.W.any_some T.hd
    rw [hc]
    rfl
  exact PySem.W.kia_one (PySem.W.kitx_exc cl T.hg T.hk T.hs T.ha T.hn T.ht T.hm) I.kIn J e (fun z => nomatch z) fun tk => ⟨.bl b, H, I.kept (t' := tk) fun _ _ z => z, rfl, q⟩
/-- the class at C, made with these arguments: the object is laid, then its own __init__ runs -/
theorem run_xv {C fI : Addr} {k : Nat} {fd : FuncData} {ps : List Str} {sp : Sp} {pins : List (Addr × Obj)} {σ : L2.St} {H1 : Hp} {s1 : Shared} {Q : VK} {us bs : List Value} {vs : List V} {kw : List (Str × Value)} (F : ExcBaseFacts B newId initId bmB) (T : XB X.K C newId bmB)
    (iC : PySem.W.findIn X.K (.ref C) "__init__" = some (some (.ref fI))) (tI : PySem.W.typeIn X.K (.ref fI) = some (.type "function")) (F1 : FnG X.prog X.w X.K X.mg X.base k fI fd ps sp) (hgd : X.A.guards = some []) (hr : Room (k + 1) X.A)
    (I1 : Inv X pins σ H1 s1) (hus : us.length ≤ sizeLine) (hk : us = [] ∨ kw = []) (hb : ∀ a : Addr, BindsTo (⟨(s1.heap.push (PySem.W.kdv_tup us)).push (PySem.HandSPX.excO C s1.heap.objs.size), s1.gens, s1.drawn, s1.toks, s1.os⟩ : Shared) fd ⟨.ref a :: us, kw⟩ (ps.zip (.ref a :: bs))) (rb : Vals vs bs)
    (q : ∀ a, H1 a = none → sp (.ref a :: vs) (upd H1 a (exo a C none)) (fun v H2 => v = .non ∧ Q (.ref a) H2) E0) :
    wpAny (model X.prog X.w) X.A (call (.ref C) us kw) (EP X pins σ Q) X.xe s1 := by
  obtain ⟨nm, qn, N, bs', bm, sn, sub, ab, col, dd, k0, k1, k2, k3, k5, hC, hbm⟩ := T.cls
  obtain ⟨hp, g, dr, tk, os⟩ := s1
  have sz : hp.objs.size ≤ hp.objs.size + 1 := Nat.le_succ _
  have kk : ∀ b o, hp.get? b = some o → ((hp.push (PySem.W.kdv_tup us)).push (PySem.HandSPX.excO C hp.objs.size)).get? b = some o := fun b o e => Heap.get?_push_of_some _ (Heap.get?_push_of_some _ e)
  have here : ((hp.push (PySem.W.kdv_tup us)).push (PySem.HandSPX.excO C hp.objs.size)).get? (hp.objs.size + 1) = some (PySem.HandSPX.excO C hp.objs.size) := by heap_get
  have I2 : Inv X pins σ (upd H1 (hp.objs.size + 1) (exo (hp.objs.size + 1) C none)) ⟨(hp.push (PySem.W.kdv_tup us)).push (PySem.HandSPX.excO C hp.objs.size), g, dr, tk, os⟩ := I1.laid (t' := tk) kk sz (exo_ok here)
  have hq := q (hp.objs.size + 1) (I1.hok.fresh sz)
  have fin : ∀ (A' : Around), A'.guards = some [] → Room k A' → Env0 X.prog X.w X.K X.mg X.base A' X.stack ⟨(hp.push (PySem.W.kdv_tup us)).push (PySem.HandSPX.excO C hp.objs.size), g, dr, tk, os⟩ (upd H1 (hp.objs.size + 1) (exo (hp.objs.size + 1) C none)) →
      codeAny (model X.prog X.w) A' (.call (.ref fI) ⟨.ref (hp.objs.size + 1) :: us, kw⟩) (PySem.W.InitBack (hp.objs.size + 1) fun r s' => match r with | .ok (.ret v) => EP X pins σ Q v s' | .ok _ => False | .error e => X.xe e s')
        ⟨(hp.push (PySem.W.kdv_tup us)).push (PySem.HandSPX.excO C hp.objs.size), g, dr, tk, os⟩ := fun A' g1 g2 g3 => by
    refine codeAny_mono (F1.run A' X.stack _ _ ⟨Value.ref (hp.objs.size + 1) :: us, kw⟩ (Value.ref (hp.objs.size + 1) :: bs) (V.ref (hp.objs.size + 1) :: vs) _ E0 g1 g2 g3 (hb _) (.cons rfl rb) hq) fun r s' hq' => ?_
    cases r with
    | error er => exact pass0 pins σ _ _ er s' I2 hq'
    | ok fl => cases fl with
      | ret u =>
        obtain ⟨v, H2, I3, rv, ev, q2⟩ := I2.after hq'
        subst ev
        exact ⟨rv, .ref (hp.objs.size + 1), H2, I3, rfl, q2⟩
      | next => exact hq'.elim
      | brk => exact hq'.elim
      | cont => exact hq'.elim
  have hT : ∀ Y : String, bm.contains (.type Y) = bmB.contains (.type Y) := fun Y => PySem.W.excTail_contains Y bm hbm
  have look := PySem.W.looks_findIn (M := model X.prog X.w) I1.kIn iC
  rcases hk with e | e
  · subst e
    exact wpAny_call (callK F hT (I1.kIn _ _ hC) look (fun self => PySem.W.bind_fn I1.kIn self tI) (fin _ hgd (hr.make C [] kw) (I2.env0.make C [] kw)))
  · subst e
    exact wpAny_call (PySem.HandSPX.call_own F hT (I1.kIn _ _ hC) look (fun self => PySem.W.bind_fn I1.kIn self tI) hus (fin _ hgd (hr.make C us []) (I2.env0.make C us [])))
theorem pe_xv {C fI : Addr} {k : Nat} {fd : FuncData} {ps : List Str} {sp : Sp} (F : ExcBaseFacts B newId initId bmB) (T : XB X.K C newId bmB) (iC : PySem.W.findIn X.K (.ref C) "__init__" = some (some (.ref fI))) (tI : PySem.W.typeIn X.K (.ref fI) = some (.type "function"))
    (F1 : FnG X.prog X.w X.K X.mg X.base k fI fd ps sp) (hgd : X.A.guards = some []) (hr : Room (k + 1) X.A) (hb : Binds X.K fd ps []) (hg : Gl X x) (hm : X.mg x = some (.ref C)) (ha : PA X (e :: es) ta)
    (hdb : (x == ("__debug__" : Str)) = false := by decide) (he : starEach (e :: es) X.env = (false, eval e X.env) :: starEach es X.env := by rfl) (hpl : (backTo pos (starEach es X.env)).any (·.1) = false := by rfl) :
    PE X (.Call (.Name x p) (e :: es) [] pos) (tXv C sp ta) := by
  refine ⟨fun pins s σ H Q I h => wpAny_Call_Name_kw (ld_glob I hg hm ?_ hdb)⟩
  refine PySem.W.callWith_K (h₀ := X.base) I.ok.mod.kin T.kC (thn (ha.run pos pins s σ H _ I h) fun us s1 ⟨vs, H1, I1, r1, hz, q⟩ => ⟨I1.kIn, ?_⟩) he hpl
  have hlen : (us.length : Nat) ≤ sizeLine := by
    rw [← Paired.length r1, sizeLine_eq]
    omega
  refine run_xv F T iC tI F1 hgd hr I1 hlen (.inr rfl) (fun a => ?_) r1 q
  have hl : (Value.ref a :: us).length = ps.length := by
    have e1 := F1.len _ _ _ _ (q _ (I1.hok.fresh (Nat.le_refl _)))
    have e2 := Paired.length r1
    rw [List.length_cons] at e1 ⊢
    omega
  have z := hb (⟨(s1.heap.push (PySem.W.kdv_tup us)).push (PySem.HandSPX.excO C s1.heap.objs.size), s1.gens, s1.drawn, s1.toks, s1.os⟩ : Shared) (Value.ref a :: us) (I1.kIn.keeps fun b o e => Heap.get?_push_of_some _ (Heap.get?_push_of_some _ e)) (by simpa using hl)
  simpa using z
/-- made by names -/
theorem pe_xk {C fI : Addr} {k : Nat} {fd : FuncData} {ps ks : List Str} {sp : Sp} {permV : List V → List V} {permU : List Value → List Value} (F : ExcBaseFacts B newId initId bmB) (T : XB X.K C newId bmB) (iC : PySem.W.findIn X.K (.ref C) "__init__" = some (some (.ref fI))) (tI : PySem.W.typeIn X.K (.ref fI) = some (.type "function"))
    (F1 : FnG X.prog X.w X.K X.mg X.base k fI fd ps sp) (hgd : X.A.guards = some []) (hr : Room (k + 1) X.A) (hrel : ∀ zs ws, zs.length = ks.length → Vals zs ws → Vals (permV zs) (permU ws))
    (hb : ∀ (s : Shared) (v0 : Value) (ws : List Value), ws.length = ks.length → BindsTo s fd ⟨[v0], ks.zip ws⟩ (ps.zip (v0 :: permU ws))) (hg : Gl X x) (hm : X.mg x = some (.ref C)) (hkw : PK X kws tk)
    (hall : (backToKw pos (keywordEach kws X.env)).all (·.1.isSome) = true := by rfl) (hks : (backToKw pos (keywordEach kws X.env)).filterMap (·.1) = ks := by rfl) (hdb : (x == ("__debug__" : Str)) = false := by decide)
    (hpl : ((backTo pos (starEach [] X.env)).any (·.1) || (backToKw pos (keywordEach kws X.env)).any (·.1.isNone)) = false := by rfl) :
    PE X (.Call (.Name x p) [] kws pos) (tXk C ks.length permV sp tk) := by
  refine ⟨fun pins s σ H Q I h => wpAny_Call_Name_kw (ld_glob I hg hm ?_ hdb)⟩
  refine PySem.W.callWith_KW0 (h₀ := X.base) I.ok.mod.kin T.kC hall ?_ hpl
  refine thn (hkw.run pos pins s σ H _ I h) fun ws s2 ⟨zs, H2, I2, rz, l1, q2⟩ => ⟨I2.kIn, ?_⟩
  rw [hks]
  refine run_xv (us := []) F T iC tI F1 hgd hr I2 (Nat.zero_le _) (.inl rfl) (fun a => hb _ _ ws ?_) (hrel zs ws l1 rz) q2
  rw [← l1]
  exact rz.length.symm
end
end KG

set_option Elab.async false
set_option linter.all false
set_option maxRecDepth 100000
set_option maxHeartbeats 4000000
/-! ### Defs that raise, called where no repr is under way; raising an own exception -/
namespace KG
open PySem PySem.Spec PyProof.Rows L2 PySem.HandSPX
structure FnX (P : Program) (w : World) (K : PySem.W.Frag) (mg : Str → Option Value) (base : Heap) (k : Nat) (f : Addr) (fd : FuncData) (ps : List Str) (sp : Sp) : Prop where
  len : ∀ vs H Q E, sp vs H Q E → vs.length = ps.length
  run : ∀ (A : Around) (outer : List Env) (s : Shared) (H : Hp) (args : Args) (us : List Value) (vs : List V) (Q : VK) (E : XK), A.guards = some [] → Room k A → Env0 P w K mg base A outer s H → BindsTo s fd args (ps.zip us) → Vals vs us → sp vs H Q E →
    codeAny (model P w) A (.call (.ref f) args) (CR (L2.CX P w) outer P w H s Q E) s
section
variable {P : Program} {w : World} {K : PySem.W.Frag} {mg : Str → Option Value} {base : Heap}
theorem fnX_of {k : Nat} {f : Addr} {x qual : Str} {st : Stmt} {fd : FuncData} {N ps : List Str} {sp : Sp} (F : Fun K x qual st f fd) (S : FnScope N ps (defScope st))
    (len : ∀ vs H Q E, sp vs H Q E → vs.length = ps.length)
    (hbody : ∀ (cdv : Value) (A : Around) (outer : List Env) (s : Shared) (H : Hp) (vs : List V) (Q : VK) (E : XK), (A.deeper (envOfC qual (defScope st) s.heap.objs.size f cdv)).guards = some [] → Room k (A.deeper (envOfC qual (defScope st) s.heap.objs.size f cdv)) → sp vs H Q E →
      ∃ t, PSs (cxOf (L2.CX P w) P w K mg base N qual (defScope st) f cdv A outer s H E) (defBody st) t ∧ t { nx := fun _ H' => Q .non H', rt := Q } (start N vs) H) : FnX P w K mg base (k + 1) f fd ps sp := by
  obtain ⟨oc, od, kV, doc, pm, an, cdv, ct, osl, rfl, lk, hcd⟩ := F.ex
  refine ⟨len, fun A outer s H args us vs Q E hgd hr e0 hb r hsp => ?_⟩
  have old : ∀ b o, base.get? b = some o → s.heap.get? b = some o := fun b o e => (e0.bs b o e).1
  have kinds : ∀ y ∈ ps.zip us, (defScope st).names.lookup y.1 = some .local ∨ ((defScope st).names.lookup y.1 = some .cell ∧ ((cellsFrom (s.heap.objs.size + 1) (defScope st).names []).lookup y.1).isSome = true) := fun y hy => by
    obtain ⟨n, v⟩ := y
    exact (S.par n (List.of_mem_zip hy).1).imp id fun q => ⟨q, PySem.W.cellsFrom_some _ _ _ (.inl q)⟩
  have KX : K.In s.heap := e0.mod.kin.keeps old
  refine codeAny_call_function hr.depth (KX _ _ lk) rfl S.co S.gen rfl (PySem.W.codeRec_of KX hcd) (hb _ _ _ _ ?_)
  refine wpAny_newFunctionEnv_cells S.kind kinds fun env he s1 x => ?_
  subst he
  refine ⟨(e0.mod.nolimit.keeps old).keeps x.toInCall.keep, codeAny_func ?_⟩
  obtain ⟨t, ht, hq⟩ := hbody cdv A outer s H vs Q E hgd (hr.deeper _) hsp
  have I := inv_start (CX := L2.CX P w) (E := E) S hr.hd e0 (len _ _ _ _ hsp) r x
  refine wpAny_mono (ht.run [] s1 (start N vs) H _ I hq) (fun fl s' hs => ?_) fun e s' hs => hs
  cases fl with
  | ret u => exact let ⟨v, σ', H', J, rv, q⟩ := hs; ⟨v, H', J.os, J.bare, J.base, J.hok, rv, q⟩
  | next => exact let ⟨σ', H', J, q⟩ := hs; ⟨V.non, H', J.os, J.bare, J.base, J.hok, rfl, q⟩
  | brk => exact let ⟨_, _, _, q⟩ := hs; q.elim
  | cont => exact let ⟨_, _, _, q⟩ := hs; q.elim
end
section
variable {X : Cx} {k : Nat} {f : Addr} {fd : FuncData} {ps : List Str} {sp : Sp} {x : Str} {e : Expr} {es : List Expr} {t : TA} {p pos : Pos} {E : XK} {B newId initId : String} {bmB : List Value}
theorem pe_callX (F : FnX X.prog X.w X.K X.mg X.base k f fd ps sp) (hgd : X.A.guards = some []) (hr : Room k X.A) (hg : Gl X x) (hm : X.mg x = some (.ref f)) (hk : PySem.W.keepIn X.K (.ref f) = true) (hb : Binds X.K fd ps []) (hx : Passes (L2.CX X.prog X.w) X E) (ha : PA X (e :: es) t)
    (hdb : (x == ("__debug__" : Str)) = false := by decide) (he : starEach (e :: es) X.env = (false, eval e X.env) :: starEach es X.env := by rfl) (hpl : (backTo pos (starEach es X.env)).any (·.1) = false := by rfl) :
    PE X (.Call (.Name x p) (e :: es) [] pos) (tCall sp [] E t) := by
  refine ⟨fun pins s σ H Q I h => wpAny_Call_Name_kw (ld_glob I hg hm ?_ hdb)⟩
  refine PySem.W.callWith_K (h₀ := X.base) I.ok.mod.kin hk (thn (ha.run pos pins s σ H _ I h) fun us s1 ⟨vs, H1, I1, r, q⟩ => ⟨I1.kIn, ?_⟩) he hpl
  have r2 : Vals (vs ++ []) (us ++ []) := r.append .nil
  have hl : (us ++ []).length = ps.length := r2.length.symm.trans (F.len _ _ _ _ q)
  refine wpAny_call (codeAny_mono (F.run X.A X.stack s1 H1 ⟨us, []⟩ (us ++ []) (vs ++ []) Q E hgd hr I1.env0 (hb s1 us I1.kIn hl) r2 q) fun r s' hq => ?_)
  cases r with
  | error e => exact hx pins σ H1 s1 e s' I1 hq
  | ok fl => cases fl with
    | ret u => exact I1.after hq
    | next => exact hq.elim
    | brk => exact hq.elim
    | cont => exact hq.elim
/-- C(e, ..) that is raised: behind it the exception is let go, its dict stands -/
def tXm (C : Addr) (sp : Sp) (ta : TA) : L2.St → Hp → XK → Prop := fun σ H Q => ta σ H fun vs H1 => vs.length ≤ 1000 ∧ ∀ a, H1 a = none → sp (.ref a :: vs) (upd H1 a (exo a C none))
  (fun v H2 => v = .non ∧ ∃ (d : Addr) (fs : List (Str × V)), H2 a = some (exo a C (some d)) ∧ H2 d = some (exd d fs) ∧ H1 d = none ∧ Q (.ref C) (some d) (upd (del H2 a) d (.xd fs))) E0
theorem pmk_xG {C fI : Addr} (F : ExcBaseFacts B newId initId bmB) (T : XB X.K C newId bmB) (rs : Raises X (.ref C)) (iC : PySem.W.findIn X.K (.ref C) "__init__" = some (some (.ref fI))) (tI : PySem.W.typeIn X.K (.ref fI) = some (.type "function"))
    (F1 : FnG X.prog X.w X.K X.mg X.base k fI fd ps sp) (hgd : X.A.guards = some []) (hr : Room (k + 1) X.A) (hb : Binds X.K fd ps []) (hg : Gl X x) (hm : X.mg x = some (.ref C)) (ha : PA X (e :: es) t)
    (hdb : (x == ("__debug__" : Str)) = false := by decide) (he : starEach (e :: es) X.env = (false, eval e X.env) :: starEach es X.env := by rfl) (hpl : (backTo pos (starEach es X.env)).any (·.1) = false := by rfl) :
    PMk X (.Call (.Name x p) (e :: es) [] pos) (tXm C sp t) := by
  intro pins s σ H Q I h
  refine wpAny_Call_Name_kw (ld_glob I hg hm ?_ hdb)
  refine PySem.W.callWith_K (h₀ := X.base) I.ok.mod.kin T.kC (thn (ha.run pos pins s σ H _ I h) fun us s1 ⟨vs, H1, I1, r1, hz, q1⟩ => ⟨I1.kIn, ?_⟩) he hpl
  obtain ⟨nm, qn, N, bs', bm, sn, sub, ab, col, dd, k0, k1, k2, k3, k5, hC, hbm⟩ := T.cls
  obtain ⟨hp, g, dr, tk, os⟩ := s1
  have sz : hp.objs.size ≤ hp.objs.size + 1 := Nat.le_succ _
  have kk : ∀ b o, hp.get? b = some o → ((hp.push (PySem.W.kdv_tup us)).push (PySem.HandSPX.excO C hp.objs.size)).get? b = some o := fun b o e => Heap.get?_push_of_some _ (Heap.get?_push_of_some _ e)
  have here : ((hp.push (PySem.W.kdv_tup us)).push (PySem.HandSPX.excO C hp.objs.size)).get? (hp.objs.size + 1) = some (PySem.HandSPX.excO C hp.objs.size) := by heap_get
  have I2 : Inv X pins σ (upd H1 (hp.objs.size + 1) (exo (hp.objs.size + 1) C none)) ⟨(hp.push (PySem.W.kdv_tup us)).push (PySem.HandSPX.excO C hp.objs.size), g, dr, tk, os⟩ := I1.laid (t' := tk) kk sz (exo_ok here)
  have hq := q1 (hp.objs.size + 1) (I1.hok.fresh sz)
  have hus : us.length ≤ sizeLine := by
    rw [← Paired.length r1, sizeLine_eq]
    omega
  have r2 : Vals (V.ref (hp.objs.size + 1) :: vs) (Value.ref (hp.objs.size + 1) :: us) := .cons rfl r1
  have hl : ((Value.ref (hp.objs.size + 1) :: us) ++ []).length = ps.length := by
    rw [List.append_nil]
    exact r2.length.symm.trans (F1.len _ _ _ _ hq)
  have z := hb (⟨(hp.push (PySem.W.kdv_tup us)).push (PySem.HandSPX.excO C hp.objs.size), g, dr, tk, os⟩ : Shared) (Value.ref (hp.objs.size + 1) :: us) I2.kIn hl
  rw [List.append_nil] at z
  refine wpAny_call (PySem.HandSPX.call_own F (fun Y => PySem.W.excTail_contains Y bm hbm) (I1.kIn _ _ hC) (PySem.W.looks_findIn I1.kIn iC) (fun self => PySem.W.bind_fn I1.kIn self tI) hus
    (codeAny_mono (F1.run _ X.stack _ _ ⟨Value.ref (hp.objs.size + 1) :: us, []⟩ (Value.ref (hp.objs.size + 1) :: us) _ _ E0 hgd (hr.make C us []) (I2.env0.make C us []) z r2 hq) fun r s' hq' => ?_))
  cases r with
  | error er => exact pass0 pins σ _ _ er s' I2 hq'
  | ok fl => cases fl with
    | ret u =>
      obtain ⟨v, H2, os2, bare2, un2, hok2, rv, ev, d, fs, ea, ed, hd1, q2⟩ := hq'
      subst ev
      obtain ⟨h2, g2, d2, t2, os'⟩ := s'
      exact ⟨rv, mk_end rs I1 sz kk un2 hok2 os2 bare2 ea ed hd1 q2⟩
    | next => exact hq'.elim
    | brk => exact hq'.elim
    | cont => exact hq'.elim
end
end KG

set_option Elab.async false
set_option linter.all false
set_option maxRecDepth 100000
set_option maxHeartbeats 4000000
/-! ### x(lambda: ..), where no repr is under way: the lambda's body may call what asks that -/
namespace KG
open PySem PySem.Spec PyProof.Rows L2 LamX
/-- the context of the def at g that got the lambda, as X calls it -/
abbrev gotCx (X : Cx) (cx : CXT) (Ng : List Str) (qg : Str) (sg : Scope) (g : Addr) (cdg : Value) (s0 : Shared) (H0 : Hp) (Eg : XK) : Cx := cxOf cx X.prog X.w X.K X.mg X.base Ng qg sg g cdg X.A X.stack s0 H0 Eg
abbrev lamObj (X : Cx) (params : Arguments) (body : Expr) (scope : Scope) (pm : Value) (c' : Addr) (ctv : Value) : Obj := PySem.W.kla_obj "<lambda>" (X.env.qual ++ "<lambda>") params body scope (cloFrom X.env.cells scope.names []) pm c' ctv
/-- the def that calls what it got: its wish of an error is told of the very state in which a is called -/
def GivesAt (X : Cx) (Ng : List Str) (x : Str) (sg : Scope) (g : Addr) (cdg : Value) (bg : List Stmt) (a : Str) (q : Str) (TT : (XK → Hp → VK → Prop) → Hp → VK → Prop) : Prop :=
  ∀ (f c' : Addr) (s : Shared) (H : Hp) (Q : VK) (tl : XK → Hp → VK → Prop),
    (∀ (W : WX) (pn : List (Addr × Obj)) (xe : Value → Shared → Prop) (E : XK) (p1 p2 : Pos), Takes ((gotCx X C8.CX0 Ng x sg g cdg s H C8.E0).tr pn xe) W →
      PE ((gotCx X C8.CX0 Ng x sg g cdg s H C8.E0).tr pn xe) (.Call (.Name a p1) [] [] p2) (fun τ K R => τ[0]? = some (some (.ref f)) ∧ K c' = some (CodeO c' q) ∧ (∀ cls d G, E cls d G → W cls d τ G) ∧ tl E K R)) →
    H c' = some (CodeO c' q) → TT tl H Q → ∃ t, PSs (gotCx X C8.CX0 Ng x sg g cdg s H C8.E0).nox bg t ∧ t { nx := fun _ G => Q .non G, rt := Q } (L2.start Ng [.ref f]) H
section
variable {X : Cx} {pins : List (Addr × Obj)} {σ : L2.St} {H0 : Hp} {s0 : Shared}
theorem act_G {cx : CXT} {Eg E : XK} {Ng : List Str} {qg a : Str} {sg scope : Scope} {g f c' : Addr} {cdg pm ctv : Value} {params : Arguments} {body : Expr} {k i : Nat} {pn : List (Addr × Obj)} {xe : Value → Shared → Prop} {W : WX} {tb : TE} {p1 p2 : Pos}
    (I0 : Inv X pins σ H0 s0) (L : LamS X.env.scope scope) (of : s0.heap.get? f = some (lamObj X params body scope pm c' ctv)) (nf : H0 f = none) (ns : f ∉ frs X.stack)
    (nob : bindArgs (PySem.W.kla_fn "<lambda>" (X.env.qual ++ "<lambda>") params body scope (cloFrom X.env.cells scope.names []) pm (.ref c') ctv) ⟨[], []⟩ = pure [])
    (tk : Takes ((gotCx X cx Ng qg sg g cdg s0 H0 Eg).tr pn xe) W) (gd : X.A.guards = some []) (rm : Room (k + 1) (X.A.deeper (envOfC qg sg s0.heap.objs.size g cdg)))
    (hbody : ∀ (A : Around) (outer : List Env) (s : Shared) (H : Hp), (A.deeper (lamEnv X scope s.heap.objs.size f c')).guards = some [] → Room k (A.deeper (lamEnv X scope s.heap.objs.size f c')) → PE (lamCx X A outer s H E scope f c') body tb)
    (hN : Ng[i]? = some a) (hv : Vis sg a) (hd : (a == ("__debug__" : Str)) = false := by decide) (hcd : (a == ("__classdict__" : Str)) = false := by decide) :
    PE ((gotCx X cx Ng qg sg g cdg s0 H0 Eg).tr pn xe) (.Call (.Name a p1) [] [] p2) (fun τ K Q => τ[i]? = some (some (.ref f)) ∧ K c' = some (CodeO c' (X.env.qual ++ "<lambda>")) ∧ (∀ cls d G, E cls d G → W cls d τ G) ∧ tb σ K Q) := by
  refine ⟨fun pinsT sT τ K Q IT ⟨e0, e1, hW, e2⟩ => ?_⟩
  have look := (pe_var (X := (gotCx X cx Ng qg sg g cdg s0 H0 Eg).tr pn xe) (pos := p1) (i := i) hN hv hd hcd).run pinsT sT τ K (fun y K1 => y = .ref f ∧ K1 = K) IT ⟨.ref f, e0, rfl, rfl⟩
  refine wpAny_Call_Name_kw (thn look fun u s1 hu => ?_)
  obtain ⟨y, K1, I1, ru, rfl, rfl⟩ := hu
  cases ru
  have of1 : s1.heap.get? f = some (lamObj X params body scope pm c' ctv) := I1.base.keep f _ of nf ns (fun z => nomatch (show f ∈ ([] : List Addr) from z))
  obtain ⟨⟨oc, us, t, q1, q2, q3⟩, _, _⟩ := I1.hok c' _ e1
  have ran : codeAny (model X.prog X.w) (X.A.deeper (envOfC qg sg s0.heap.objs.size g cdg)) (.call (.ref f) ⟨[], []⟩) (CR (L2.CX X.prog X.w) (envOfC qg sg s0.heap.objs.size g cdg :: X.stack) X.prog X.w K1 s1 Q E) s1 := by
    refine PySem.W.kla_callFunE rm.depth of1 rfl L.co L.gen rfl ⟨c', oc, us, t, rfl, q1, q2, q3⟩ ?_
    rw [nob]
    refine wpAny_pure (wpAny_newFunctionEnv (fun y hy => (L.own y hy).2) (fun y hy => absurd hy (by simp)) (fun h1 hns hsb => ⟨I1.nolimit.fresh _ hsb, ?_⟩) L.kind)
    have keep : ∀ b o, s1.heap.get? b = some o → h1.get? b = some o := fun b o e => hsb.extBut b o (Nat.ne_of_lt (Heap.lt_size e)) (Heap.get?_push_of_some _ e)
    have J := lam_start2 (E := E) (f := f) (c' := c') (tk := s1.toks + ([] : List (Str × Value)).length) I0 L I1.env0 rm.hd I1.base hns keep
    have run := (hbody (X.A.deeper (envOfC qg sg s0.heap.objs.size g cdg)) (envOfC qg sg s0.heap.objs.size g cdg :: X.stack) s1 K1 gd (rm.deeper _)).run [] _ _ K1 Q J e2
    show codeAny _ _ (.expr body (lamEnv X scope s1.heap.objs.size f c')) _ _
    exact PySem.W.kla_codeExpr (wpAny_mono run (fun y s' ⟨x, K', J', rx, q⟩ => ⟨x, K', J'.os, J'.bare, J'.base, J'.hok, rx, q⟩) fun _ _ z => z)
  refine PySem.W.callWith_F0 ⟨_, _, _, _, of1⟩ (wpAny_call (codeAny_mono ran fun r s' hq => ?_))
  · cases r with
    | error e => exact tk e s' (XE.of_call I1 hW hq)
    | ok fl => cases fl with
      | ret u => exact I1.after hq
      | next => exact False.elim hq
      | brk => exact False.elim hq
      | cont => exact False.elim hq
theorem pe_lamG {T : List (Addr × Str)} {TT : (XK → Hp → VK → Prop) → Hp → VK → Prop} {x a : Str} {g c P : Addr} {k : Nat} {pg params : Arguments} {bg : List Stmt} {sg scope : Scope} {dV kV doc pm cdv ct oc : Value} {an od : Option Addr} {osl : Array (Option Value)} {Ng : List Str} {body : Expr} {t : XK → TE} {p lpos pos : Pos}
    (gd : X.A.guards = some []) (hg : Gl X x) (hm : X.mg x = some (.ref g)) (hk : PySem.W.keepIn X.K (.ref g) = true) (lk : X.K.lookup g = some ⟨oc, od, .func (PySem.W.fnOf x x pg bg sg dV kV doc pm an cdv ct), osl⟩) (hcg : PySem.W.codeIn X.K cdv x = true)
    (hb : L2.Binds X.K (PySem.W.fnOf x x pg bg sg dV kV doc pm an cdv ct) [a] []) (Sg : FnScope Ng [a] sg) (hNg : Ng[0]? = some a) (hva : Vis sg a) (hG : GivesAt X Ng x sg g cdv bg a (X.env.qual ++ "<lambda>") TT)
    (TB : TabB X.base X.mg c P) (hcode : X.env.code = .ref c) (hmT : (P, X.env.qual ++ "<lambda>") ∈ T) (hu : ∀ p ∈ T, p.1 = P → p.2 = X.env.qual ++ "<lambda>") (rm : Room (k + 2) X.A) (L : LamS X.env.scope scope) (nod : defaultsOf params X.env = ([], []))
    (nob : ∀ (q : Str) (cl : List (Str × Addr)) (pm cv ctv : Value), bindArgs (PySem.W.kla_fn "<lambda>" q params body scope cl pm cv ctv) ⟨[], []⟩ = pure [])
    (hbody : ∀ (A : Around) (outer : List Env) (s : Shared) (H : Hp) (E : XK) (f c' : Addr), (A.deeper (lamEnv X scope s.heap.objs.size f c')).guards = some [] → Room k (A.deeper (lamEnv X scope s.heap.objs.size f c')) → PE (lamCx X A outer s H E scope f c') body (t E))
    (hdb : (x == ("__debug__" : Str)) = false := by decide) (hd : (a == ("__debug__" : Str)) = false := by decide) (hcd : (a == ("__classdict__" : Str)) = false := by decide) : PE X (.Call (.Name x p) [.Lambda params body scope lpos] [] pos) (tLam T TT t) := by
  refine ⟨fun pins s σ H Q I ⟨tabs, h⟩ => wpAny_Call_Name_kw (ld_glob I hg hm ?_ hdb)⟩
  refine PySem.W.callWith_K (h₀ := X.base) I.ok.mod.kin hk ?_ (by rfl) (by rfl)
  show wpAny _ _ (spliced ((false, eval (.Lambda params body scope lpos) X.env) :: backTo pos (starEach [] X.env))) _ _ s
  refine Calls.spliced_cons (lam_make2 I TB hcode hmT hu tabs nod (L.has I.ok) fun f c' pm' ctv H1 s' I1 ext tabs1 of nf ns co => Calls.spliced_nil ⟨I1.kIn, ?_⟩)
  refine wpAny_call (codeAny_mono (run_ofS (CX := C8.CX0) (Q := Q) (E := C8.E0) (H := H1) (vs := [.ref f]) lk hcg Sg rm I1.env0 (hb s' [.ref f] I1.kIn rfl) (.cons rfl .nil) rfl fun rm' => ?_) fun r s2 hq => ?_)
  · obtain ⟨t', ht, q⟩ := hG f c' s' H1 Q (fun E K Q' => t E σ K Q') (fun W pn xe E p1 p2 tk => act_G (i := 0) I1 L of nf ns (nob _ _ _ _ _) tk gd rm' (fun A outer s H g1 g2 => hbody A outer s H E f c' g1 g2) hNg hva hd hcd) co (h H1 ext tabs1)
    exact ⟨t', ht.nox, q⟩
  · cases r with
    | error e => exact (show False from hq).elim
    | ok fl => cases fl with
      | ret u => exact I1.after hq
      | next => exact False.elim hq
      | brk => exact False.elim hq
      | cont => exact False.elim hq
end
end KG

set_option Elab.async false
set_option linter.all false
set_option maxRecDepth 100000
set_option maxHeartbeats 4000000
/-! ### try: .. except A as e: .. except (B, C) as e: .. (one name for all clauses) -/
namespace KG
open PySem PySem.Spec PyProof.Rows L2
/-- behind a clause's suite the name is gone -/
def gone (i : Nat) (D : Ends) : Ends := { nx := fun τ K => D.nx (τ.set i none) K, rt := D.rt, bk := fun τ K => D.bk (τ.set i none) K, ct := fun τ K => D.ct (τ.set i none) K }
/-- what a clause names: a class, a pair of classes -/
inductive Tst where | one (c : Value) | two (c1 c2 : Value)
def exmT (K : PySem.W.Frag) (cls : Value) : Tst → Option Bool
  | .one c => PySem.W.exmOne K cls c
  | .two c1 c2 => PySem.W.exmAny K cls [c1, c2]
inductive TstOk (X : Cx) : Expr → Tst → Prop
  | one {x : Str} {np : Pos} {c : Value} (h : Names X x c) : TstOk X (.Name x np) (.one c)
  | two {x y : Str} {xp yp tp : Pos} {kk : Nat} {c1 c2 : Value} (h1 : Names X x c1) (h2 : Names X y c2) : TstOk X (.Tuple [.Name x xp, .Name y yp] kk tp) (.two c1 c2)
abbrev Clause := Tst × (Addr → Value → Option Addr → TS)
/-- what the clauses wish of an exception, one after the other -/
def wEach (K : PySem.W.Frag) (i : Nat) (Wout : WX) (D : Ends) : List Clause → WX
  | [] => Wout
  | (c, ts) :: r => fun cls d τ G => ∃ b, exmT K cls c = some b ∧ (b = true → ∀ a, G a = none → ts a cls d (gone i D) (τ.set i (some (.ref a))) G) ∧ (b = false → wEach K i Wout D r cls d τ G)
inductive EachOk (X : Cx) (n : Str) : List ExceptHandler → List Clause → Prop
  | nil : EachOk X n [] []
  | cons {t : Expr} {c : Tst} {ts : Addr → Value → Option Addr → TS} {b₀ : Stmt} {suite : List Stmt} {hp : Pos} {hds : List ExceptHandler} {l : List Clause} (hc : TstOk X t c)
      (hsu : ∀ (a : Addr) (oe : Obj) (cls : Value) (d : Option Addr) (pn : List (Addr × Obj)), Zc cls d oe → (∃ vs, oe.data = .fields vs) → PSs (X.suite a ((a, oe) :: pn)) (b₀ :: suite) (ts a cls d)) (r : EachOk X n hds l) :
      EachOk X n (.ExceptHandler (some t) (some n) (b₀ :: suite) hp :: hds) ((c, ts) :: l)
theorem flying_grow {base h h' : Heap} {l : List Env} {e : Addr} {Z : Obj → Prop} (k : ∀ b o, h.get? b = some o → h'.get? b = some o) (fl : HandSPX.FlyingZ base l e Z h) : HandSPX.FlyingZ base l e Z h' := by
  obtain ⟨q1, q2, q3, oe, vs, T, oT, ts, e1, e2, e3, e4, e5, e6, e7, e8, e9⟩ := fl
  exact ⟨fun b o z => k _ _ (q1 b o z), q2, Heap.FunFrames.of_keeps (fun b o e _ => ⟨o, k _ _ e, rfl⟩) q3, oe, vs, T, oT, ts, k _ _ e1, e2, e3, e4, e5, e6, k _ _ e7, e8, e9⟩
section
variable {X : Cx} {n : Str} {i : Nat} {body : List Stmt} {h₀ : ExceptHandler} {hds : List ExceptHandler} {l : List Clause} {pos : Pos} {tb : WX → TS} {Wout : WX}
/-- a class's name, read in a clause -/
theorem named_at {pins : List (Addr × Obj)} {σ : L2.St} {H : Hp} {s : Shared} {a : Addr} {pn : List (Addr × Obj)} {x : Str} {np : Pos} {c : Value} {Q E : Value → Shared → Prop} (S : Inv (X.suite a pn) pins σ H s) (hc : Names X x c) (q : Q c s) :
    wpAny (model X.prog X.w) (X.A.mark (some (.ref a))) (eval (.Name x np) X.env) Q E s := by
  obtain ⟨hg, hdbg, hm⟩ := hc
  rcases hm with hm | ⟨hm, hv, hnn⟩
  · exact ld_glob (X := X.suite a pn) S hg hm q hdbg
  · exact ld_blt (X := X.suite a pn) S hg hm hv q hnn hdbg
/-- the clause's test, of the exception at a -/
theorem tst_run {pins : List (Addr × Obj)} {σ : L2.St} {H : Hp} {s : Shared} {a : Addr} {oe : Obj} {pn : List (Addr × Obj)} {t : Expr} {c : Tst} {cls : Value} {b : Bool} {R : Bool → Shared → Prop} {E1 E2 : Value → Shared → Prop} (S : Inv (X.suite a pn) pins σ H s) (he : s.heap.get? a = some oe) (hz : oe.cls = cls)
    (hc : TstOk X t c) (hb : exmT X.K cls c = some b) (q : ∀ h', (∀ y o, s.heap.get? y = some o → h'.get? y = some o) → R b { s with heap := h' }) :
    wpAny (model X.prog X.w) (X.A.mark (some (.ref a))) (eval t X.env) (fun v s1 => wpAny (model X.prog X.w) (X.A.mark (some (.ref a))) (excMatches (.ref a) v) R E1 s1) E2 s := by
  cases hc with
  | @one x np c h =>
    have kind : PySem.W.Looks (model X.prog X.w) s.heap (typeOf (.ref a)) cls := fun A Q E s k q => wpAny_typeOf_ref (k _ _ he) (by rw [hz]; exact q)
    refine named_at S h ((PySem.W.exm_one (M := model X.prog X.w) S.kIn kind hb).here (q s.heap fun _ _ e => e))
  | @two x y xp yp tp kk c1 c2 h1 h2 =>
    refine wpAny_Tuple_spliced ?_
    show wpAny _ _ (spliced ((false, eval (.Name x xp) X.env) :: (false, eval (.Name y yp) X.env) :: [])) _ _ s
    refine Calls.spliced_cons (named_at S h1 (Calls.spliced_cons (named_at S h2 (Calls.spliced_nil ⟨(show 2 ≤ sizeLine by decide), ?_⟩))))
    have k : ∀ y o, s.heap.get? y = some o → (s.heap.push { cls := .type "tuple", data := .seq [c1, c2].toArray }).get? y = some o := fun y o e => Heap.get?_push_of_some _ e
    have kind : PySem.W.Looks (model X.prog X.w) (s.heap.push { cls := .type "tuple", data := .seq [c1, c2].toArray }) (typeOf (.ref a)) cls := fun A Q E s' k' q => wpAny_typeOf_ref (k' _ _ (k _ _ he)) (by rw [hz]; exact q)
    exact (PySem.W.exm_tup2 (M := model X.prog X.w) (S.kIn.keeps k) kind (Heap.get?_push_size _ rfl) hb).here (q _ k)
theorem ps_try_each (hs : X.stack = X.env :: X.outer) (hf : X.env.frame = some X.env.locals) (hN : X.N.Nodup) (hi : X.N[i]? = some n) (hln : X.env.kindOf n = some .local) (tk : Takes X Wout)
    (hb : ∀ (W : WX) (pn : List (Addr × Obj)) (xe : Value → Shared → Prop), Takes (X.tr pn xe) W → PassesOwn (model X.prog X.w) X.A X.env xe → PSs (X.tr pn xe) body (tb W)) (hh : EachOk X n (h₀ :: hds) l) :
    PS X (.Try body (h₀ :: hds) [] [] pos) (fun D σ H => tb (wEach X.K i Wout D l) D σ H) := by
  refine ⟨fun pins s σ H D I h => wpAny_Try_except ?_⟩
  have ok := I.ok
  have frs' : X.A.frames = some (X.env :: X.outer) := ok.frames.trans (by rw [hs])
  let xe' : Value → Shared → Prop := fun e s₁ => wpAny (model X.prog X.w) X.A (noteFrame e X.env) (fun _ s₂ => wpAny (model X.prog X.w) X.A (setFlight e none) (fun _ s₃ => wpAny (model X.prog X.w) X.A (handleBy e X.env (h₀ :: hds)) (SP X pins D) X.xe s₃) X.xe s₂) X.xe s₁
  have took : Takes (X.tr (X.pn ++ pins) xe') (wEach X.K i Wout D l) := by
    intro u s' xx
    obtain ⟨a, B, sI, pins', τ, G, cls, d, rfl, J', nb, up, sky, na, os, ag, w⟩ := xx
    have J : Inv X pins τ G sI := J'.ofTry ok
    have sky2 : Sky B (X.env :: X.outer) a (Zc cls d) X.env.locals s'.heap := hs ▸ sky
    show wpAny (model X.prog X.w) X.A (noteFrame (.ref a) X.env) _ _ _
    refine Sky.land Zc.steady frs' hf sky2 fun g3 fl3 up3 => ?_
    have each : ∀ {hs' : List ExceptHandler} {l' : List Clause}, EachOk X n hs' l' → ∀ g : Heap, (∀ b o, g3.get? b = some o → g.get? b = some o) → wEach X.K i Wout D l' cls d τ G → wpAny (model X.prog X.w) X.A (handleBy (.ref a) X.env hs') (SP X pins D) X.xe { s' with heap := g } := by
      intro hs' l' hk
      induction hk with
      | nil =>
        intro g kg w
        have flg := flying_grow kg fl3
        have upg : sI.heap.UpToSlots g := (up.trans up3).trans (Heap.UpToSlots.of_keeps kg)
        refine wpAny_handleBy_nil ?_
        obtain ⟨_, _, _, oe, vs, T, oT, ts', he, hz, hd, h1, hr⟩ := id flg
        have last : wpAny (model X.prog X.w) X.A (setFlight (.ref a) X.env.frame) (fun _ s4 => wpAny (model X.prog X.w) X.A (throw (.ref a) : Sem Flow) (SP X pins D) X.xe s4) X.xe { s' with heap := g } := by
          rw [hf]
          exact HandSPX.setFlight_upZ flg fun g4 hh4 up4 => wpAny_throw (tk _ _ ⟨a, B, sI, pins, τ, G, cls, d, rfl, J, nb, upg.trans up4, .inr (.inr (by rw [hs]; exact hh4)), na, os, ag, w⟩)
        unfold PySem.passOn
        refine wpAny_bind (wpAny_field he hd h1 ?_)
        have nn : ¬ ((Value.ref T == Value.none) = true) := by simp
        rw [if_neg nn]
        first | exact wpAny_bind (wpAny_pure (wpAny_bind last)) | exact wpAny_bind last
      | @cons t c ts b₀ suite hp hds2 l2 hc hsu r ih =>
        intro g kg w
        obtain ⟨b, hb1, yes, no⟩ := w
        have flg := flying_grow kg fl3
        have upg : sI.heap.UpToSlots g := (up.trans up3).trans (Heap.UpToSlots.of_keeps kg)
        have Jg : Inv X pins τ G { s' with heap := g } := J.landed nb flg.1 upg os ag
        obtain ⟨oeg, vsg, heg, hzg, hdg⟩ := flg.there
        have out : a ∉ frs (X.env :: X.outer) := fun hm => by
          obtain ⟨_, o', e', no⟩ := flg.2.2.1.mem hm
          have eq : o' = oeg := Option.some.inj (e'.symm.trans heg)
          exact no _ (eq ▸ hdg)
        have nL : a ≠ X.env.locals := fun z => out (List.mem_filterMap.mpr ⟨X.env, List.mem_cons_self, by rw [hf, z]⟩)
        have nF : a ∉ X.fs := fun hm => let ⟨e, he, q⟩ := List.mem_filterMap.mp hm; out (List.mem_filterMap.mpr ⟨e, List.mem_cons_of_mem _ he, q⟩)
        have Sg := Jg.suite heg hdg na nL nF
        refine wpAny_handleBy_cons (codeAny_handlers_test (tst_run Sg heg hzg.1 hc hb1 fun g' kg' => ?_)) (fun q => nomatch q)
        have kg2 : ∀ b o, g3.get? b = some o → g'.get? b = some o := fun b o e => kg' _ _ (kg _ _ e)
        cases b with
        | false => exact ih g' kg2 (no rfl)
        | true =>
          have flg' := flying_grow kg' flg
          refine codeAny_handlers_suite_as (HandSPX.lands_againZ flg' fun g4 fl4 up4 => ?_)
          have J4 : Inv X pins τ G { s' with heap := g4 } := J.landed nb fl4.1 ((upg.trans (Heap.UpToSlots.of_keeps kg')).trans up4) os ag
          obtain ⟨oe, vs, he, hz, hd⟩ := fl4.there
          refine store_ok (X := X.suite a ((a, oe) :: (X.pn ++ pins))) (v := .ref a) (J4.suite he hd na nL nF) hN hi (.inl hln) rfl (fun s5 S5 => ?_) (.inr hln)
          refine wpAny_mono ((hsu a oe cls d (X.pn ++ pins) hz ⟨_, hd⟩).run [] s5 _ G _ S5 (yes rfl a na)) (fun fl s6 done => ?_) (fun _ _ z => False.elim z)
          have last : ∀ {τ6 : L2.St} {G6 : Hp} {R : Shared → Prop}, Inv (X.suite a ((a, oe) :: (X.pn ++ pins))) [] τ6 G6 s6 → (∀ s7, Inv X pins (τ6.set i none) G6 s7 → R s7) → wpAny (model X.prog X.w) X.A (do bindName X.env n .none; unbindBehindTheSuite X.env n hp) (fun _ s7 => R s7) X.xe s6 := fun {τ6 G6 R} S6 hq => gone_ok (S6.unsuite ok) hN hi hln hq
          cases fl with
          | next => exact let ⟨τ6, G6, S6, q6⟩ := done; last S6 fun s7 J7 => ⟨_, _, J7, q6⟩
          | brk => exact let ⟨τ6, G6, S6, q6⟩ := done; last S6 fun s7 J7 => ⟨_, _, J7, q6⟩
          | cont => exact let ⟨τ6, G6, S6, q6⟩ := done; last S6 fun s7 J7 => ⟨_, _, J7, q6⟩
          | ret u => exact let ⟨v6, τ6, G6, S6, r6, q6⟩ := done; last S6 fun s7 J7 => ⟨_, _, _, J7, r6, q6⟩
    exact each hh g3 (fun _ _ e => e) w
  refine wpAny_mono ((hb (wEach X.K i Wout D l) (X.pn ++ pins) xe' took PassesOwn.looking).run [] s σ H D (I.toTry _) h) (fun fl s1 done => ?_) (fun e s1 he => he)
  cases fl with
  | next => exact let ⟨τ, G, J', q⟩ := done; wpAny_execs_nil ⟨τ, G, J'.ofTry ok, q⟩
  | brk => exact let ⟨τ, G, J', q⟩ := done; ⟨τ, G, J'.ofTry ok, q⟩
  | cont => exact let ⟨τ, G, J', q⟩ := done; ⟨τ, G, J'.ofTry ok, q⟩
  | ret u => exact let ⟨v, τ, G, J', r, q⟩ := done; ⟨v, τ, G, J'.ofTry ok, r, q⟩
end
end KG

set_option Elab.async false
set_option linter.all false
set_option maxRecDepth 100000
set_option maxHeartbeats 4000000
/-! ### x(lambda y=n: ..): a lambda with one parameter that has a written default, called without arguments -/
namespace KG
open PySem PySem.Spec PyProof.Rows L2 LamX
abbrev dfObj (X : Cx) (params : Arguments) (body : Expr) (scope : Scope) (t : Addr) (doc pm : Value) (c' : Addr) (ctv : Value) : Obj := PySem.W.kdv_obj "<lambda>" (X.env.qual ++ "<lambda>") params (.expr body) scope (cloFrom X.env.cells scope.names []) (.ref t) doc pm c' ctv
/-- one name of its own, y, the parameter; else captured ones and globals -/
structure LamD (sc scope : Scope) (y : Str) : Prop where
  kind : scope.kind = .function
  co : scope.isCoroutine = false
  gen : scope.isGenerator = false
  par : scope.names.lookup y = some .local
  own : ∀ z ∈ scope.names, z.2 ≠ .cell ∧ (z.2 = .local → z.1 = y)
  free : ∀ z ∈ scope.names, z.2 = .free → sc.names.lookup z.1 = some .cell ∨ sc.names.lookup z.1 = some .free
def lamDB (sc scope : Scope) (y : Str) : Bool :=
  decide (scope.kind = .function) && !scope.isCoroutine && !scope.isGenerator && decide (scope.names.lookup y = some .local) && scope.names.all fun z => !decide (z.2 = .cell) && (!decide (z.2 = .local) || decide (z.1 = y)) && (!decide (z.2 = .free) || decide (sc.names.lookup z.1 = some .cell) || decide (sc.names.lookup z.1 = some .free))
theorem lamD_by {sc scope : Scope} {y : Str} (h : lamDB sc scope y = true) : LamD sc scope y := by
  unfold lamDB at h
  simp only [Bool.and_eq_true, Bool.or_eq_true, Bool.not_eq_true', decide_eq_true_eq, decide_eq_false_iff_not, List.all_eq_true] at h
  obtain ⟨⟨⟨⟨h1, h2⟩, h3⟩, h5⟩, h4⟩ := h
  refine ⟨h1, h2, h3, h5, fun z hz => ⟨(h4 z hz).1.1, fun e => ?_⟩, fun z hz e => ?_⟩
  · rcases (h4 z hz).1.2 with q | q
    · exact absurd e q
    · exact q
  · rcases (h4 z hz).2 with (q | q) | q
    · exact absurd e q
    · exact .inl q
    · exact .inr q
theorem LamD.has {X : Cx} {scope : Scope} {y : Str} (L : LamD X.env.scope scope y) (ok : X.Ok) : ∀ z ∈ scope.names, z.2 = .free → ∃ c, X.env.cells.lookup z.1 = some c := fun z hz e => (L.free z hz e).elim (fun k => ok.has _ (.inl k)) (fun k => ok.has _ (.inr k))
section
variable {X : Cx} {pins : List (Addr × Obj)} {σ : L2.St} {H H0 : Hp} {s s0 : Shared}
theorem not_frs (I : Inv X pins σ H s) {f : Addr} (hf : s.heap.objs.size ≤ f) : f ∉ frs X.stack := fun z => by
  rcases List.mem_cons.mp (I.stkSub _ z) with e | e
  · exact absurd (Nat.lt_of_lt_of_le I.lt hf) (by rw [e]; exact Nat.lt_irrefl _)
  · exact I.nofs hf e
/-- it is made -/
theorem lam_makeD {T : List (Addr × Str)} {c P : Addr} {params : Arguments} {e : Expr} {n : Int} {body : Expr} {scope : Scope} {pos : Pos} {Q : Value → Shared → Prop} {y : Str} (I : Inv X pins σ H s) (TB : TabB X.base X.mg c P) (hcode : X.env.code = .ref c)
    (hm : (P, X.env.qual ++ "<lambda>") ∈ T) (hu : ∀ p ∈ T, p.1 = P → p.2 = X.env.qual ++ "<lambda>") (hT : Tabs T H) (hd : params.defaults = [e]) (hk0 : params.kw_defaults = []) (he : PE X e (tC (.int n))) (L : LamD X.env.scope scope y)
    (h : ∀ (f t c' : Addr) (v doc pm ctv : Value) (H1 : Hp) (s' : Shared), Inv X pins σ H1 s' → ExtN H H1 → Tabs T H1 → s'.heap.get? f = some (dfObj X params body scope t doc pm c' ctv) → s'.heap.get? t = some (PySem.W.kdv_tup [v]) →
      H1 f = none → H1 t = none → f ∉ frs X.stack → t ∉ frs X.stack → H1 c' = some (CodeO c' (X.env.qual ++ "<lambda>")) → Q (.ref f) s') :
    wpAny (model X.prog X.w) X.A (eval (.Lambda params body scope pos) X.env) Q X.xe s := by
  refine PySem.W.kdv_lam (by rw [hd]; rfl) hk0 ?_
  rw [hd]
  refine PySem.W.kdv_all1 (thn (he.run pins s σ H (fun v H' => v = .int n ∧ H' = H) I ⟨rfl, rfl⟩) fun v s1 hv => PySem.W.kdv_all0 ?_)
  obtain ⟨x, H', I1, rx, rfl, rfl⟩ := hv
  rw [makeFunction_eq]
  simp only [List.zip_nil_right, List.filterMap_nil, List.isEmpty_nil, List.isEmpty_cons, Bool.false_eq_true, if_true, if_false, pure_bind]
  refine wpAny_bind (wpAny_newTextTuple ?_)
  generalize htt : s1.heap.objs.size = t
  have hge0 : s1.heap.objs.size ≤ t := Nat.le_of_eq htt
  have I2 : Inv X pins σ H' { s1 with heap := s1.heap.push (PySem.W.kdv_tup [v]) } := I1.kept (t' := s1.toks) fun b o e => Heap.get?_push_of_some _ e
  have at2 : (s1.heap.push (PySem.W.kdv_tup [v])).get? t = some (PySem.W.kdv_tup [v]) := htt ▸ Heap.get?_push_size _ rfl
  have nt : H' t = none := I1.hok.fresh hge0
  have ft : t ∉ frs X.stack := not_frs I1 hge0
  generalize s1.heap.push (PySem.W.kdv_tup [v]) = h2 at I2 at2
  obtain ⟨ps, hP, ht, ha⟩ := hT _ hm
  have bP : h2.BuiltinsAt X.mg P := TB.bm.keeps I2.bk
  have hP' : h2.get? P = some { cls := .none, data := .fields ps } := I2.hok P _ hP
  have cl := closure_ok (L.has I.ok)
  cases hc : codeAmong pos ps.toList with
  | none =>
    refine PySem.W.kdv_makeTail (mg := X.mg) (c := c) (P := P) (ps := ps) (s := { s1 with heap := h2 }) cl I.ok.glob (I.mod.glob.keeps I2.bk) hcode (TB.code.keeps I2.bk) hP' ht hc TB.gP bP fun c' ctv doc h' tk hx hge hlt hrec htb => ?_
    obtain ⟨c2, oc, vs, tt, e2, hoc, hdc, hvc⟩ := hrec
    cases e2
    have hsz : h2.objs.size ≤ h'.objs.size := Nat.le_trans hge (Nat.le_of_lt hlt)
    have nC : H' c' = none := I2.hok.fresh hge
    have I3 := inv_table (t' := tk) (more := #[rawInt pos.line, rawInt pos.col, .ref c']) (h' := h'.push (dfObj X params body scope t doc ((X.mg "__name__").getD .none) c' ctv)) I2 hP
      (fun b o hb e => Heap.get?_push_of_some _ (hx b o hb e)) (Heap.get?_push_of_some _ htb) hge ⟨oc, vs, tt, Heap.get?_push_of_some _ hoc, hdc, hvc⟩
    have hE : ExtN H' (upd (upd H' P (.tbl (ps ++ #[rawInt pos.line, rawInt pos.col, .ref c']))) c' (CodeO c' (X.env.qual ++ "<lambda>"))) := fun b o e n => by
      have b1 : b ≠ c' := ne_of_none e nC
      have b2 : b ≠ P := fun z => n ps (Option.some.inj (e.symm.trans (by rw [z]; exact hP)))
      rw [upd_ne b1, upd_ne b2]
      exact e
    have eL : (ps ++ #[rawInt pos.line, rawInt pos.col, .ref c']).toList = ps.toList ++ [rawInt pos.line, rawInt pos.col, .ref c'] := by simp
    have tP : t ≠ P := fun z => by rw [z, hP] at nt; cases nt
    have tlt : t < h2.objs.size := Heap.lt_size at2
    have tc : t ≠ c' := Nat.ne_of_lt (Nat.lt_of_lt_of_le tlt hge)
    have fP : h'.objs.size ≠ P := Nat.ne_of_gt (Nat.lt_of_lt_of_le (Heap.lt_size hP') hsz)
    have fc : h'.objs.size ≠ c' := Nat.ne_of_gt hlt
    refine h h'.objs.size t c' v doc _ ctv _ _ I3 hE (fun p hp => ?_) (Heap.get?_push_size _ rfl) (Heap.get?_push_of_some _ (hx _ _ tP at2)) ?_ ?_ (not_frs I2 hsz) ft upd_same
    · by_cases hb : p.1 = P
      · rw [hu p hp hb, hb]
        refine ⟨_, (by rw [upd_ne (ne_of_none hP nC)]; exact upd_same), (by rw [eL]; exact PySem.TriplesOk_snoc _ _ _ _ ht), fun p' cv hcv => ?_⟩
        rw [eL] at hcv
        rcases among_app _ ht hcv with z | z
        · obtain ⟨c0, k1, k2⟩ := ha p' cv z
          exact ⟨c0, k1, hE _ _ k2 codeO_ne⟩
        · exact ⟨c', z, upd_same⟩
      · obtain ⟨ps', a1, a2, a3⟩ := hT p hp
        refine ⟨ps', (by rw [upd_ne (ne_of_none a1 nC), upd_ne hb]; exact a1), a2, fun p' cv hcv => ?_⟩
        obtain ⟨c0, k1, k2⟩ := a3 p' cv hcv
        exact ⟨c0, k1, hE _ _ k2 codeO_ne⟩
    · rw [upd_ne fc, upd_ne fP]
      exact I2.hok.fresh hsz
    · rw [upd_ne tc, upd_ne tP]
      exact nt
  | some cv =>
    obtain ⟨c', rfl, hco⟩ := ha pos cv hc
    refine PySem.W.kdv_makeTailHit (mg := X.mg) (c := c) (P := P) (ps := ps) (s := { s1 with heap := h2 }) cl I.ok.glob (I.mod.glob.keeps I2.bk) hcode (TB.code.keeps I2.bk) hP' ht hc bP fun ctv doc h' tk hx hsz => ?_
    have I3 : Inv X pins σ H' { s1 with heap := h'.push (dfObj X params body scope t doc ((X.mg "__name__").getD .none) c' ctv), toks := tk } := I2.kept fun b o e => Heap.get?_push_of_some _ (hx b o e)
    exact h h'.objs.size t c' v doc _ ctv H' _ I3 (ExtN.refl _) hT (Heap.get?_push_size _ rfl) (Heap.get?_push_of_some _ (hx _ _ at2)) (I2.hok.fresh hsz) nt (not_frs I2 hsz) ft hco
/-- where its body runs -/
theorem lam_startD {HZ : Hp} {s1 : Shared} {A : Around} {outer : List Env} {E : XK} {scope : Scope} {f c' : Addr} {h₁ : Heap} {tk : Nat} {y : Str} {bs : List (Str × Value)} (I : Inv X pins σ H s) (L : LamD X.env.scope scope y) (hy : y ∉ X.N) (e0 : Env0 X.prog X.w X.K X.mg X.base A outer s1 HZ) (hd : A.handled = none)
    (un : Un (frs X.stack) [] H HZ s.heap s1.heap) (hns : h₁.Ns s1.heap.objs.size fun z => bs.reverse.lookup z) (kp : ∀ b o, s1.heap.get? b = some o → h₁.get? b = some o) :
    Inv (lamCx X A outer s1 HZ E scope f c') [] σ HZ { s1 with heap := h₁, toks := tk } := by
  have hfree := L.has I.ok
  have cm : ∀ {z c}, (cloFrom X.env.cells scope.names []).lookup z = some c → X.env.cells.lookup z = some c := fun {z c} e => by
    rcases cloFrom_mem (PySem.mem_of_lookup e) with hm | ⟨h1, h2⟩
    · exact nomatch hm
    · obtain ⟨c1, hc⟩ := hfree _ h1 rfl
      have hc : X.env.cells.lookup z = some c1 := hc
      have e2 : c = c1 := by rw [h2, hc] <;> rfl
      exact e2 ▸ hc
  have look : ∀ {z}, scope.names.lookup z = some .free → ∃ c, (cloFrom X.env.cells scope.names []).lookup z = some c := fun {z} hl => mem_lookup (cloFrom_has (cells := X.env.cells) (acc := []) (PySem.mem_of_lookup hl))
  have cellK : ∀ {c : Addr} {v : Option Value}, H c = none → s.heap.IsCell c v → h₁.IsCell c v := fun {c v} n ⟨o, ho, hd⟩ => by
    obtain ⟨sl, q⟩ := un.any ho n (by simp)
    exact ⟨_, kp _ _ q, hd⟩
  have noA : ∀ b : Addr, b ∉ (lamCx X A outer s1 HZ E scope f c').ex := fun b z => nomatch (show b ∈ ([] : List Addr) from z)
  refine ⟨⟨e0.mod, L.kind, rfl, rfl, Nat.le_refl _, fun y z c e1 e2 => I.ok.inj y z c (cm e1) (cm e2), fun z hz => ?_, fun z c q _ => ?_, fun _ => hd, Around.frames_deeper e0.frames, .inr ⟨rfl, rfl⟩, fun b z => absurd z (noA b), e0.bs, e0.bsz, fun b _ _ => noA b,
      fun b z => absurd z (noA b), e0.funs, e0.frf⟩,
    rfl, e0.bare, Un.kept kp, ⟨_, hns, fun i z v e1 e2 e3 => ?_⟩, fun z c e => ?_, e0.hok.fresh (Nat.le_refl _), fun z c e => ?_, fun q hq => (nomatch (show q ∈ ([] : List (Addr × Obj)) ++ [] from hq)), e0.hok.kept kp, I.len⟩
  · have hz : scope.names.lookup z = some .cell ∨ scope.names.lookup z = some .free := hz
    rcases hz with hz | hz
    · exact absurd rfl (L.own _ (PySem.mem_of_lookup hz)).1
    · exact look hz
  · exact nomatch (show false = true from q)
  · have e3 : Vis scope z := e3
    rcases e3 with k | k | k
    · have : z = y := (L.own _ (PySem.mem_of_lookup k)).2 rfl
      exact absurd (List.mem_of_getElem? (this ▸ e1)) hy
    · exact absurd rfl (L.own _ (PySem.mem_of_lookup k)).1
    · obtain ⟨m, hn, hl⟩ := I.loc
      have hvis : Vis X.env.scope z := (L.free _ (PySem.mem_of_lookup k) rfl).elim (fun k => .inr (.inl k)) (fun k => .inr (.inr k))
      obtain ⟨w', r, q⟩ := hl i z v e1 e2 hvis
      obtain ⟨c2, h2⟩ := look k
      refine ⟨w', r, .inr ⟨.inr k, c2, h2, ?_⟩⟩
      have c1 := cm h2
      rcases q with ⟨k', _⟩ | ⟨_, c3, e', u⟩
      · have k' : X.env.scope.names.lookup z = some .local := k'
        rcases L.free _ (PySem.mem_of_lookup k) rfl with k2 | k2 <;> rw [show X.env.scope.names.lookup z = _ from k2] at k' <;> cases k'
      · rw [c1] at e'
        cases e'
        exact cellK (I.freeC z _ c1) u
  · obtain ⟨w', u⟩ := I.cell z c (cm e)
    exact ⟨w', cellK (I.freeC z c (cm e)) u⟩
  · obtain ⟨v, o, ho, hd⟩ := I.cell z c (cm e)
    exact un.free c o ho (I.freeC z c (cm e)) (by simp)
/-- it is called -/
theorem act_D {cx : CXT} {Eg E : XK} {Ng : List Str} {qg a y : Str} {sg scope : Scope} {g f t c' : Addr} {cdg doc pm ctv v : Value} {params : Arguments} {body : Expr} {k i : Nat} {pn : List (Addr × Obj)} {xe : Value → Shared → Prop} {W : WX} {tb : TE} {p1 p2 : Pos}
    (I0 : Inv X pins σ H0 s0) (L : LamD X.env.scope scope y) (hy : y ∉ X.N) (of : s0.heap.get? f = some (dfObj X params body scope t doc pm c' ctv)) (ot : s0.heap.get? t = some (PySem.W.kdv_tup [v])) (nf : H0 f = none) (nt : H0 t = none) (ns : f ∉ frs X.stack) (nst : t ∉ frs X.stack)
    (nob : ∀ s : Shared, s.heap.get? t = some (PySem.W.kdv_tup [v]) → BindsTo s (PySem.W.kdv_fn "<lambda>" (X.env.qual ++ "<lambda>") params (.expr body) scope (cloFrom X.env.cells scope.names []) (.ref t) doc pm (.ref c') ctv) ⟨[], []⟩ [(y, v)])
    (tk : Takes ((gotCx X cx Ng qg sg g cdg s0 H0 Eg).tr pn xe) W) (gd : X.A.guards = some []) (rm : Room (k + 1) (X.A.deeper (envOfC qg sg s0.heap.objs.size g cdg)))
    (hbody : ∀ (A : Around) (outer : List Env) (s : Shared) (H : Hp), (A.deeper (lamEnv X scope s.heap.objs.size f c')).guards = some [] → Room k (A.deeper (lamEnv X scope s.heap.objs.size f c')) → PE (lamCx X A outer s H E scope f c') body tb)
    (hN : Ng[i]? = some a) (hv : Vis sg a) (hd : (a == ("__debug__" : Str)) = false := by decide) (hcd : (a == ("__classdict__" : Str)) = false := by decide) :
    PE ((gotCx X cx Ng qg sg g cdg s0 H0 Eg).tr pn xe) (.Call (.Name a p1) [] [] p2) (fun τ K Q => τ[i]? = some (some (.ref f)) ∧ K c' = some (CodeO c' (X.env.qual ++ "<lambda>")) ∧ (∀ cls d G, E cls d G → W cls d τ G) ∧ tb σ K Q) := by
  refine ⟨fun pinsT sT τ K Q IT ⟨e0, e1, hW, e2⟩ => ?_⟩
  have look := (pe_var (X := (gotCx X cx Ng qg sg g cdg s0 H0 Eg).tr pn xe) (pos := p1) (i := i) hN hv hd hcd).run pinsT sT τ K (fun z K1 => z = .ref f ∧ K1 = K) IT ⟨.ref f, e0, rfl, rfl⟩
  refine wpAny_Call_Name_kw (thn look fun u s1 ⟨z, K1, I1, ru, hz, hK⟩ => ?_)
  subst hz hK
  cases ru
  have nil : ∀ b : Addr, b ∈ ([] : List Addr) → False := fun b z => nomatch z
  have of1 : s1.heap.get? f = some (dfObj X params body scope t doc pm c' ctv) := I1.base.keep f _ of nf ns (nil f)
  have ot1 : s1.heap.get? t = some (PySem.W.kdv_tup [v]) := I1.base.keep t _ ot nt nst (nil t)
  obtain ⟨⟨oc, us, tq, q1, q2, q3⟩, _, _⟩ := I1.hok c' _ e1
  have ran : codeAny (model X.prog X.w) (X.A.deeper (envOfC qg sg s0.heap.objs.size g cdg)) (.call (.ref f) ⟨[], []⟩) (CR (L2.CX X.prog X.w) (envOfC qg sg s0.heap.objs.size g cdg :: X.stack) X.prog X.w K1 s1 Q E) s1 := by
    refine PySem.W.kla_callFunE rm.depth of1 rfl L.co L.gen rfl ⟨c', oc, us, tq, rfl, q1, q2, q3⟩ (nob s1 ot1 _ _ _ _ ?_)
    refine wpAny_newFunctionEnv (fun z hz => (L.own z hz).1) (fun z hz => ?_) (fun h1 hns hsb => ⟨I1.nolimit.fresh _ hsb, ?_⟩) L.kind
    · rw [List.mem_singleton.mp hz]
      exact L.par
    have keep : ∀ b o, s1.heap.get? b = some o → h1.get? b = some o := fun b o e => hsb.extBut b o (Nat.ne_of_lt (Heap.lt_size e)) (Heap.get?_push_of_some _ e)
    have J := lam_startD (E := E) (f := f) (c' := c') (tk := s1.toks + ([(y, v)] : List (Str × Value)).length) I0 L hy I1.env0 rm.hd I1.base hns keep
    have run := (hbody (X.A.deeper (envOfC qg sg s0.heap.objs.size g cdg)) (envOfC qg sg s0.heap.objs.size g cdg :: X.stack) s1 K1 gd (rm.deeper _)).run [] _ _ K1 Q J e2
    show codeAny _ _ (.expr body (lamEnv X scope s1.heap.objs.size f c')) _ _
    exact PySem.W.kla_codeExpr (wpAny_mono run (fun y s' ⟨x, K', J', rx, q⟩ => ⟨x, K', J'.os, J'.bare, J'.base, J'.hok, rx, q⟩) fun _ _ z => z)
  refine PySem.W.callWith_F0 ⟨_, _, _, _, of1⟩ (wpAny_call (codeAny_mono ran fun r s' hq => ?_))
  cases r with
  | error e => exact tk e s' (XE.of_call I1 hW hq)
  | ok fl => cases fl with
    | ret u => exact I1.after hq
    | next => exact False.elim hq
    | brk => exact False.elim hq
    | cont => exact False.elim hq
theorem pe_lamD {T : List (Addr × Str)} {TT : (XK → Hp → VK → Prop) → Hp → VK → Prop} {x a y : Str} {g c P : Addr} {k : Nat} {n : Int} {e : Expr} {pg params : Arguments} {bg : List Stmt} {sg scope : Scope} {dV kV doc pm cdv ct oc : Value} {an od : Option Addr} {osl : Array (Option Value)} {Ng : List Str} {body : Expr} {t : XK → TE} {p lpos pos : Pos}
    (gd : X.A.guards = some []) (hg : Gl X x) (hm : X.mg x = some (.ref g)) (hk : PySem.W.keepIn X.K (.ref g) = true) (lk : X.K.lookup g = some ⟨oc, od, .func (PySem.W.fnOf x x pg bg sg dV kV doc pm an cdv ct), osl⟩) (hcg : PySem.W.codeIn X.K cdv x = true)
    (hb : L2.Binds X.K (PySem.W.fnOf x x pg bg sg dV kV doc pm an cdv ct) [a] []) (Sg : FnScope Ng [a] sg) (hNg : Ng[0]? = some a) (hva : Vis sg a) (hG : GivesAt X Ng x sg g cdv bg a (X.env.qual ++ "<lambda>") TT)
    (TB : TabB X.base X.mg c P) (hcode : X.env.code = .ref c) (hmT : (P, X.env.qual ++ "<lambda>") ∈ T) (hu : ∀ p ∈ T, p.1 = P → p.2 = X.env.qual ++ "<lambda>") (rm : Room (k + 2) X.A) (L : LamD X.env.scope scope y) (hy : y ∉ X.N) (hdf : params.defaults = [e]) (hk0 : params.kw_defaults = []) (he : PE X e (tC (.int n)))
    (nob : ∀ (q : Str) (cl : List (Str × Addr)) (t : Addr) (doc pm cv ctv v : Value) (s : Shared), s.heap.get? t = some (PySem.W.kdv_tup [v]) → BindsTo s (PySem.W.kdv_fn "<lambda>" q params (.expr body) scope cl (.ref t) doc pm cv ctv) ⟨[], []⟩ [(y, v)])
    (hbody : ∀ (A : Around) (outer : List Env) (s : Shared) (H : Hp) (E : XK) (f c' : Addr), (A.deeper (lamEnv X scope s.heap.objs.size f c')).guards = some [] → Room k (A.deeper (lamEnv X scope s.heap.objs.size f c')) → PE (lamCx X A outer s H E scope f c') body (t E))
    (hdb : (x == ("__debug__" : Str)) = false := by decide) (hd : (a == ("__debug__" : Str)) = false := by decide) (hcd : (a == ("__classdict__" : Str)) = false := by decide) : PE X (.Call (.Name x p) [.Lambda params body scope lpos] [] pos) (tLam T TT t) := by
  refine ⟨fun pins s σ H Q I ⟨tabs, h⟩ => wpAny_Call_Name_kw (ld_glob I hg hm ?_ hdb)⟩
  refine PySem.W.callWith_K (h₀ := X.base) I.ok.mod.kin hk ?_ (by rfl) (by rfl)
  show wpAny _ _ (spliced ((false, eval (.Lambda params body scope lpos) X.env) :: backTo pos (starEach [] X.env))) _ _ s
  refine Calls.spliced_cons (lam_makeD I TB hcode hmT hu tabs hdf hk0 he L fun f tt c' v doc' pm' ctv H1 s' I1 ext tabs1 of ot nf nt ns nst co => Calls.spliced_nil ⟨I1.kIn, ?_⟩)
  have given := hb s' [.ref f] I1.kIn rfl
  refine wpAny_call (codeAny_mono (run_ofS (CX := C8.CX0) (Q := Q) (E := C8.E0) (H := H1) (vs := [.ref f]) lk hcg Sg rm I1.env0 given (.cons rfl .nil) rfl fun rm' => ?_) fun r s2 hq => ?_)
  · obtain ⟨t', ht, q⟩ := hG f c' s' H1 Q (fun E K Q' => t E σ K Q') (fun W pn xe E p1 p2 tk => act_D (i := 0) I1 L hy of ot nf nt ns nst (nob _ _ _ _ _ _ _ _) tk gd rm' (fun A outer s H g1 g2 => hbody A outer s H E f c' g1 g2) hNg hva hd hcd) co (h H1 ext tabs1)
    exact ⟨t', ht.nox, q⟩
  · cases r with
    | error e => exact (show False from hq).elim
    | ok fl => cases fl with
      | ret u => exact I1.after hq
      | next => exact False.elim hq
      | brk => exact False.elim hq
      | cont => exact False.elim hq
end
end KG

set_option Elab.async false
set_option linter.all false
set_option maxRecDepth 100000
set_option maxHeartbeats 4000000
/-! ### The program's own looks at a value: what they say, over data of any kind -/
namespace KR
open PySem PySem.Spec PyProof.Rows L2 KG K80
/-! the mirror -/
def tyn : PyData → String
  | .none => "NoneType" | .bool _ => "bool" | .int _ => "int" | .str _ => "str" | .list _ => "list" | .tuple _ => "tuple" | .dict _ => "dict"
def isB : PyData → Bool | .bool _ => true | _ => false
def isI : PyData → Bool | .bool _ => true | .int _ => true | _ => false
def isT : PyData → Bool | .tuple _ => true | _ => false
def isL : PyData → Bool | .list _ => true | _ => false
theorem kit_b : ∀ d, kitB (tyn d) "bool" = some (isB d)
  | .none => (by decide +kernel : kitB "NoneType" "bool" = some false)
  | .bool _ => (by decide +kernel : kitB "bool" "bool" = some true)
  | .int _ => (by decide +kernel : kitB "int" "bool" = some false)
  | .str _ => (by decide +kernel : kitB "str" "bool" = some false)
  | .list _ => (by decide +kernel : kitB "list" "bool" = some false)
  | .tuple _ => (by decide +kernel : kitB "tuple" "bool" = some false)
  | .dict _ => (by decide +kernel : kitB "dict" "bool" = some false)
theorem kit_i : ∀ d, kitB (tyn d) "int" = some (isI d)
  | .none => (by decide +kernel : kitB "NoneType" "int" = some false)
  | .bool _ => (by decide +kernel : kitB "bool" "int" = some true)
  | .int _ => (by decide +kernel : kitB "int" "int" = some true)
  | .str _ => (by decide +kernel : kitB "str" "int" = some false)
  | .list _ => (by decide +kernel : kitB "list" "int" = some false)
  | .tuple _ => (by decide +kernel : kitB "tuple" "int" = some false)
  | .dict _ => (by decide +kernel : kitB "dict" "int" = some false)
theorem kit_t : ∀ d, kitB (tyn d) "tuple" = some (isT d)
  | .none => (by decide +kernel : kitB "NoneType" "tuple" = some false)
  | .bool _ => (by decide +kernel : kitB "bool" "tuple" = some false)
  | .int _ => (by decide +kernel : kitB "int" "tuple" = some false)
  | .str _ => (by decide +kernel : kitB "str" "tuple" = some false)
  | .list _ => (by decide +kernel : kitB "list" "tuple" = some false)
  | .tuple _ => (by decide +kernel : kitB "tuple" "tuple" = some true)
  | .dict _ => (by decide +kernel : kitB "dict" "tuple" = some false)
def isNum (d : PyData) (lo hi : Int) : Bool := match d with | .int i => decide (lo ≤ i) && decide (i ≤ hi) | _ => false
def isTup (d : PyData) (lo hi : Int) : Bool := match d with | .tuple ds => decide (lo ≤ (ds.length : Int)) && decide ((ds.length : Int) ≤ hi) | _ => false
def worthOk (ns : List Int) (k w : PyData) : Bool := match k with | .int i => isNum w 0 (ns.getD i.toNat 0 - 1) | _ => false
def isSet (ns : List Int) (d : PyData) : Bool := match d with
  | .tuple [k, w] => isNum k 0 ((ns.length : Int) - 1) && worthOk ns k w
  | _ => false
theorem DqA.len {H : Hp} : ∀ {xs : List V} {ds : List PyData}, DqA H xs ds → xs.length = ds.length := by
  intro xs ds h
  induction ds generalizing xs with
  | nil => cases h; rfl
  | cons d ds ih =>
    cases h with
    | cons h1 h2 => rw [List.length_cons, List.length_cons, ih h2]
theorem ty_of {K : PySem.W.Frag} {H : Hp} {v : V} {d : PyData} (h : Dq H v d) : TyX K H v (.type (tyn d)) := by
  cases h with
  | non => exact .base .non
  | bl b => exact .base (.bl b)
  | int i => exact .base (.int i)
  | str x => exact .base (.str x)
  | lst e n r => exact .base (.lst e)
  | tup e r => exact .base (.tup e)
  | dct e => exact .base (.dK e)
section
variable {P : Program} {w : World} {K : PySem.W.Frag} {mg : Str → Option Value} {base : Heap}
/-- isinstance(x, T) -/
theorem rdIs {σ : L2.St} {H : Hp} {Q : VK} {i : Nat} {v : V} {d : PyData} {T : String} {b : Bool} (h0 : σ[i]? = some (some v)) (hd : Dq H v d) (hk : kitB (tyn d) T = some b) (q : Q (.bl b) H) : tCB (rIsi K) (tCons (tVar i) (tCons (tC (.ty T)) tNil)) σ H Q :=
  ⟨v, h0, v, .ty T, .type (tyn d), .type T, b, rfl, .ty T, ty_of hd, kit_ty hk, q⟩
abbrev sNum : Stmt := topS 18
abbrev sTup : Stmt := topS 20
abbrev sSet : Stmt := topS 21
theorem scNum : FnScope ["value", "least", "most"] ["value", "least", "most"] (defScope sNum) := ⟨rfl, rfl, rfl, by decide +kernel, rfl, by decide +kernel, by decide +kernel⟩
theorem scTup : FnScope ["value", "least", "most"] ["value", "least", "most"] (defScope sTup) := ⟨rfl, rfl, rfl, by decide +kernel, rfl, by decide +kernel, by decide +kernel⟩
theorem scSet : FnScope ["values", "value", "knob", "worth"] ["values", "value"] (defScope sSet) := ⟨rfl, rfl, rfl, by decide +kernel, rfl, by decide +kernel, by decide +kernel⟩
def spNum : Sp := fun vs H Q _ => ∃ (v : V) (d : PyData) (lo hi : Int), vs = [v, .int lo, .int hi] ∧ Dq H v d ∧ Q (.bl (isNum d lo hi)) H
theorem ok_num {f : Addr} {fd : FuncData} {k : Nat} (F : Fun K "is_number" "is_number" sNum f fd) (zs : mg "isinstance" = none) (zb : mg "bool" = none) (zi : mg "int" = none) : FnOk P w K mg base CX0 (k + 1) f fd ["value", "least", "most"] spNum := by
  refine F.ok scNum (fun vs H Q E h => ?_) (fun cdv A outer s H vs Q E hr h => ?_)
  · obtain ⟨v, d, lo, hi, rfl, _⟩ := h
    rfl
  · obtain ⟨v, d, lo, hi, rfl, hd, q⟩ := h
    refine ⟨_, pss_cons (ps_if (PW.pt (pw_or (pt_val (pe_callB call_isi (by rfl) zs PyProof.Rows.boot_isinstance (pa_cons (pv 0) (pa_cons (pe_bltn rfl zb (by decide +kernel) (show RelV (.ty "bool") (.type "bool") from rfl)) pa_nil)))) (pw_or1 (pt_not (pt_val (pe_callB call_isi (by rfl) zs PyProof.Rows.boot_isinstance (pa_cons (pv 0) (pa_cons (pe_bltn rfl zi (by decide +kernel) (show RelV (.ty "int") (.type "int") from rfl)) pa_nil)))))))) (pss_one (ps_ret pe_bl)) pss_nil)
      (pss_one (ps_ret (pe_chain op_le op_le (pv 1) (pv 0) (pv 2)))), ?_⟩
    refine ⟨v, rfl, v, .ty "bool", _, _, isB d, rfl, .ty "bool", ty_of hd, kit_ty (kit_b d), _, rfl, ?_⟩
    cases hB : isB d with
    | true =>
      refine iteT ?_
      have e : isNum d lo hi = false := by
        cases d <;> first | rfl | cases hB
      rw [e] at q
      exact q
    | false =>
      refine iteF ?_
      refine ⟨v, rfl, v, .ty "int", _, _, isI d, rfl, .ty "int", ty_of hd, kit_ty (kit_i d), _, rfl, ?_⟩
      cases hI : isI d with
      | false =>
        refine iteT ?_
        have e : isNum d lo hi = false := by
          cases d <;> first | rfl | cases hI
        rw [e] at q
        exact q
      | true =>
        refine iteF ?_
        cases hd with
        | int i =>
          refine ⟨_, rfl, _, rfl, _, _, rfl, rfl, _, rfl, ?_⟩
          have q' : Q (.bl (decide (lo ≤ i) && decide (i ≤ hi))) H := q
          refine ite2 (fun h => ?_) (fun h => ?_)
          · rw [h, Bool.true_and] at q'
            exact ⟨_, rfl, _, _, rfl, rfl, q'⟩
          · rw [show decide (lo ≤ i) = false by simpa using h, Bool.false_and] at q'
            exact q'
        | bl b => cases hB
        | _ => cases hI
def spTup : Sp := fun vs H Q _ => ∃ (v : V) (d : PyData) (lo hi : Int), vs = [v, .int lo, .int hi] ∧ Dq H v d ∧ Q (.bl (isTup d lo hi)) H
theorem ok_tup {f : Addr} {fd : FuncData} {k : Nat} (F : Fun K "is_tuple" "is_tuple" sTup f fd) (zs : mg "isinstance" = none) (zt : mg "tuple" = none) (zl : mg "len" = none) : FnOk P w K mg base CX0 (k + 1) f fd ["value", "least", "most"] spTup := by
  refine F.ok scTup (fun vs H Q E h => ?_) (fun cdv A outer s H vs Q E hr h => ?_)
  · obtain ⟨v, d, lo, hi, rfl, _⟩ := h
    rfl
  · obtain ⟨v, d, lo, hi, rfl, hd, q⟩ := h
    refine ⟨_, pss_one (ps_ret (pe_and (pe_callB call_isi (by rfl) zs PyProof.Rows.boot_isinstance (pa_cons (pv 0) (pa_cons (pe_bltn rfl zt (by decide +kernel) (show RelV (.ty "tuple") (.type "tuple") from rfl)) pa_nil)))
      (pe_one (pe_chain op_le op_le (pv 1) (pe_callB call_len_seq (by rfl) zl PySem.boot_len (pa_cons (pv 0) pa_nil)) (pv 2))))), ?_⟩
    refine ⟨v, rfl, v, .ty "tuple", _, _, isT d, rfl, .ty "tuple", ty_of hd, kit_ty (kit_t d), _, rfl, ?_⟩
    cases hT : isT d with
    | false =>
      refine iteF ?_
      have e : isTup d lo hi = false := by
        cases d <;> first | rfl | cases hT
      rw [e] at q
      exact q
    | true =>
      refine iteT ?_
      cases hd with
      | tup e r =>
        rename_i a xs ds
        refine ⟨_, rfl, _, rfl, a, xs, rfl, .inr (.inl (.inl e)), _, _, rfl, rfl, _, rfl, ?_⟩
        rw [DqA.len r]
        have q' : Q (.bl (decide (lo ≤ (ds.length : Int)) && decide ((ds.length : Int) ≤ hi))) H := q
        refine ite2 (fun h => ?_) (fun h => ?_)
        · rw [h, Bool.true_and] at q'
          exact ⟨_, rfl, _, _, rfl, rfl, q'⟩
        · rw [show decide (lo ≤ (ds.length : Int)) = false by simpa using h, Bool.false_and] at q'
          exact q'
      | _ => cases hT
end
end KR

set_option Elab.async false
set_option linter.all false
set_option maxRecDepth 100000
set_option maxHeartbeats 4000000
namespace KR
open PySem PySem.Spec PyProof.Rows L2 KG K80
/-- a def of the module, as it is called -/
structure Dfn (K : PySem.W.Frag) (mg : Str → Option Value) (x : Str) (f : Addr) (fd : FuncData) (ps : List Str) : Prop where
  gm : mg x = some (.ref f)
  kp : PySem.W.keepIn K (.ref f) = true
  bd : Binds K fd ps []
theorem isTup_two {d : PyData} (h : isTup d 2 2 = true) : ∃ k w, d = .tuple [k, w] := by
  cases d with
  | tuple ds =>
    match ds, h with
    | [k, w], _ => exact ⟨k, w, rfl⟩
    | [], h => exact absurd h (by decide)
    | [_], h => exact absurd h (by simp [isTup])
    | _ :: _ :: _ :: _, h =>
      simp [isTup] at h
      omega
  | _ => cases h
theorem isSet_not {ns : List Int} {d : PyData} (h : isTup d 2 2 = false) : isSet ns d = false := by
  cases d with
  | tuple ds =>
    match ds, h with
    | [k, w], h => exact absurd h (by simp [isTup])
    | [], _ => rfl
    | [_], _ => rfl
    | _ :: _ :: _ :: _, _ => rfl
  | _ => rfl
theorem isNum_int {d : PyData} {lo hi : Int} (h : isNum d lo hi = true) : ∃ i, d = .int i ∧ lo ≤ i ∧ i ≤ hi := by
  cases d with
  | int i =>
    simp [isNum] at h
    exact ⟨i, rfl, h.1, h.2⟩
  | _ => cases h
def knobOf : PyData → Int | .tuple (.int i :: _) => i | _ => 0
def lotGo (ns : List Int) : Int → List PyData → Bool
  | _, [] => true
  | l, d :: r => isSet ns d && (decide (l < knobOf d) && lotGo ns (knobOf d) r)
def isLot (ns : List Int) (d : PyData) : Bool := match d with | .tuple ds => isTup d 1 3 && lotGo ns (-1) ds | _ => false
theorem isSet_shape {ns : List Int} {d : PyData} (h : isSet ns d = true) : ∃ i w, d = .tuple [.int i, w] := by
  cases hT : isTup d 2 2 with
  | false =>
    rw [isSet_not hT] at h
    cases h
  | true =>
    obtain ⟨k, w, rfl⟩ := isTup_two hT
    have h' : (isNum k 0 ((ns.length : Int) - 1) && worthOk ns k w) = true := h
    obtain ⟨h1, _⟩ := (Bool.and_eq_true_iff).mp h'
    obtain ⟨i, rfl, _⟩ := isNum_int h1
    exact ⟨i, w, rfl⟩
theorem DqA.at {H : Hp} : ∀ {xs : List V} {ds : List PyData} {i : Nat} {x : V}, DqA H xs ds → xs[i]? = some x → ∃ d, ds[i]? = some d ∧ Dq H x d := by
  intro xs ds
  induction ds generalizing xs with
  | nil =>
    intro i x h e
    cases h
    simp at e
  | cons d ds ih =>
    intro i x h e
    cases h with
    | cons h1 h2 =>
      cases i with
      | zero => exact ⟨d, rfl, (Option.some.inj e) ▸ h1⟩
      | succ i => exact ih h2 e
theorem drop_at {α : Type} {l : List α} {i : Nat} {x : α} (h : l[i]? = some x) : l.drop i = x :: l.drop (i + 1) := by
  obtain ⟨h1, h2⟩ := List.getElem?_eq_some_iff.mp h
  rw [List.drop_eq_getElem_cons h1, h2]
section
variable {P : Program} {w : World} {K : PySem.W.Frag} {mg : Str → Option Value} {base : Heap}
def spSet : Sp := fun vs H Q _ => ∃ (va : Addr) (ns : List Int) (v : V) (d : PyData), vs = [.ref va, v] ∧ H va = some (.tup (ns.map V.int)) ∧ Dq H v d ∧ Q (.bl (isSet ns d)) H
theorem ok_set {f fN fT : Addr} {fd fdN fdT : FuncData} {k : Nat} (F : Fun K "is_setting" "is_setting" sSet f fd) (dN : Dfn K mg "is_number" fN fdN ["value", "least", "most"]) (GN : FnOk P w K mg base CX0 (k + 1) fN fdN ["value", "least", "most"] spNum)
    (dT : Dfn K mg "is_tuple" fT fdT ["value", "least", "most"]) (GT : FnOk P w K mg base CX0 (k + 1) fT fdT ["value", "least", "most"] spTup) (zl : mg "len" = none) : FnOk P w K mg base CX0 (k + 2) f fd ["values", "value"] spSet := by
  refine F.ok scSet (fun vs H Q E h => ?_) (fun cdv A outer s H vs Q E hr h => ?_)
  · obtain ⟨va, ns, v, d, rfl, _⟩ := h
    rfl
  · obtain ⟨va, ns, v, d, rfl, hva, hd, q⟩ := h
    refine ⟨_, pss_cons (ps_if (pt_not (pt_val (pe_call GT hr (by rfl) dT.gm dT.kp dT.bd .nil pass0 (pa_cons (pv 1) (pa_cons pe_int (pa_cons pe_int pa_nil)))))) (pss_one (ps_ret pe_bl)) pss_nil)
      (pss_cons (ps_asg (pv 1) (pg_tup rfl (pgs_cons (pg_name (i := 2) scSet.nd rfl (.inl rfl)) (pgs_cons (pg_name (i := 3) scSet.nd rfl (.inl rfl)) pgs_nil))))
      (pss_one (ps_ret (pe_and (pe_call GN hr (by rfl) dN.gm dN.kp dN.bd .nil pass0 (pa_cons (pv 2) (pa_cons pe_int (pa_cons (pe_op op_sub (pe_callB call_len_seq (by rfl) zl PySem.boot_len (pa_cons (pv 0) pa_nil)) pe_int) pa_nil))))
        (pe_one (pe_call GN hr (by rfl) dN.gm dN.kp dN.bd .nil pass0 (pa_cons (pv 3) (pa_cons pe_int (pa_cons (pe_op op_sub (pe_ix ix_tup (pv 0) (pv 2) (fun _ _ => rfl)) pe_int) pa_nil))))))))), ?_⟩
    refine ⟨v, rfl, v, d, 2, 2, rfl, hd, _, rfl, ?_⟩
    cases hT : isTup d 2 2 with
    | false =>
      refine iteT ?_
      rw [isSet_not hT] at q
      exact q
    | true =>
      refine iteF ?_
      obtain ⟨dk, dw, rfl⟩ := isTup_two hT
      cases hd with
      | tup e r =>
        cases r with
        | cons h1 r =>
          cases r with
          | cons h2 r =>
            cases r
            rename_i a v1 v2
            refine ⟨_, rfl, a, _, rfl, .inl (.inl e), rfl, v1, [v2], rfl, v2, [], rfl, rfl, ?_⟩
            refine ⟨v1, rfl, .ref va, rfl, va, _, rfl, .inr (.inl (.inl hva)), _, _, rfl, rfl, v1, dk, 0, _, rfl, h1, _, rfl, ?_⟩
            rw [List.length_map]
            have q' : Q (.bl (isNum dk 0 ((ns.length : Int) - 1) && worthOk ns dk dw)) H := q
            cases hk : isNum dk 0 ((ns.length : Int) - 1) with
            | false =>
              refine iteF ?_
              rw [hk, Bool.false_and] at q'
              exact q'
            | true =>
              refine iteT ?_
              rw [hk, Bool.true_and] at q'
              obtain ⟨i, rfl, hi0, hi1⟩ := isNum_int hk
              cases h1
              have hil : i.toNat < ns.length := by omega
              have hat : atI (ns.map V.int) i = some (V.int (ns.getD i.toNat 0)) := by
                refine at_of (j := i.toNat) (by omega) ?_
                rw [List.getElem?_map, List.getElem?_eq_getElem hil, List.getD_eq_getElem?_getD, List.getElem?_eq_getElem hil]
                rfl
              exact ⟨v2, rfl, .ref va, rfl, .int i, rfl, va, _, i, _, rfl, rfl, .inl (.inl hva), hat, _, _, rfl, rfl, v2, dw, 0, _, rfl, h2, q'⟩
abbrev sStgs : Stmt := topS 22
theorem scStgs : FnScope ["values", "value", "least", "most", "last_knob", "setting"] ["values", "value", "least", "most"] (defScope sStgs) := ⟨rfl, rfl, rfl, by decide +kernel, rfl, by decide +kernel, by decide +kernel⟩
def isStgs (ns : List Int) (lo hi : Int) (d : PyData) : Bool := match d with | .tuple ds => isTup d lo hi && lotGo ns (-1) ds | _ => false
theorem isLot_stgs (ns : List Int) (d : PyData) : isLot ns d = isStgs ns 1 3 d := by cases d <;> rfl
def spStgs : Sp := fun vs H Q _ => ∃ (va : Addr) (ns : List Int) (v : V) (d : PyData) (lo hi : Int), vs = [.ref va, v, .int lo, .int hi] ∧ H va = some (.tup (ns.map V.int)) ∧ Dq H v d ∧ Q (.bl (isStgs ns lo hi d)) H
theorem ok_stgs {f fS fT : Addr} {fd fdS fdT : FuncData} {k : Nat} (F : Fun K "is_settings" "is_settings" sStgs f fd) (dS : Dfn K mg "is_setting" fS fdS ["values", "value"]) (GS : FnOk P w K mg base CX0 (k + 1) fS fdS ["values", "value"] spSet)
    (dT : Dfn K mg "is_tuple" fT fdT ["value", "least", "most"]) (GT : FnOk P w K mg base CX0 (k + 1) fT fdT ["value", "least", "most"] spTup) : FnOk P w K mg base CX0 (k + 2) f fd ["values", "value", "least", "most"] spStgs := by
  refine F.ok scStgs (fun vs H Q E h => ?_) (fun cdv A outer s H vs Q E hr h => ?_)
  · obtain ⟨va, ns, v, d, lo, hi, rfl, _⟩ := h
    rfl
  · obtain ⟨va, ns, v, d, lo, hi, rfl, hva, hd, q⟩ := h
    refine ⟨_, pss_cons (ps_if (pt_not (pt_val (pe_call GT hr (by rfl) dT.gm dT.kp dT.bd .nil pass0 (pa_cons (pv 1) (pa_cons (pv 2) (pa_cons (pv 3) pa_nil)))))) (pss_one (ps_ret pe_bl)) pss_nil)
      (pss_cons (ps_set (i := 4) scStgs.nd rfl (.inl rfl) (pe_un un_neg pe_int))
      (pss_cons (ps_for PassesOwn.never rfl (pi_tup (pv 1)) (pg_name (i := 5) scStgs.nd rfl (.inl rfl))
        (pss_cons (ps_if (PW.pt (pw_or (pt_not (pt_val (pe_call GS hr (by rfl) dS.gm dS.kp dS.bd .nil pass0 (pa_cons (pv 0) (pa_cons (pv 5) pa_nil))))) (pw_or1 (pt_cmpR op_le (pe_ix ix_tup (pv 5) pe_int (fun _ _ => rfl)) (pv 4) (nomark _))))) (pss_one (ps_ret pe_bl)) pss_nil)
        (pss_one (ps_set (i := 4) scStgs.nd rfl (.inl rfl) (pe_ix ix_tup (pv 5) pe_int (fun _ _ => rfl))))))
      (pss_one (ps_ret pe_bl)))), ?_⟩
    refine ⟨v, rfl, _, rfl, _, rfl, v, d, lo, hi, rfl, hd, _, rfl, ?_⟩
    cases hT : isTup d lo hi with
    | false =>
      refine iteT ?_
      have e : isStgs ns lo hi d = false := by
        cases d with
        | tuple ds =>
          show (isTup (.tuple ds) lo hi && lotGo ns (-1) ds) = false
          rw [hT, Bool.false_and]
        | _ => rfl
      rw [e] at q
      exact q
    | true =>
      refine iteF ?_
      cases hd with
      | tup e r =>
        rename_i a xs ds
        have q' : Q (.bl (lotGo ns (-1) ds)) H := by
          have z : isStgs ns lo hi (.tuple ds) = lotGo ns (-1) ds := by
            show (isTup (.tuple ds) lo hi && lotGo ns (-1) ds) = _
            rw [hT, Bool.true_and]
          rw [z] at q
          exact q
        refine ⟨_, rfl, ?_⟩
        refine ⟨_, rfl, a, rfl, ⟨xs, .inl (.inl e)⟩, for_tup (K := K) (a := a) (xs := xs) (fun i σ H' => ∃ (last : Int) (y : Option V), σ = [some (.ref va), some (.ref a), some (.int lo), some (.int hi), some (.int last), y] ∧ H' = H ∧ lotGo ns (-1) ds = lotGo ns last (ds.drop i)) ⟨-1, none, rfl, rfl, rfl⟩ ?_ ?_ ?_⟩
        · rintro i σ H' _ ⟨_, _, _, rfl, _⟩
          exact .inl (.inl e)
        · rintro i x σ H' hx ⟨last, y, rfl, rfl, hl⟩
          obtain ⟨dx, hdx, hqx⟩ := DqA.at r hx
          rw [drop_at hdx] at hl
          have hl' : lotGo ns (-1) ds = (isSet ns dx && (decide (last < knobOf dx) && lotGo ns (knobOf dx) (ds.drop (i + 1)))) := hl
          refine ⟨.ref va, rfl, x, rfl, va, ns, x, dx, rfl, hva, hqx, _, rfl, ?_⟩
          cases hS : isSet ns dx with
          | false =>
            refine iteT (iteT ?_)
            rw [hl', hS, Bool.false_and] at q'
            exact q'
          | true =>
            refine iteF ?_
            obtain ⟨ik, dw, rfl⟩ := isSet_shape hS
            cases hqx with
            | tup e2 r2 =>
              cases r2 with
              | cons h1 r3 =>
                cases h1
                rename_i t vs'
                refine ⟨.ref t, rfl, t, _, 0, .int ik, rfl, rfl, .inl (.inl e2), L2.at_of (j := 0) rfl rfl, _, rfl, _, _, rfl, rfl, _, rfl, ?_⟩
                rw [hS, Bool.true_and] at hl'
                have hl2 : lotGo ns (-1) ds = (decide (last < ik) && lotGo ns ik (ds.drop (i + 1))) := hl'
                refine ite2 (fun hle => ?_) (fun hle => ?_)
                · have hle' : ik ≤ last := by simpa using hle
                  rw [hl2, show decide (last < ik) = false from decide_eq_false (by omega), Bool.false_and] at q'
                  exact q'
                · have hle' : ¬ ik ≤ last := by simpa using hle
                  rw [show decide (last < ik) = true from decide_eq_true (by omega), Bool.true_and] at hl2
                  exact ⟨.ref t, rfl, t, _, 0, .int ik, rfl, rfl, .inl (.inl e2), L2.at_of (j := 0) rfl rfl, ik, _, rfl, rfl, hl2⟩
        · rintro σ H' ⟨last, y, rfl, rfl, hl⟩
          rw [DqA.len r, List.drop_length] at hl
          rw [hl] at q'
          exact q'
      | _ => cases hT
abbrev sLot : Stmt := topS 23
theorem scLot : FnScope ["values", "value"] ["values", "value"] (defScope sLot) := ⟨rfl, rfl, rfl, by decide +kernel, rfl, by decide +kernel, by decide +kernel⟩
def spLot : Sp := fun vs H Q _ => ∃ (va : Addr) (ns : List Int) (v : V) (d : PyData), vs = [.ref va, v] ∧ H va = some (.tup (ns.map V.int)) ∧ Dq H v d ∧ Q (.bl (isLot ns d)) H
theorem ok_lot {f fS : Addr} {fd fdS : FuncData} {k : Nat} {tk : Tok} (F : Fun K "is_lot" "is_lot" sLot f fd) (dS : Dfn K mg "is_settings" fS fdS ["values", "value", "least", "most"]) (GS : FnOk P w K mg base CX0 (k + 1) fS fdS ["values", "value", "least", "most"] spStgs)
    (gM : mg "MOST_SETTINGS" = some (.int 3 tk)) : FnOk P w K mg base CX0 (k + 2) f fd ["values", "value"] spLot := by
  refine F.ok scLot (fun vs H Q E h => ?_) (fun cdv A outer s H vs Q E hr h => ?_)
  · obtain ⟨va, ns, v, d, rfl, _⟩ := h
    rfl
  · obtain ⟨va, ns, v, d, rfl, hva, hd, q⟩ := h
    refine ⟨_, pss_one (ps_ret (pe_call GS hr (by rfl) dS.gm dS.kp dS.bd .nil pass0 (pa_cons (pv 0) (pa_cons (pv 1) (pa_cons pe_int (pa_cons (pe_glob rfl gM (v := .int 3) ⟨_, rfl⟩) pa_nil)))))), ?_⟩
    rw [isLot_stgs] at q
    exact ⟨.ref va, rfl, v, rfl, va, ns, v, d, 1, 3, rfl, hva, hd, q⟩
end
end KR

set_option Elab.async false
set_option linter.all false
set_option maxRecDepth 100000
set_option maxHeartbeats 2000000
/-! ### for i, x in enumerate(tuple) -/
namespace KT
open PySem PySem.Spec PyProof.Rows L2
/-- enumerate(v), v what begins so: its two new cells -/
theorem meets_enum1 {v : Value} {o : Obj} {H : Heap → Prop} (B : Begins v o H) :
    Meets (Builtin.«enumerate.__new__» ⟨[.type "enumerate", v], []⟩) (fun _ R s => H s.heap ∧
      R (.ok (.ret (.ref (s.heap.push o).objs.size))) { s with heap := (s.heap.push o).push { cls := .type "enumerate", data := .fields #[.none, .bool false, .ref s.heap.objs.size, rawInt 0, .none, .none] } }) :=
  .of_wp fun prog w A R s h => by
    obtain ⟨hp, g, d, tk, os⟩ := s
    obtain ⟨h1, h⟩ := h
    have hsub := sub_enumerate
    have q1 : ∀ {A' : Around} {E : Value → Shared → Prop} {Q : Value → Shared → Prop}, Q (.ref hp.objs.size) ⟨hp.push o, g, d, tk, os⟩ → wpAny (model prog w) A' (pyIter v) Q E ⟨hp, g, d, tk, os⟩ :=
      fun q => B.iter prog w _ _ ⟨hp, g, d, tk, os⟩ _ h1 q
    wp_walk using q1
    refine wpAny_stack_any fun st => wpAny_pure ?_
    split
    · rename_i c _ _ _ _ _
      cases (c == Value.type "enumerate") <;> (wp_walk using q1; exact ⟨_, rfl, h⟩)
    · wp_walk using q1
      exact ⟨_, rfl, h⟩
section
variable {prog : Program} {w : World} {A : Around} {E : Value → Shared → Prop} {s : Shared}
theorem enum1_begins {v : Value} {o : Obj} {H : Heap → Prop} {Q : Value → Shared → Prop} (B : Begins v o H) (h1 : H s.heap)
    (h : ∀ h', IsEnum h' (s.heap.objs.size + 1) s.heap.objs.size 0 .none → h'.get? s.heap.objs.size = some o → (∀ b o, s.heap.get? b = some o → h'.get? b = some o) → Q (.ref (s.heap.objs.size + 1)) { s with heap := h' }) :
    wpAny (model prog w) A (call (.type "enumerate") [v]) Q E s := by
  refine callType_new F.called_enumerate (by decide) (F.typeCall_enumerate_1 _) (F.newCall_enumerate_1 _) (fun obj => F.args_object_init_2 obj _) F.entry_enumerate_new (meets_enum1 B) ⟨h1, ?_⟩
  have hz : (s.heap.push o).objs.size = s.heap.objs.size + 1 := Heap.size_push ..
  show _ ∧ _
  rw [hz]
  have he : IsEnum ((s.heap.push o).push { cls := .type "enumerate", data := .fields #[.none, .bool false, .ref s.heap.objs.size, rawInt 0, .none, .none] }) (s.heap.objs.size + 1) s.heap.objs.size 0 .none := by
    have z := Heap.get?_push_size (s.heap.push o) (o := { cls := .type "enumerate", data := .fields #[.none, .bool false, .ref s.heap.objs.size, rawInt 0, .none, .none] }) rfl
    rwa [hz] at z
  exact ⟨⟨_, he, rfl⟩, h _ he (Heap.get?_push_of_some _ (Heap.get?_push_size _ B.free)) fun b o x => Heap.get?_push_of_some _ (Heap.get?_push_of_some _ x)⟩
end
/-- the tuple at a, each item in a new pair -/
def IteT (K : PySem.W.Frag) (a : Addr) : It :=
  ⟨fun i H => ∃ (xs : List V) (x : V), SqT K H a xs ∧ xs[i]? = some x, fun i H v H' => ∃ T x, v = .ref T ∧ H T = none ∧ H' = upd H T (.tup [.int (i : Nat), x]) ∧ ∀ xs, SqT K H a xs → xs[i]? = some x, fun i H => ∃ xs : List V, SqT K H a xs ∧ xs.length = i⟩
theorem turn_enumT {P : Program} {w : World} {K : PySem.W.Frag} {elts : List Expr} {kk : Nat} {tpos : Pos} (a e it : Addr) :
    Turn P w K (.Tuple elts kk tpos) (IteT K a) [e, it] e (fun i h => (∃ old, IsEnum h e it ((i : Nat) : Int) old) ∧ h.IsTupleIter it a i ∧ e ≠ it ∧ a ≠ it ∧ a ≠ e) where
  mem := by simp
  obj := fun i h st b hb => by
    obtain ⟨⟨old, he⟩, ⟨o, ho, hc, hd⟩, _⟩ := st
    have e' : b = e ∨ b = it := by simpa using hb
    rcases e' with z | z
    · exact z ▸ ⟨_, he, fun v q => nomatch q⟩
    · exact z ▸ ⟨o, ho, fun v q => by rw [hd] at q; cases q⟩
  keep := fun i h h' st k => let ⟨⟨old, he⟩, ⟨o, ho, r⟩, hne⟩ := st; ⟨⟨old, k e (by simp) _ he⟩, ⟨o, k it (by simp) o ho, r⟩, hne⟩
  item := by
    intro X hP hw hK hc i pins s σ H E I hf st hg
    subst hP hw hK
    obtain ⟨⟨old, he⟩, hit, hne, hai, hae⟩ := st
    obtain ⟨xs, x, hq, hx⟩ := hg
    obtain ⟨its, rv, p, hz⟩ := I.tuple hq
    obtain ⟨u, hu, ru⟩ := rv.get hx
    have hel : e < s.heap.objs.size := Heap.lt_size he
    have hil : it < s.heap.objs.size := by obtain ⟨_, q, _⟩ := hit; exact Heap.lt_size q
    have hlt : i < its.toArray.size := by
      have := (List.getElem?_eq_some_iff.mp hu).1
      simpa using this
    refine wpAny_pyNext_enum_itemD (Draws.tuple (A := X.A.in1) (I.ok.hd hc) it a hai its.toArray) he ⟨hit, p⟩ hlt hne (by simp [hne, Ne.symm hae]) fun y h' tk hP ho hst hT hsz hk => ?_
    have ey : y = u := by
      have hP' : its.toArray[i]? = some y := hP
      rw [List.getElem?_toArray, hu] at hP'
      exact (Option.some.inj hP').symm
    subst ey
    refine ⟨_, rfl, wpAny_letOwnedTupleGo_enum (s := { s with heap := h', toks := tk + 1 }) ho fun h'' he' sb => ?_⟩
    have hT2 : h''.get? s.heap.objs.size = some { cls := .type "tuple", data := .seq #[.int i tk, y] } := (sb.2 _ (Nat.ne_of_gt hel)).trans hT
    have new : ObjOk X.prog X.w (upd H s.heap.objs.size (.tup [.int (i : Nat), x])) h'' s.heap.objs.size (.tup [.int (i : Nat), x]) :=
      ⟨by show 2 ≤ sizeLine; decide, [.int i tk, y], .cons ⟨_, rfl⟩ (.cons ru .nil), ⟨_, hT2, rfl, _, rfl⟩⟩
    have I1 : Inv X pins σ (upd H s.heap.objs.size (.tup [.int (i : Nat), x])) { s with heap := h'', toks := tk + 1 } :=
      I.turnedNew (ch := [e, it]) (fun b ob hb q => (sb.2 b (fun z => hb (by simp [z]))).trans (hk b ob (fun z => hb (by simp [z])) (fun z => hb (by simp [z])) q)) hf (Nat.le_refl _) new
    refine ⟨.ref s.heap.objs.size, _, I1, rfl, ⟨_, x, rfl, I.hok.fresh (Nat.le_refl _), rfl, fun ys hy => by rw [I.tuple_inj hy hq]; exact hx⟩, ⟨⟨y, ?_⟩, hst.1.at fun o q => (sb.2 it (Ne.symm hne)).trans q, hne, hai, hae⟩, fun b hb => ?_⟩
    · have e1 : ((i + 1 : Nat) : Int) = (i : Int) + 1 := by omega
      rw [e1]
      exact he'
    · have hb' : b < s.heap.objs.size := by
        have e' : b = e ∨ b = it := by simpa using hb
        rcases e' with z | z
        · exact z ▸ hel
        · exact z ▸ hil
      rw [upd_ne (Nat.ne_of_lt hb')]
      exact (hf b hb).1
  done := by
    intro X hP hw hK hc i pins s σ H E I hf st hg
    subst hP hw hK
    obtain ⟨⟨old, he⟩, hit, hne, hai, hae⟩ := st
    obtain ⟨xs, hq, hx⟩ := hg
    obtain ⟨its, rv, p, hz⟩ := I.tuple hq
    obtain ⟨f0, f1, f2, f3, f4, f5⟩ := hf it (by simp)
    have el : i = its.toArray.size := by
      rw [List.size_toArray, ← rv.length]
      exact hx.symm
    subst el
    exact wpAny_pyNext_enum_endD (Draws.tuple (A := X.A.in1) (I.ok.hd hc) it a hai its.toArray) he ⟨hit, p⟩ fun h' eb => ⟨rfl, I.turned (t' := s.toks) (fun b o hb q => eb b o hb q) f0 f1 f3 f4 f5⟩
  self := fun A i s Q E st h => let ⟨⟨_, he⟩, _⟩ := st; wpAny_pyIter_enum he h
def iEnumT (K : PySem.W.Frag) (ta : TA) : TI := fun σ H R => ta σ H fun vs H1 => ∃ a xs, vs = [.ref a] ∧ SqT K H1 a xs ∧ R (IteT K a) H1
theorem pi_enumT {X : Cx} {e : Expr} {ta : TA} {p pos tpos : Pos} {elts : List Expr} {kk : Nat} (hg : Gl X "enumerate") (hm : X.mg "enumerate" = none) (ha : PA X [e] ta) (hs : starEach [e] X.env = [(false, eval e X.env)] := by rfl) :
    PI X (.Tuple elts kk tpos) (.Call (.Name "enumerate" p) [e] [] pos) (iEnumT X.K ta) := by
  refine ⟨fun pins s σ H R I h => ?_⟩
  refine Call_ (ld_blt I hg hm boot_enumerate (PyProof.Rows.callWith_type1 (thn (ha.run pos pins s σ H _ I h) fun us s1 ⟨vs, H1, I1, r1, a, xs, ex, hq, q⟩ => ?_) hs rfl))
  subst ex
  cases r1 with
  | cons r rr =>
    cases rr
    cases r
    obtain ⟨its, rv, p', hz⟩ := I1.tuple hq
    have ha : a < s1.heap.objs.size := by
      obtain ⟨o, ho, _⟩ := p'
      exact Heap.lt_size ho
    refine enum1_begins (begins_tuple a its.toArray) p' fun h' he hit hk => wpAny_pyIter_enum he ?_
    have I2 : Inv X pins σ H1 { s1 with heap := h' } := I1.kept (t' := s1.toks) hk
    refine ⟨s1.heap.objs.size + 1, [s1.heap.objs.size + 1, s1.heap.objs.size], _, _, H1, rfl, I2, turn_enumT a (s1.heap.objs.size + 1) s1.heap.objs.size, ⟨⟨.none, he⟩, ⟨_, hit, rfl, rfl⟩, Nat.succ_ne_self _, Nat.ne_of_lt ha, Nat.ne_of_lt (Nat.lt_succ_of_lt ha)⟩, fun b hb => ?_, q⟩
    have e' : b = s1.heap.objs.size + 1 ∨ b = s1.heap.objs.size := by simpa using hb
    have hle : s1.heap.objs.size ≤ b := by
      rcases e' with z | z
      · exact z ▸ Nat.le_add_right _ _
      · exact z ▸ Nat.le_refl _
    exact I1.fpOk hle (I1.hok.fresh hle)
theorem walk_enumT {K : PySem.W.Frag} {a : Addr} {xs : List V} : Walk (IteT K a) xs.length (fun H => SqT K H a xs) (YPair (fun i => some (.int (i : Nat))) (fun i => xs[i]?)) := by
  refine ⟨fun i _ hi q => ⟨xs, xs[i], q, by simp [hi]⟩, fun _ q => ⟨xs, q, rfl⟩, fun i H v H' _ q y => ?_⟩
  obtain ⟨T, x, h1, h2, h3, h4⟩ := y
  exact ⟨T, .int (i : Nat), x, h1, h2, h3, rfl, h4 xs q⟩
end KT

set_option Elab.async false
set_option linter.all false
set_option maxRecDepth 100000
set_option maxHeartbeats 4000000
/-! ### An own error that is raised; lots in their order -/
namespace KR
open PySem PySem.Spec PyProof.Rows L2 KG K80 KT
open PySem.W (alike alikeAll dataLt le_data)
abbrev ve : List Value := [.type "ValueError", .type "Exception", .type "BaseException", .type "object"]
def Okd (H : Hp) (y : V) : Prop := ∃ d, Dq H y d ∧ Shw d
def Any (_ : Hp) (_ : V) : Prop := True
/-- an __init__ that keeps one field; ok: what its text asks of the value -/
def spIni (K : PySem.W.Frag) (ok : Hp → V → Prop) (f : Str) : Sp := fun vs H Q _ => ∃ (a C : Addr) (y : V), vs = [.ref a, y] ∧ XB K C "ValueError.__new__" ve ∧ PySem.W.takerIn K C f = some none ∧ H a = some (exo a C none) ∧ ok H y ∧
  ∀ dx, H dx = none → dx ≠ a → Q .non (upd (upd H dx (exd dx [(f, y)])) a (exo a C (some dx)))
/-- what the written part says of FaultError, at F0 -/
structure FE (K : PySem.W.Frag) (mg : Str → Option Value) (F0 : Addr) : Prop where
  gF : mg "FaultError" = some (.ref F0)
  ga : PySem.W.specialIn K (.ref F0) "__getattribute__" = some (some (.builtin "type.__getattribute__"))
  rd : PySem.W.readsIn K F0 (.type "type") = true
  fc : PySem.W.findCls K (.ref F0) (.type "type") "__init__" = some (.val (.builtin "ValueError.__init__"))
/-- an own error with one field -/
structure Ow (P : Program) (w : World) (K : PySem.W.Frag) (mg : Str → Option Value) (base : Heap) (ok : Hp → V → Prop) (x f : Str) (C : Addr) : Prop where
  gm : mg x = some (.ref C)
  xb : XB K C "ValueError.__new__" ve
  ta : PySem.W.takerIn K C f = some none
  sb : PySem.W.subIn K (.ref C) (.type "BaseException") = some true
  ty : PySem.W.typeIn K (.ref C) = some (.type "type")
  ini : ∃ (fI : Addr) (fd : FuncData), PySem.W.findIn K (.ref C) "__init__" = some (some (.ref fI)) ∧ PySem.W.typeIn K (.ref fI) = some (.type "function") ∧ FnG P w K mg base 1 fI fd ["self", f] (spIni K ok f) ∧ Binds K fd ["self", f] []
/-- what is kept when a heap only grows -/
def Stays (ok : Hp → V → Prop) : Prop := ∀ H H' y, Same H H' → ok H y → ok H' y
theorem stays_okd : Stays Okd := fun H H' y S ⟨d, h1, h2⟩ => ⟨d, h1.same S, h2⟩
theorem stays_any : Stays Any := fun _ _ _ _ _ => trivial
section
variable {P : Program} {w : World} {K : PySem.W.Frag} {mg : Str → Option Value} {base : Heap} {x f : Str} {C : Addr} {ok : Hp → V → Prop} {E : XK}
/-- what is behind such a raise -/
theorem raise_end (O : Ow P w K mg base ok x f C) (so : Stays ok) {H1 : Hp} {y : V} (h : ok H1 y) (q : ∀ dx H', Same H1 H' → H' dx = some (.xd [(f, y)]) → E (.ref C) (some dx) H') :
    [y].length ≤ 1000 ∧ ∀ a, H1 a = none → spIni K ok f (.ref a :: [y]) (upd H1 a (exo a C none)) (fun v H2 => v = .non ∧ ∃ (d : Addr) (fs : List (Str × V)), H2 a = some (exo a C (some d)) ∧ H2 d = some (exd d fs) ∧ H1 d = none ∧ E (.ref C) (some d) (upd (del H2 a) d (.xd fs))) E0 := by
  refine ⟨by show 1 ≤ 1000; decide, fun a n => ⟨a, C, y, rfl, O.xb, O.ta, upd_same, so _ _ _ (same_upd n) h, fun dx n2 ne => ⟨rfl, dx, [(f, y)], upd_same, ?_, ?_, q dx _ (fun b o e => ?_) upd_same⟩⟩⟩
  · rw [upd_ne ne]
    exact upd_same
  · rw [upd_ne ne] at n2
    exact n2
  · have hb : b ≠ a := fun z => by rw [z, n] at e; cases e
    have n3 : H1 dx = none := by
      rw [upd_ne ne] at n2
      exact n2
    have hd : b ≠ dx := fun z => by rw [z, n3] at e; cases e
    rw [upd_ne hd, del_ne hb, upd_ne hb, upd_ne hd, upd_ne hb]
    exact e
end
/-! the mirror -/
def fwGo (ns : List Int) : Nat → Option PyData → List PyData → Option Nat
  | _, _, [] => none
  | i, p, d :: r => if isLot ns d = false then some i else match p with
    | none => fwGo ns (i + 1) (some d) r
    | some p => if dataLt p d = true then fwGo ns (i + 1) (some d) r else some i
def fw (ns : List Int) (ds : List PyData) : Option Nat := fwGo ns 0 none ds
def firstBad (p : PyData → Bool) : Nat → List PyData → Option Nat
  | _, [] => none
  | i, d :: r => if p d = true then firstBad p (i + 1) r else some i
def wrongVals (d : PyData) : Option PyData := match d with
  | .tuple ds => if isTup d 1 5 = true then (firstBad (fun x => isNum x 2 4) 0 ds).map fun i => .tuple [.int 0, .int (i : Nat)] else some (.tuple [.int 0])
  | _ => some (.tuple [.int 0])
def intsOf : PyData → List Int
  | .tuple ds => ds.map fun d => match d with | .int i => i | _ => 0
  | _ => []
def wrongBar (ns : List Int) (d : PyData) : Option PyData := match d with
  | .tuple ds => if isTup d 0 6 = true then (fw ns ds).map fun i => .tuple [.int 1, .int (i : Nat)] else some (.tuple [.int 1])
  | _ => some (.tuple [.int 1])
def wrongRig (d : PyData) : Option PyData := match d with
  | .tuple [v, b] => match wrongVals v with | some p => some p | none => wrongBar (intsOf v) b
  | _ => some (.tuple [])
theorem lots_alike {ns ms : List Int} {d d' : PyData} (h : isLot ns d = true) (h' : isLot ms d' = true) : alike d d' = true := by
  have go : ∀ (ds : List PyData) (ns : List Int) (l : Int), lotGo ns l ds = true → ∀ x ∈ ds, ∃ i j, x = .tuple [.int i, .int j] := by
    intro ds
    induction ds with
    | nil =>
      intro ns l _ x hx
      cases hx
    | cons y r ih =>
      intro ns l h x hx
      have h2 : (isSet ns y && (decide (l < knobOf y) && lotGo ns (knobOf y) r)) = true := h
      rw [Bool.and_eq_true, Bool.and_eq_true] at h2
      rcases List.mem_cons.mp hx with e | e
      · subst e
        obtain ⟨i, w, rfl⟩ := isSet_shape h2.1
        have h3 : (isNum (.int i) 0 ((ns.length : Int) - 1) && isNum w 0 (ns.getD i.toNat 0 - 1)) = true := h2.1
        rw [Bool.and_eq_true] at h3
        obtain ⟨j, rfl, _⟩ := isNum_int h3.2
        exact ⟨i, j, rfl⟩
      · exact ih ns _ h2.2.2 x e
  have all : ∀ xs ys : List PyData, (∀ x ∈ xs, ∃ i j, x = .tuple [.int i, .int j]) → (∀ x ∈ ys, ∃ i j, x = .tuple [.int i, .int j]) → alikeAll xs ys = true := by
    intro xs
    induction xs with
    | nil =>
      intro ys _ _
      simp [alikeAll]
    | cons x xs ih =>
      intro ys hx hy
      cases ys with
      | nil => simp [alikeAll]
      | cons y ys =>
        obtain ⟨i, j, rfl⟩ := hx x (by simp)
        obtain ⟨i', j', rfl⟩ := hy y (by simp)
        have z := ih ys (fun x hx' => hx x (by simp [hx'])) (fun x hx' => hy x (by simp [hx']))
        simp [alikeAll, alike, z]
  cases d with
  | tuple xs =>
    cases d' with
    | tuple ys =>
      have e1 : (isTup (.tuple xs) 1 3 && lotGo ns (-1) xs) = true := h
      have e2 : (isTup (.tuple ys) 1 3 && lotGo ms (-1) ys) = true := h'
      rw [Bool.and_eq_true] at e1 e2
      have z := all xs ys (go xs ns _ e1.2) (go ys ms _ e2.2)
      simp [alike, z]
    | _ => cases h'
  | _ => cases h
theorem lot_depth {ns : List Int} {d : PyData} (h : isLot ns d = true) : d ≠ .none := by
  intro e
  rw [e] at h
  cases h
/-- x <= y, nested tuples that are alike -/
def rLeD : R2 := fun x y H Q => ∃ dx dy, Dq H x dx ∧ Dq H y dy ∧ alike dx dy = true ∧ dx ≠ .none ∧ dx.depth ≤ 16 ∧ Q (.bl (!dataLt dy dx)) H
theorem op_leD {X : Cx} (hu : X.A.units + 64 < cLine) : OpR X (compareOp .LtE) rLeD := by
  intro pins s σ H x y v u Q I rx ry h
  obtain ⟨dx, dy, hx, hy, ha, hn, hd, q⟩ := h
  obtain ⟨as, r1, _⟩ := Dq.reads I dx _ _ hx rx
  obtain ⟨bs, r2, _⟩ := Dq.reads I dy _ _ hy ry
  exact le_data r1 r2 ha hn (by have := Nat.min_le_left dx.depth dy.depth; omega) ⟨.bl _, H, I, rfl, q⟩
end KR

set_option Elab.async false
set_option linter.all false
set_option maxRecDepth 100000
set_option maxHeartbeats 4000000
/-! ### first_wrong_lot, need_values -/
namespace KR
open PySem PySem.Spec PyProof.Rows L2 KG K80 KT
open PySem.W (alike alikeAll dataLt le_data)
theorem pair_depth : ∀ xs : List PyData, (∀ x ∈ xs, ∃ i j, x = .tuple [.int i, .int j]) → PyData.depthAll xs ≤ 8 := by
  intro xs
  induction xs with
  | nil =>
    intro _
    exact Nat.zero_le _
  | cons x xs ih =>
    intro h
    obtain ⟨i, j, rfl⟩ := h x (by simp)
    have z := ih (fun y hy => h y (by simp [hy]))
    show max (PyData.depth (.tuple [.int i, .int j])) (PyData.depthAll xs) ≤ 8
    exact Nat.max_le.mpr ⟨by simp [PyData.depth, PyData.depthAll], z⟩
theorem isLot_shape {ns : List Int} {d : PyData} (h : isLot ns d = true) : ∃ ds, d = .tuple ds ∧ ∀ x ∈ ds, ∃ i j, x = .tuple [.int i, .int j] := by
  have go : ∀ (ds : List PyData) (ns : List Int) (l : Int), lotGo ns l ds = true → ∀ x ∈ ds, ∃ i j, x = .tuple [.int i, .int j] := by
    intro ds
    induction ds with
    | nil =>
      intro ns l _ x hx
      cases hx
    | cons y r ih =>
      intro ns l h x hx
      have h2 : (isSet ns y && (decide (l < knobOf y) && lotGo ns (knobOf y) r)) = true := h
      rw [Bool.and_eq_true, Bool.and_eq_true] at h2
      rcases List.mem_cons.mp hx with e | e
      · subst e
        obtain ⟨i, w, rfl⟩ := isSet_shape h2.1
        have h3 : (isNum (.int i) 0 ((ns.length : Int) - 1) && isNum w 0 (ns.getD i.toNat 0 - 1)) = true := h2.1
        rw [Bool.and_eq_true] at h3
        obtain ⟨j, rfl, _⟩ := isNum_int h3.2
        exact ⟨i, j, rfl⟩
      · exact ih ns _ h2.2.2 x e
  cases d with
  | tuple xs =>
    have e1 : (isTup (.tuple xs) 1 3 && lotGo ns (-1) xs) = true := h
    rw [Bool.and_eq_true] at e1
    exact ⟨xs, rfl, go xs ns _ e1.2⟩
  | _ => cases h
theorem isLot_depth {ns : List Int} {d : PyData} (h : isLot ns d = true) : d.depth ≤ 16 := by
  obtain ⟨ds, rfl, hs⟩ := isLot_shape h
  have z := pair_depth ds hs
  simp only [PyData.depth]
  omega
theorem fwGo_bad {ns : List Int} {i : Nat} {p : Option PyData} {d : PyData} {r : List PyData} (h : isLot ns d = false) : fwGo ns i p (d :: r) = some i := by
  cases p <;> rw [fwGo, if_pos h]
theorem fwGo_nil {ns : List Int} {i : Nat} {p : Option PyData} : fwGo ns i p [] = none := by
  cases p <;> rw [fwGo]
abbrev sFw : Stmt := topS 25
theorem scFw : FnScope ["values", "lots", "number", "lot"] ["values", "lots"] (defScope sFw) := ⟨rfl, rfl, rfl, by decide +kernel, rfl, by decide +kernel, by decide +kernel⟩
def optI : Option Nat → V | none => .non | some i => .int (i : Nat)
def spFw : Sp := fun vs H Q _ => ∃ (va la : Addr) (ns : List Int) (xs : List V) (ds : List PyData), vs = [.ref va, .ref la] ∧ H va = some (.tup (ns.map V.int)) ∧ H la = some (.tup xs) ∧ DqA H xs ds ∧ ∀ H', Same H H' → Q (optI (fw ns ds)) H'
section
variable {P : Program} {w : World} {K : PySem.W.Frag} {mg : Str → Option Value} {base : Heap}
def prevOf (ds : List PyData) (i : Nat) : Option PyData := if i = 0 then none else ds[i - 1]?
theorem ok_fw {f fL : Addr} {fd fdL : FuncData} (F : Fun K "first_wrong_lot" "first_wrong_lot" sFw f fd) (dL : Dfn K mg "is_lot" fL fdL ["values", "value"]) (GL : FnOk P w K mg base CX0 4 fL fdL ["values", "value"] spLot)
    (ze : mg "enumerate" = none) : FnOk P w K mg base CX0 5 f fd ["values", "lots"] spFw := by
  refine F.ok scFw (fun vs H Q E h => ?_) (fun cdv A outer s H vs Q E hr h => ?_)
  · obtain ⟨va, la, ns, xs, ds, rfl, _⟩ := h
    rfl
  · obtain ⟨va, la, ns, xs, ds, rfl, hva, hla, r, q⟩ := h
    refine ⟨_, pss_cons (ps_for PassesOwn.never rfl (pi_enumT (by rfl) ze (pa_cons (pv 1) pa_nil)) (pg_tup rfl (pgs_cons (pg_name (i := 2) scFw.nd rfl (.inl rfl)) (pgs_cons (pg_name (i := 3) scFw.nd rfl (.inl rfl)) pgs_nil)))
        (pss_one (ps_if (PW.pt (pw_or (pt_not (pt_val (pe_call GL hr (by rfl) dL.gm dL.kp dL.bd .nil pass0 (pa_cons (pv 0) (pa_cons (pv 3) pa_nil))))) (pw_or1 (PW.pt (pw_and (pt_cmpR op_gt (pv 2) pe_int (nomark _)) (pw_and1 (pt_cmpR (op_leD hr.units) (pv 3) (pe_ix ix_tup (pv 1) (pe_op op_sub (pv 2) pe_int) (fun _ _ => rfl)) (nomark _)))))))) (pss_one (ps_ret (pv 2))) pss_nil)))
      (pss_one (ps_ret pe_non)), ?_⟩
    have hlen : xs.length = ds.length := DqA.len r
    refine ⟨.ref la, rfl, la, xs, rfl, .inl (.inl hla), for_it (walk_enumT (xs := xs)) (fun i σ H' => ∃ (y1 y2 : Option V), σ = [some (.ref va), some (.ref la), y1, y2] ∧ Same H H' ∧ (∀ j, j < i → ∃ d, ds[j]? = some d ∧ isLot ns d = true) ∧ fw ns ds = fwGo ns i (prevOf ds i) (ds.drop i)) ⟨none, none, rfl, fun _ _ e => e, fun j hj => absurd hj (Nat.not_lt_zero j), rfl⟩ ?_ ?_ ?_⟩
    · rintro i σ H' _ ⟨_, _, _, S, _⟩
      exact .inl (.inl (S _ _ hla))
    · rintro i x σ H1 H2 hi ⟨y1, y2, rfl, S, hlots, hfw⟩ ⟨T, x', y, rfl, hT, rfl, e1, e2⟩
      cases e1
      obtain ⟨d, hd, hq⟩ := DqA.at r e2
      have S2 : Same H (upd H1 T (.tup [.int (i : Nat), y])) := fun b o e => same_upd hT b o (S b o e)
      have hq2 := Dq.same S2 d y hq
      refine ⟨T, _, rfl, .inl (.inl upd_same), rfl, .int (i : Nat), [y], rfl, y, [], rfl, rfl, ?_⟩
      refine ⟨.ref va, rfl, y, rfl, va, ns, y, d, rfl, S2 _ _ hva, hq2, _, rfl, ?_⟩
      have hfw2 : fw ns ds = fwGo ns i (prevOf ds i) (d :: ds.drop (i + 1)) := by
        rw [hfw, drop_at hd]
      cases hL : isLot ns d with
      | false =>
        refine iteT (iteT ?_)
        have e : fw ns ds = some i := by
          rw [hfw2, fwGo_bad hL]
        have z := q _ S2
        rw [e] at z
        exact ⟨_, rfl, z⟩
      | true =>
        refine iteF ?_
        refine ⟨_, rfl, _, _, rfl, rfl, _, rfl, ?_⟩
        have next : fw ns ds = fwGo ns (i + 1) (some d) (ds.drop (i + 1)) → (∀ j, j < i + 1 → ∃ d, ds[j]? = some d ∧ isLot ns d = true) ∧ fw ns ds = fwGo ns (i + 1) (prevOf ds (i + 1)) (ds.drop (i + 1)) := fun e => by
          refine ⟨fun j hj => ?_, ?_⟩
          · by_cases hji : j = i
            · exact ⟨d, by rw [hji]; exact hd, hL⟩
            · exact hlots j (by omega)
          · have : prevOf ds (i + 1) = some d := by
              unfold prevOf
              rw [if_neg (Nat.succ_ne_zero i)]
              exact hd
            rw [this]
            exact e
        have hn : ¬ (isLot ns d = false) := by
          rw [hL]
          exact Bool.noConfusion
        refine ite2 (fun h0 => ?_) (fun h0 => ?_)
        · have h0' : (0 : Int) < (i : Int) := by simpa using h0
          obtain ⟨k, rfl⟩ : ∃ k, i = k + 1 := ⟨i - 1, by omega⟩
          obtain ⟨dk, hdk, hlk⟩ := hlots k (Nat.lt_succ_self k)
          have hkx : k < xs.length := by
            have := (List.getElem?_eq_some_iff.mp hdk).1
            omega
          have hxk : xs[k]? = some xs[k] := List.getElem?_eq_getElem hkx
          obtain ⟨dk', hdk', hqk⟩ := DqA.at r hxk
          rw [hdk] at hdk'
          cases hdk'
          refine ⟨_, rfl, .ref la, rfl, .int ((k + 1 : Nat) : Int), rfl, _, _, rfl, rfl, la, xs, _, xs[k], rfl, rfl, .inl (.inl (S2 _ _ hla)), L2.at_of (j := k) (by omega) hxk, d, dk, hq2, Dq.same S2 dk _ hqk, lots_alike hL hlk, lot_depth hL, isLot_depth hL, _, rfl, ?_⟩
          have hp : prevOf ds (k + 1) = some dk := by
            unfold prevOf
            rw [if_neg (Nat.succ_ne_zero k)]
            exact hdk
          cases hlt : dataLt dk d with
          | false =>
            refine iteT ?_
            have e : fw ns ds = some (k + 1) := by
              rw [hfw2, hp, fwGo, if_neg hn]
              show (if dataLt dk d = true then _ else _) = _
              rw [hlt]
              rfl
            have z := q _ S2
            rw [e] at z
            exact ⟨_, rfl, z⟩
          | true =>
            refine iteF ?_
            have e : fw ns ds = fwGo ns (k + 1 + 1) (some d) (ds.drop (k + 1 + 1)) := by
              rw [hfw2, hp, fwGo, if_neg hn]
              show (if dataLt dk d = true then _ else _) = _
              rw [hlt, if_pos rfl]
            obtain ⟨n1, n2⟩ := next e
            exact ⟨_, _, rfl, S2, n1, n2⟩
        · have h0' : ¬ (0 : Int) < (i : Int) := by simpa using h0
          have hi0 : i = 0 := by omega
          subst hi0
          refine iteF ?_
          have e : fw ns ds = fwGo ns (0 + 1) (some d) (ds.drop (0 + 1)) := by
            rw [hfw2, show prevOf ds 0 = none from rfl, fwGo, if_neg hn]
          obtain ⟨n1, n2⟩ := next e
          exact ⟨_, _, rfl, S2, n1, n2⟩
    · rintro σ H' ⟨y1, y2, rfl, S, _, hfw⟩
      have e : fw ns ds = none := by
        rw [hfw, hlen, List.drop_length, fwGo_nil]
      have z := q _ S
      rw [e] at z
      exact z
end
end KR

set_option Elab.async false
set_option linter.all false
set_option maxRecDepth 100000
set_option maxHeartbeats 4000000
/-! ### The errors' own __init__; need_values, need_barred, need_rig, need_lot -/
namespace KR
open PySem PySem.Spec PyProof.Rows L2 KG K80 KT
open PySem.W (alike alikeAll dataLt le_data)
abbrev sRigI : Stmt := inClass (topS 3) 0
abbrev sShapeI : Stmt := inClass (topS 4) 0
abbrev sLotI : Stmt := inClass (topS 5) 0
abbrev sVals : Stmt := topS 26
abbrev sBar : Stmt := topS 27
abbrev sRig : Stmt := topS 28
abbrev sNLot : Stmt := topS 29
theorem scVals : FnScope ["values", "number", "many"] ["values"] (defScope sVals) := ⟨rfl, rfl, rfl, by decide +kernel, rfl, by decide +kernel, by decide +kernel⟩
theorem scBar : FnScope ["values", "barred", "number"] ["values", "barred"] (defScope sBar) := ⟨rfl, rfl, rfl, by decide +kernel, rfl, by decide +kernel, by decide +kernel⟩
theorem scRig : FnScope ["rig", "values", "barred"] ["rig"] (defScope sRig) := ⟨rfl, rfl, rfl, by decide +kernel, rfl, by decide +kernel, by decide +kernel⟩
theorem scNLot : FnScope ["rig", "lot", "values", "_"] ["rig", "lot"] (defScope sNLot) := ⟨rfl, rfl, rfl, by decide +kernel, rfl, by decide +kernel, by decide +kernel⟩
/-- refused: the error with that field is raised, or the answer is given -/
def Told (CR : Addr) (E : XK) (H : Hp) (f : Str) (p : PyData) : Prop := ∀ (dx : Addr) (pv : V) (H' : Hp), Same H H' → Dq H' pv p → H' dx = some (.xd [(f, pv)]) → E (.ref CR) (some dx) H'
theorem Told.of {CR : Addr} {E : XK} {H H0 : Hp} {f : Str} {p : PyData} (h : Told CR E H f p) (S : Same H H0) : Told CR E H0 f p := fun dx pv H' S' r e => h dx pv H' (fun b o z => S' b o (S b o z)) r e
/-- the paths that are raised can be shown -/
theorem shw_path : ∀ (a : Int) (n : Nat), (a = 0 ∨ a = 1) → n ≤ 6 → Shw (.tuple [.int a, .int (n : Nat)]) := by
  intro a n ha hn
  have h7 : n = 0 ∨ n = 1 ∨ n = 2 ∨ n = 3 ∨ n = 4 ∨ n = 5 ∨ n = 6 := by omega
  rcases ha with rfl | rfl <;> rcases h7 with rfl | rfl | rfl | rfl | rfl | rfl | rfl <;> exact ⟨by decide +kernel, by decide +kernel, by decide +kernel, fun y e => nomatch e⟩
theorem shw_one : ∀ (a : Int), (a = 0 ∨ a = 1) → Shw (.tuple [.int a]) := by
  intro a ha
  rcases ha with rfl | rfl <;> exact ⟨by decide +kernel, by decide +kernel, by decide +kernel, fun y e => nomatch e⟩
theorem shw_nil : Shw (.tuple []) := ⟨by decide +kernel, by decide +kernel, by decide +kernel, fun y e => nomatch e⟩
section
variable {P : Program} {w : World} {K : PySem.W.Frag} {mg : Str → Option Value} {base : Heap} {F0 : Addr}
theorem ok_rigI {f : Addr} {fd : FuncData} {k : Nat} (F : Fun K "__init__" "BadRig.__init__" sRigI f fd) (T : FE K mg F0) : FnG P w K mg base (k + 1) f fd ["self", "path"] (spIni K Okd "path") := by
  have sc : FnScope ["self", "path"] ["self", "path"] (defScope sRigI) := ⟨rfl, rfl, rfl, by decide +kernel, rfl, by decide +kernel, by decide +kernel⟩
  refine fnG_of F sc (fun vs H Q E h => ?_) (fun cdv A outer s H vs Q E hgd hr h => ?_)
  · obtain ⟨a, C, y, rfl, _⟩ := h
    rfl
  · obtain ⟨a, C, y, rfl, hX, ht, ha, ⟨d, hd, hs⟩, q⟩ := h
    refine ⟨_, pss_cons (ps_expr (pe_ownInit PySem.F.excBase_ValueError rfl T.gF T.ga T.rd T.fc (by decide +kernel) (pa_cons (pv 0) (pa_cons (pe_joined (PJ.cons pe_str (PJ.cons (pe_fmtD hgd hr.units (pv 1)) PJ.nil))) pa_nil))))
      (pss_one (ps_gst (newId := "ValueError.__new__") PySem.F.store_ValueError (pv 0) (pv 1))), ?_⟩
    refine ⟨_, rfl, _, rfl, by decide, _, rfl, d, hd, hs, fun t ht' => ⟨_, rfl, ?_, a, C, _, rfl, by show 1 ≤ 1000; decide, hX, ha, ?_⟩⟩
    · rw [PySem.strLen_append]
      exact Nat.le_trans (Nat.add_le_add (show _ ≤ 1000 by decide) ht') (by decide)
    · exact ⟨_, rfl, _, rfl, a, C, rfl, hX, ht, ha, q⟩
theorem ok_lotI {f : Addr} {fd : FuncData} {k : Nat} (F : Fun K "__init__" "BadLot.__init__" sLotI f fd) (T : FE K mg F0) : FnG P w K mg base (k + 1) f fd ["self", "value"] (spIni K Any "value") := by
  have sc : FnScope ["self", "value"] ["self", "value"] (defScope sLotI) := ⟨rfl, rfl, rfl, by decide +kernel, rfl, by decide +kernel, by decide +kernel⟩
  refine fnG_of F sc (fun vs H Q E h => ?_) (fun cdv A outer s H vs Q E hgd hr h => ?_)
  · obtain ⟨a, C, y, rfl, _⟩ := h
    rfl
  · obtain ⟨a, C, y, rfl, hX, ht, ha, _, q⟩ := h
    refine ⟨_, pss_cons (ps_expr (pe_ownInit PySem.F.excBase_ValueError rfl T.gF T.ga T.rd T.fc (by decide +kernel) (pa_cons (pv 0) (pa_cons pe_str pa_nil))))
      (pss_one (ps_gst (newId := "ValueError.__new__") PySem.F.store_ValueError (pv 0) (pv 1))), ?_⟩
    exact ⟨_, rfl, a, C, _, rfl, by show 1 ≤ 1000; decide, hX, ha, _, rfl, _, rfl, a, C, rfl, hX, ht, ha, q⟩
theorem ok_shapeI {f : Addr} {fd : FuncData} {k : Nat} (F : Fun K "__init__" "BadShape.__init__" sShapeI f fd) (T : FE K mg F0) : FnG P w K mg base (k + 1) f fd ["self", "value"] (spIni K Any "value") := by
  have sc : FnScope ["self", "value"] ["self", "value"] (defScope sShapeI) := ⟨rfl, rfl, rfl, by decide +kernel, rfl, by decide +kernel, by decide +kernel⟩
  refine fnG_of F sc (fun vs H Q E h => ?_) (fun cdv A outer s H vs Q E hgd hr h => ?_)
  · obtain ⟨a, C, y, rfl, _⟩ := h
    rfl
  · obtain ⟨a, C, y, rfl, hX, ht, ha, _, q⟩ := h
    refine ⟨_, pss_cons (ps_expr (pe_ownInit PySem.F.excBase_ValueError rfl T.gF T.ga T.rd T.fc (by decide +kernel) (pa_cons (pv 0) (pa_cons pe_str pa_nil))))
      (pss_one (ps_gst (newId := "ValueError.__new__") PySem.F.store_ValueError (pv 0) (pv 1))), ?_⟩
    exact ⟨_, rfl, a, C, _, rfl, by show 1 ≤ 1000; decide, hX, ha, _, rfl, _, rfl, a, C, rfl, hX, ht, ha, q⟩
/-- need_values, need_rig: the value is refused with a path, or what stands for it is given -/
def spVals (CR : Addr) : Sp := fun vs H Q E => ∃ (v : V) (d : PyData), vs = [v] ∧ Dq H v d ∧ (∀ p, wrongVals d = some p → Told CR E H "path" p) ∧ (wrongVals d = none → ∀ H', Same H H' → Q .non H')
theorem firstBad_nil {p : PyData → Bool} {i : Nat} : firstBad p i [] = none := rfl
theorem firstBad_cons {p : PyData → Bool} {i : Nat} {d : PyData} {r : List PyData} : firstBad p i (d :: r) = if p d = true then firstBad p (i + 1) r else some i := rfl
theorem ok_vals {f fN fT CR : Addr} {fd fdN fdT : FuncData} {tk t2 t4 : Tok} (F : Fun K "need_values" "need_values" sVals f fd) (O : Ow P w K mg base Okd "BadRig" "path" CR)
    (dN : Dfn K mg "is_number" fN fdN ["value", "least", "most"]) (GN : FnOk P w K mg base CX0 1 fN fdN ["value", "least", "most"] spNum)
    (dT : Dfn K mg "is_tuple" fT fdT ["value", "least", "most"]) (GT : FnOk P w K mg base CX0 1 fT fdT ["value", "least", "most"] spTup)
    (gK : mg "MOST_KNOBS" = some (.int 5 tk)) (gL : mg "LEAST_VALUES" = some (.int 2 t2)) (gM : mg "MOST_VALUES" = some (.int 4 t4)) (ze : mg "enumerate" = none) : FnX P w K mg base 3 f fd ["values"] (spVals CR) := by
  obtain ⟨fI, fdI, iI, tI, F1, bI⟩ := O.ini
  refine fnX_of F scVals (fun vs H Q E h => ?_) (fun cdv A outer s H vs Q E hgd hr h => ?_)
  · obtain ⟨v, d, rfl, _⟩ := h
    rfl
  · obtain ⟨v, d, rfl, hd, qx, qn⟩ := h
    refine ⟨_, pss_cons (ps_if (pt_not (pt_val (pe_call GT (hr.mono (by decide)) (by rfl) dT.gm dT.kp dT.bd .nil pass0 (pa_cons (pv 0) (pa_cons pe_int (pa_cons (pe_glob rfl gK (v := .int 5) ⟨_, rfl⟩) pa_nil))))))
          (pss_one (ps_raise rfl (takes_of rfl rfl rfl rfl) (pmk_xG PySem.F.excBase_ValueError O.xb (raises_own O.sb O.ty) iI tI F1 hgd hr bI (by rfl) O.gm (pa_cons (pe_tup (pa_cons pe_int pa_nil)) pa_nil)))) pss_nil)
      (pss_one (ps_for (passes_of rfl) rfl (pi_enumT (by rfl) ze (pa_cons (pv 0) pa_nil)) (pg_tup rfl (pgs_cons (pg_name (i := 1) scVals.nd rfl (.inl rfl)) (pgs_cons (pg_name (i := 2) scVals.nd rfl (.inl rfl)) pgs_nil)))
        (pss_one (ps_if (pt_not (pt_val (pe_call GN (hr.mono (by decide)) (by rfl) dN.gm dN.kp dN.bd .nil pass0 (pa_cons (pv 2) (pa_cons (pe_glob rfl gL (v := .int 2) ⟨_, rfl⟩) (pa_cons (pe_glob rfl gM (v := .int 4) ⟨_, rfl⟩) pa_nil))))))
          (pss_one (ps_raise rfl (takes_of rfl rfl rfl rfl) (pmk_xG PySem.F.excBase_ValueError O.xb (raises_own O.sb O.ty) iI tI F1 hgd hr bI (by rfl) O.gm (pa_cons (pe_tup (pa_cons pe_int (pa_cons (pv 1) pa_nil))) pa_nil)))) pss_nil)))), ?_⟩
    refine ⟨v, rfl, v, d, 1, 5, rfl, hd, _, rfl, ?_⟩
    cases hT : isTup d 1 5 with
    | false =>
      refine iteT ?_
      have e : wrongVals d = some (.tuple [.int 0]) := by
        cases d with
        | tuple ds =>
          show (if isTup (.tuple ds) 1 5 = true then _ else _) = _
          rw [hT]
          rfl
        | _ => rfl
      refine ⟨by decide, fun p n => raise_end O stays_okd ⟨.tuple [.int 0], .tup upd_same (.cons (.int 0) .nil), shw_one 0 (.inl rfl)⟩ fun dx H' S z => qx _ e dx (.ref p) H' (fun b o y => S b o (same_upd n b o y)) ?_ z⟩
      exact .tup (S _ _ upd_same) (.cons (.int 0) .nil)
    | true =>
      refine iteF ?_
      cases hd with
      | tup e r =>
        rename_i a xs ds
        have hlen : xs.length = ds.length := DqA.len r
        have h5 : ds.length ≤ 5 := by
          have : (decide ((1 : Int) ≤ (ds.length : Int)) && decide ((ds.length : Int) ≤ 5)) = true := hT
          simp at this
          omega
        have ew : wrongVals (.tuple ds) = (firstBad (fun x => isNum x 2 4) 0 ds).map fun i => .tuple [.int 0, .int (i : Nat)] := by
          show (if isTup (.tuple ds) 1 5 = true then _ else _) = _
          rw [hT, if_pos rfl]
        refine ⟨.ref a, rfl, a, xs, rfl, .inl (.inl e), for_it (walk_enumT (xs := xs)) (fun i σ H' => ∃ (y1 y2 : Option V), σ = [some (.ref a), y1, y2] ∧ Same H H' ∧ firstBad (fun x => isNum x 2 4) 0 ds = firstBad (fun x => isNum x 2 4) i (ds.drop i)) ⟨none, none, rfl, fun _ _ e => e, rfl⟩ ?_ ?_ ?_⟩
        · rintro i σ H' _ ⟨_, _, _, S, _⟩
          exact .inl (.inl (S _ _ e))
        · rintro i x σ H1 H2 hi ⟨y1, y2, rfl, S, hfb⟩ ⟨T, x', y, rfl, hT', rfl, e1, e2⟩
          cases e1
          obtain ⟨dy, hdy, hq⟩ := DqA.at r e2
          have S2 : Same H (upd H1 T (.tup [.int (i : Nat), y])) := fun b o z => same_upd hT' b o (S b o z)
          have hq2 := Dq.same S2 dy y hq
          refine ⟨T, _, rfl, .inl (.inl upd_same), rfl, .int (i : Nat), [y], rfl, y, [], rfl, rfl, ?_⟩
          refine ⟨y, rfl, y, dy, 2, 4, rfl, hq2, _, rfl, ?_⟩
          rw [drop_at hdy, firstBad_cons] at hfb
          cases hN : isNum dy 2 4 with
          | false =>
            refine iteT ?_
            have hw : wrongVals (.tuple ds) = some (.tuple [.int 0, .int (i : Nat)]) := by
              rw [ew, hfb, hN]
              rfl
            refine ⟨_, rfl, (show 2 ≤ sizeLine by decide), fun p n => raise_end O stays_okd ⟨.tuple [.int 0, .int (i : Nat)], .tup upd_same (.cons (.int 0) (.cons (.int _) .nil)), shw_path 0 i (.inl rfl) (by omega)⟩ fun dx H' S' z => qx _ hw dx (.ref p) H' (fun b o y => S' b o (same_upd n b o (S2 b o y))) ?_ z⟩
            exact .tup (S' _ _ upd_same) (.cons (.int 0) (.cons (.int _) .nil))
          | true =>
            refine iteF ?_
            rw [if_pos hN] at hfb
            exact ⟨_, _, rfl, S2, hfb⟩
        · rintro σ H' ⟨y1, y2, rfl, S, hfb⟩
          rw [hlen, List.drop_length, firstBad_nil] at hfb
          refine qn ?_ H' S
          rw [ew, hfb]
          rfl
      | _ => cases hT
end
end KR

set_option Elab.async false
set_option linter.all false
set_option maxRecDepth 100000
set_option maxHeartbeats 4000000
/-! ### need_barred, need_rig, need_lot -/
namespace KR
open PySem PySem.Spec PyProof.Rows L2 KG K80 KT
open PySem.W (alike alikeAll dataLt le_data)
section
variable {P : Program} {w : World} {K : PySem.W.Frag} {mg : Str → Option Value} {base : Heap} {F0 : Addr}
def spBar (CR : Addr) : Sp := fun vs H Q E => ∃ (va : Addr) (ns : List Int) (v : V) (d : PyData), vs = [.ref va, v] ∧ H va = some (.tup (ns.map V.int)) ∧ Dq H v d ∧ (∀ p, wrongBar ns d = some p → Told CR E H "path" p) ∧ (wrongBar ns d = none → ∀ H', Same H H' → Q .non H')
theorem fwGo_le {ns : List Int} : ∀ {ds : List PyData} {i j : Nat} {p : Option PyData}, fwGo ns i p ds = some j → j < i + ds.length := by
  intro ds
  induction ds with
  | nil =>
    intro i j p h
    rw [fwGo_nil] at h
    cases h
  | cons d r ih =>
    intro i j p h
    rw [List.length_cons]
    by_cases hL : isLot ns d = false
    · rw [fwGo_bad hL] at h
      cases h
      omega
    · cases p with
      | none =>
        rw [fwGo, if_neg hL] at h
        have := ih h
        omega
      | some p =>
        rw [fwGo, if_neg hL] at h
        have h' : (if dataLt p d = true then fwGo ns (i + 1) (some d) r else some i) = some j := h
        by_cases hlt : dataLt p d = true
        · rw [if_pos hlt] at h'
          have := ih h'
          omega
        · rw [if_neg hlt] at h'
          cases h'
          omega
theorem ok_bar {f fT fF CR : Addr} {fd fdT fdF : FuncData} {tk : Tok} (F : Fun K "need_barred" "need_barred" sBar f fd) (O : Ow P w K mg base Okd "BadRig" "path" CR)
    (dT : Dfn K mg "is_tuple" fT fdT ["value", "least", "most"]) (GT : FnOk P w K mg base CX0 1 fT fdT ["value", "least", "most"] spTup)
    (dF : Dfn K mg "first_wrong_lot" fF fdF ["values", "lots"]) (GF : FnOk P w K mg base CX0 5 fF fdF ["values", "lots"] spFw)
    (gB : mg "MOST_BARRED" = some (.int 6 tk)) : FnX P w K mg base 6 f fd ["values", "barred"] (spBar CR) := by
  obtain ⟨fI, fdI, iI, tI, F1, bI⟩ := O.ini
  refine fnX_of F scBar (fun vs H Q E h => ?_) (fun cdv A outer s H vs Q E hgd hr h => ?_)
  · obtain ⟨va, ns, v, d, rfl, _⟩ := h
    rfl
  · obtain ⟨va, ns, v, d, rfl, hva, hd, qx, qn⟩ := h
    refine ⟨_, pss_cons (ps_if (pt_not (pt_val (pe_call GT (hr.mono (by decide)) (by rfl) dT.gm dT.kp dT.bd .nil pass0 (pa_cons (pv 1) (pa_cons pe_int (pa_cons (pe_glob rfl gB (v := .int 6) ⟨_, rfl⟩) pa_nil))))))
          (pss_one (ps_raise rfl (takes_of rfl rfl rfl rfl) (pmk_xG PySem.F.excBase_ValueError O.xb (raises_own O.sb O.ty) iI tI F1 hgd (hr.mono (by decide)) bI (by rfl) O.gm (pa_cons (pe_tup (pa_cons pe_int pa_nil)) pa_nil)))) pss_nil)
      (pss_cons (ps_set (i := 2) scBar.nd rfl (.inl rfl) (pe_call GF hr (by rfl) dF.gm dF.kp dF.bd .nil pass0 (pa_cons (pv 0) (pa_cons (pv 1) pa_nil))))
      (pss_one (ps_if (pt_cmpR op_notN (pv 2) pe_non (nomark _))
          (pss_one (ps_raise rfl (takes_of rfl rfl rfl rfl) (pmk_xG PySem.F.excBase_ValueError O.xb (raises_own O.sb O.ty) iI tI F1 hgd (hr.mono (by decide)) bI (by rfl) O.gm (pa_cons (pe_tup (pa_cons pe_int (pa_cons (pv 2) pa_nil))) pa_nil)))) pss_nil))), ?_⟩
    refine ⟨v, rfl, v, d, 0, 6, rfl, hd, _, rfl, ?_⟩
    cases hT : isTup d 0 6 with
    | false =>
      refine iteT ?_
      have e : wrongBar ns d = some (.tuple [.int 1]) := by
        cases d with
        | tuple ds =>
          show (if isTup (.tuple ds) 0 6 = true then _ else _) = _
          rw [hT]
          rfl
        | _ => rfl
      refine ⟨by decide, fun p n => raise_end O stays_okd ⟨.tuple [.int 1], .tup upd_same (.cons (.int 1) .nil), shw_one 1 (.inr rfl)⟩ fun dx H' S z => qx _ e dx (.ref p) H' (fun b o y => S b o (same_upd n b o y)) ?_ z⟩
      exact .tup (S _ _ upd_same) (.cons (.int 1) .nil)
    | true =>
      refine iteF ?_
      cases hd with
      | tup e r =>
        rename_i a xs ds
        have h6 : ds.length ≤ 6 := by
          have : (decide ((0 : Int) ≤ (ds.length : Int)) && decide ((ds.length : Int) ≤ 6)) = true := hT
          simp at this
          omega
        have ew : wrongBar ns (.tuple ds) = (fw ns ds).map fun i => .tuple [.int 1, .int (i : Nat)] := by
          show (if isTup (.tuple ds) 0 6 = true then _ else _) = _
          rw [hT, if_pos rfl]
        refine ⟨.ref va, rfl, .ref a, rfl, va, a, ns, xs, ds, rfl, hva, e, r, fun H' S => ?_⟩
        refine ⟨_, rfl, rfl, _, rfl, ?_⟩
        cases hf : fw ns ds with
        | none =>
          refine iteF ?_
          exact qn (by rw [ew, hf]; rfl) H' S
        | some i =>
          refine iteT ?_
          have hw : wrongBar ns (.tuple ds) = some (.tuple [.int 1, .int (i : Nat)]) := by
            rw [ew, hf]
            rfl
          have hi : i ≤ 6 := by
            have := fwGo_le hf
            omega
          refine ⟨_, rfl, (show 2 ≤ sizeLine by decide), fun p n => raise_end O stays_okd ⟨.tuple [.int 1, .int (i : Nat)], .tup upd_same (.cons (.int 1) (.cons (.int _) .nil)), shw_path 1 i (.inr rfl) hi⟩ fun dx H' S' z => qx _ hw dx (.ref p) H' (fun b o y => S' b o (same_upd n b o (S b o y))) ?_ z⟩
          exact .tup (S' _ _ upd_same) (.cons (.int 1) (.cons (.int _) .nil))
      | _ => cases hT
/-! what right VALUES are -/
theorem firstBad_none {p : PyData → Bool} : ∀ {ds : List PyData} {i : Nat}, firstBad p i ds = none → ∀ d ∈ ds, p d = true := by
  intro ds
  induction ds with
  | nil =>
    intro i _ d hd
    cases hd
  | cons x r ih =>
    intro i h d hd
    rw [firstBad_cons] at h
    by_cases hx : p x = true
    · rw [if_pos hx] at h
      rcases List.mem_cons.mp hd with e | e
      · rw [e]
        exact hx
      · exact ih h d e
    · rw [if_neg hx] at h
      cases h
theorem vals_right {d : PyData} (h : wrongVals d = none) : d = .tuple ((intsOf d).map .int) ∧ (∀ n ∈ intsOf d, 2 ≤ n ∧ n ≤ 4) ∧ 1 ≤ (intsOf d).length ∧ (intsOf d).length ≤ 5 := by
  cases d with
  | tuple ds =>
    cases hT : isTup (.tuple ds) 1 5 with
    | false =>
      exfalso
      have h2 : (if isTup (.tuple ds) 1 5 = true then (firstBad (fun x => isNum x 2 4) 0 ds).map fun i => PyData.tuple [.int 0, .int (i : Nat)] else some (.tuple [.int 0])) = none := h
      rw [hT] at h2
      cases h2
    | true =>
      have h2 : (if isTup (.tuple ds) 1 5 = true then (firstBad (fun x => isNum x 2 4) 0 ds).map fun i => PyData.tuple [.int 0, .int (i : Nat)] else some (.tuple [.int 0])) = none := h
      rw [hT, if_pos rfl, Option.map_eq_none_iff] at h2
      have all := firstBad_none h2
      have hb : (decide ((1 : Int) ≤ (ds.length : Int)) && decide ((ds.length : Int) ≤ 5)) = true := hT
      simp at hb
      have e : (intsOf (.tuple ds)).map PyData.int = ds := by
        show (ds.map fun d => match d with | .int i => i | _ => 0).map PyData.int = ds
        rw [List.map_map]
        conv => rhs; rw [← List.map_id ds]
        refine List.map_congr_left fun x hx => ?_
        obtain ⟨i, rfl, _⟩ := isNum_int (all x hx)
        rfl
      refine ⟨by rw [e], fun n hn => ?_, ?_, ?_⟩
      · have hm : PyData.int n ∈ ds := by
          rw [← e]
          exact List.mem_map.mpr ⟨n, hn, rfl⟩
        obtain ⟨i, e2, h3, h4⟩ := isNum_int (all _ hm)
        cases e2
        exact ⟨h3, h4⟩
      · have : (intsOf (.tuple ds)).length = ds.length := by
          show (ds.map _).length = _
          rw [List.length_map]
        omega
      · have : (intsOf (.tuple ds)).length = ds.length := by
          show (ds.map _).length = _
          rw [List.length_map]
        omega
  | _ => cases h
theorem dq_ints {H : Hp} {v : V} {ns : List Int} (h : Dq H v (.tuple (ns.map .int))) : ∃ a, v = .ref a ∧ H a = some (.tup (ns.map V.int)) := by
  cases h with
  | tup e r =>
    rename_i a xs
    have go : ∀ (ns : List Int) (xs : List V), DqA H xs (ns.map .int) → xs = ns.map V.int := by
      intro ns
      induction ns with
      | nil =>
        intro xs h
        cases h
        rfl
      | cons n ns ih =>
        intro xs h
        cases h with
        | cons h1 h2 =>
          cases h1
          rw [ih _ h2]
          rfl
    exact ⟨a, rfl, by rw [e, go ns xs r]⟩
/-- need_rig -/
def spRig (CR : Addr) : Sp := fun vs H Q E => ∃ (v : V) (d : PyData), vs = [v] ∧ Dq H v d ∧ (∀ p, wrongRig d = some p → Told CR E H "path" p) ∧ (wrongRig d = none → ∀ H', Same H H' → Q v H')
theorem ok_rig {f fT fV fB CR : Addr} {fd fdT fdV fdB : FuncData} (F : Fun K "need_rig" "need_rig" sRig f fd) (O : Ow P w K mg base Okd "BadRig" "path" CR)
    (dT : Dfn K mg "is_tuple" fT fdT ["value", "least", "most"]) (GT : FnOk P w K mg base CX0 1 fT fdT ["value", "least", "most"] spTup)
    (dV : Dfn K mg "need_values" fV fdV ["values"]) (GV : FnX P w K mg base 3 fV fdV ["values"] (spVals CR))
    (dB : Dfn K mg "need_barred" fB fdB ["values", "barred"]) (GB : FnX P w K mg base 6 fB fdB ["values", "barred"] (spBar CR)) : FnX P w K mg base 7 f fd ["rig"] (spRig CR) := by
  obtain ⟨fI, fdI, iI, tI, F1, bI⟩ := O.ini
  refine fnX_of F scRig (fun vs H Q E h => ?_) (fun cdv A outer s H vs Q E hgd hr h => ?_)
  · obtain ⟨v, d, rfl, _⟩ := h
    rfl
  · obtain ⟨v, d, rfl, hd, qx, qn⟩ := h
    refine ⟨_, pss_cons (ps_if (pt_not (pt_val (pe_call GT (hr.mono (by decide)) (by rfl) dT.gm dT.kp dT.bd .nil pass0 (pa_cons (pv 0) (pa_cons pe_int (pa_cons pe_int pa_nil))))))
          (pss_one (ps_raise rfl (takes_of rfl rfl rfl rfl) (pmk_xG PySem.F.excBase_ValueError O.xb (raises_own O.sb O.ty) iI tI F1 hgd (hr.mono (by decide)) bI (by rfl) O.gm (pa_cons (pe_tup pa_nil) pa_nil)))) pss_nil)
      (pss_cons (ps_asg (pv 0) (pg_tup rfl (pgs_cons (pg_name (i := 1) scRig.nd rfl (.inl rfl)) (pgs_cons (pg_name (i := 2) scRig.nd rfl (.inl rfl)) pgs_nil))))
      (pss_cons (ps_expr (pe_callX GV hgd (hr.mono (by decide)) (by rfl) dV.gm dV.kp dV.bd (passes_call (takes_of rfl rfl rfl rfl) (fun _ _ _ _ h => h)) (pa_cons (pv 1) pa_nil)))
      (pss_cons (ps_expr (pe_callX GB hgd hr (by rfl) dB.gm dB.kp dB.bd (passes_call (takes_of rfl rfl rfl rfl) (fun _ _ _ _ h => h)) (pa_cons (pv 1) (pa_cons (pv 2) pa_nil))))
      (pss_one (ps_ret (pv 0)))))), ?_⟩
    refine ⟨v, rfl, v, d, 2, 2, rfl, hd, _, rfl, ?_⟩
    cases hT : isTup d 2 2 with
    | false =>
      refine iteT ?_
      have e : wrongRig d = some (.tuple []) := by
        cases d with
        | tuple ds =>
          match ds, hT with
          | [k, w], h => exact absurd h (by simp [isTup])
          | [], _ => rfl
          | [_], _ => rfl
          | _ :: _ :: _ :: _, _ => rfl
        | _ => rfl
      refine ⟨by decide, fun p n => raise_end O stays_okd ⟨.tuple [], .tup upd_same .nil, shw_nil⟩ fun dx H' S z => qx _ e dx (.ref p) H' (fun b o y => S b o (same_upd n b o y)) ?_ z⟩
      exact .tup (S _ _ upd_same) .nil
    | true =>
      refine iteF ?_
      obtain ⟨dv, db, rfl⟩ := isTup_two hT
      cases hd with
      | tup e r =>
        cases r with
        | cons h1 r =>
          cases r with
          | cons h2 r =>
            cases r
            rename_i a v1 v2
            refine ⟨_, rfl, a, _, rfl, .inl (.inl e), rfl, v1, [v2], rfl, v2, [], rfl, rfl, ?_⟩
            refine ⟨v1, rfl, v1, dv, rfl, h1, fun p hp => qx p ?_, fun hn H1 S1 => ?_⟩
            · show (match wrongVals dv with | some p => some p | none => wrongBar (intsOf dv) db) = some p
              rw [hp]
            · obtain ⟨en, _, _⟩ := vals_right hn
              rw [en] at h1
              obtain ⟨va, rfl, hva⟩ := dq_ints h1
              have ew : wrongRig (.tuple [dv, db]) = wrongBar (intsOf dv) db := by
                show (match wrongVals dv with | some p => some p | none => wrongBar (intsOf dv) db) = _
                rw [hn]
              refine ⟨.ref va, rfl, v2, rfl, va, intsOf dv, v2, db, rfl, S1 _ _ hva, Dq.same S1 db v2 h2, fun p hp => (qx p (by rw [ew]; exact hp)).of S1, fun hn2 H2 S2 => ?_⟩
              exact ⟨_, rfl, qn (by rw [ew]; exact hn2) H2 fun b o z => S2 b o (S1 b o z)⟩
end
end KR

set_option Elab.async false
set_option linter.all false
set_option maxRecDepth 100000
set_option maxHeartbeats 4000000
/-! ### Comprehensions of bools; is_row, meets, meets_any -/
namespace KR
open PySem PySem.Spec PyProof.Rows L2 KG K80 KT
open PySem.W (alike alikeAll dataLt le_data)
/-- zip of two tuples -/
theorem walk_zipT {K : PySem.W.Frag} {a b : Addr} {xs ys : List V} {n : Nat} (hn : n = min xs.length ys.length) : Walk (RZ.ItzT K a b) n (fun H => SqT K H a xs ∧ SqT K H b ys) (YPair (fun i => xs[i]?) (fun i => ys[i]?)) := by
  subst hn
  refine ⟨fun i _ hi q => ?_, fun _ q => ⟨xs, ys, q.1, q.2, by omega⟩, fun i H v H' _ q y => ?_⟩
  · have h1 : i < xs.length := by omega
    have h2 : i < ys.length := by omega
    exact ⟨xs, ys, xs[i], ys[i], q.1, q.2, by simp [h1], by simp [h2]⟩
  · obtain ⟨T, x, z, h1, h2, h3, h4, h5⟩ := y
    exact ⟨T, x, z, h1, h2, h3, h4 xs q.1, h5 ys q.2⟩
/-- a comprehension whose items are bools -/
theorem lc_bl {J : It} {n : Nat} {G : Hp → Prop} {Y : Nat → Hp → V → Hp → Prop} (w : Walk J n G Y) {g : TG} {tt : TT} {te : TE} {vs : List Nat} {σ : L2.St} {H1 : Hp} {D : Addr} {Qd : Hp → Prop} (bs : List Bool) (hn : bs.length = n) (hz : n ≤ 1000) (hD : H1 D = none) (hG : ∀ H, Same H1 H → G H)
    (hs : ∀ (i : Nat) (x : V) (H H' : Hp) (b : Bool), bs[i]? = some b → Same H1 H → Y i H x H' → ∀ (Q : VK) (R : Hp → Prop), (∀ H4, Same H H4 → Q (.bl b) H4) → g x (wipe σ vs) H' fun σ2 H2 => wipe σ2 vs = wipe σ vs ∧ tt σ2 H2 fun c H3 => if c = true then te σ2 H3 Q else R H3)
    (hd : ∀ H, Same H1 H → H D = some (.lst (bs.map V.bl)) → Qd H) :
    ∃ W : Nat → Nat → Hp → Prop, (∃ m, W 0 m (upd H1 D (.lst []))) ∧ ∀ i m H, W i m H →
      (J.stop i H ∧ Qd H) ∨ (J.go i H ∧ ∃ Nx : Hp → Prop, (∀ H', Nx H' → ∃ m', m' < m ∧ W (i + 1) m' H') ∧ ∀ x H', J.yld i H x H' → g x (wipe σ vs) H' fun σ2 H2 => wipe σ2 vs = wipe σ vs ∧ tt σ2 H2 fun b H3 =>
        if b = true then te σ2 H3 fun y H4 => ∃ acc, H4 D = some (.lst acc) ∧ acc.length < sizeLine ∧ Nx (upd H4 D (.lst (acc ++ [y]))) else Nx H3) := by
  refine lc_it w (fun i Hh => Same H1 Hh ∧ Hh D = some (.lst ((bs.take i).map V.bl))) ⟨same_upd hD, upd_same⟩ (fun i H _ p => hG H p.1) (fun i x H H' hi p y => ?_) (fun H p => hd H p.1 ?_)
  · obtain ⟨S, e⟩ := p
    have hi2 : i < bs.length := by omega
    refine hs i x H H' bs[i] (List.getElem?_eq_getElem hi2) S y _ _ fun H4 S4 => ?_
    have e4 := S4 _ _ e
    refine ⟨_, e4, ?_, fun b o eb => ?_, ?_⟩
    · rw [List.length_map, List.length_take]
      exact Nat.lt_of_le_of_lt (Nat.min_le_left _ _) (Nat.lt_of_lt_of_le (by omega : i < 1001) (by decide))
    · have hb : b ≠ D := fun z => by rw [z, hD] at eb; cases eb
      rw [upd_ne hb]
      exact S4 _ _ (S _ _ eb)
    · rw [upd_same, List.take_succ_eq_append_getElem hi2, List.map_append]
      rfl
  · have := p.2
    rw [← hn, List.take_length] at this
    exact this
/-! the mirror -/
def rowBits (ns : List Int) (ds : List PyData) : List Bool := List.zipWith (fun d n => isNum d 0 (n - 1)) ds ns
def isRow (ns : List Int) (d : PyData) : Bool := match d with | .tuple ds => isTup d ns.length ns.length && (rowBits ns ds).all id | _ => false
abbrev sRow : Stmt := topS 24
abbrev sMeets : Stmt := topS 30
abbrev sMeetsAny : Stmt := topS 31
theorem scRow : FnScope ["values", "value", "worth", "many"] ["values", "value"] (defScope sRow) := ⟨rfl, rfl, rfl, by decide +kernel, rfl, by decide +kernel, by decide +kernel⟩
theorem blkRow : blkC ["values", "value", "worth", "many"] (defScope sRow) { kind := .function, names := [(".0", .local), ("worth", .local), ("many", .local), ("is_number", .globalImplicit)], isGenerator := false, isCoroutine := false } [("worth", 2), ("many", 3)] = true := by decide +kernel
section
variable {P : Program} {w : World} {K : PySem.W.Frag} {mg : Str → Option Value} {base : Heap} {F0 : Addr}
def spRow : Sp := fun vs H Q _ => ∃ (va : Addr) (ns : List Int) (v : V) (d : PyData), vs = [.ref va, v] ∧ H va = some (.tup (ns.map V.int)) ∧ ns.length ≤ 100 ∧ Dq H v d ∧ ∀ H', Same H H' → Q (.bl (isRow ns d)) H'
theorem ok_row {f fN fT : Addr} {fd fdN fdT : FuncData} (F : Fun K "is_row" "is_row" sRow f fd) (dN : Dfn K mg "is_number" fN fdN ["value", "least", "most"]) (GN : FnOk P w K mg base CX0 1 fN fdN ["value", "least", "most"] spNum)
    (dT : Dfn K mg "is_tuple" fT fdT ["value", "least", "most"]) (GT : FnOk P w K mg base CX0 1 fT fdT ["value", "least", "most"] spTup) (zl : mg "len" = none) (za : mg "all" = none) (zz : mg "zip" = none) : FnOk P w K mg base CX0 2 f fd ["values", "value"] spRow := by
  refine F.ok scRow (fun vs H Q E h => ?_) (fun cdv A outer s H vs Q E hr h => ?_)
  · obtain ⟨va, ns, v, d, rfl, _⟩ := h
    rfl
  · obtain ⟨va, ns, v, d, rfl, hva, hn100, hd, q⟩ := h
    refine ⟨_, pss_cons (ps_if (pt_not (pt_val (pe_call GT hr (by rfl) dT.gm dT.kp dT.bd .nil pass0 (pa_cons (pv 1) (pa_cons (pe_callB call_len_seq (by rfl) zl PySem.boot_len (pa_cons (pv 0) pa_nil)) (pa_cons (pe_callB call_len_seq (by rfl) zl PySem.boot_len (pa_cons (pv 0) pa_nil)) pa_nil)))))) (pss_one (ps_ret pe_bl)) pss_nil)
      (pss_one (ps_ret (pe_callB (cr_all rfl) (by rfl) za PyProof.Rows.boot_all (pa_cons (pe_lc (g := gTup K 2 (gCons (gName 2) (gCons (gName 3) gNil))) rfl scRow.nd (RZ.pi_zipA (by rfl) zz (pa_cons (pv 1) (pa_cons (pv 0) pa_nil))) (blkOk_by (own := [("worth", 2), ("many", 3)]) blkRow)
        (fun s H C cl fp => pg_tup (n := 2) rfl (pgs_cons (pg_name (i := 2) scRow.nd rfl (.inl rfl) (.inr rfl)) (pgs_cons (pg_name (i := 3) scRow.nd rfl (.inl rfl) (.inr rfl)) pgs_nil))) (fun _ _ _ _ _ => pts_nil)
        (fun _ _ _ _ _ => pe_call GN hr (by rfl) dN.gm dN.kp dN.bd .nil pass0 (pa_cons (pv 2) (pa_cons pe_int (pa_cons (pe_op op_sub (pv 3) pe_int) pa_nil))))) pa_nil)))), ?_⟩
    refine ⟨v, rfl, .ref va, rfl, va, _, rfl, .inr (.inl (.inl hva)), .ref va, rfl, va, _, rfl, .inr (.inl (.inl hva)), v, d, _, _, rfl, hd, _, rfl, ?_⟩
    rw [List.length_map]
    cases hT : isTup d ns.length ns.length with
    | false =>
      refine iteT ?_
      have e : isRow ns d = false := by
        cases d with
        | tuple ds =>
          show (isTup (.tuple ds) ns.length ns.length && (rowBits ns ds).all id) = false
          rw [hT, Bool.false_and]
        | _ => rfl
      have z := q H fun _ _ e => e
      rw [e] at z
      exact z
    | true =>
      refine iteF ?_
      cases hd with
      | tup e r =>
        rename_i a xs ds
        have hlen : xs.length = ds.length := DqA.len r
        have hl2 : ds.length = ns.length := by
          have : (decide ((ns.length : Int) ≤ (ds.length : Int)) && decide ((ds.length : Int) ≤ (ns.length : Int))) = true := hT
          simp at this
          omega
        have ei : isRow ns (.tuple ds) = (rowBits ns ds).all id := by
          show (isTup (.tuple ds) ns.length ns.length && (rowBits ns ds).all id) = _
          rw [hT, Bool.true_and]
        have hlb : (rowBits ns ds).length = ns.length := by
          unfold rowBits
          rw [List.length_zipWith, hl2, Nat.min_self]
        refine ⟨.ref a, rfl, .ref va, rfl, a, va, xs, ns.map V.int, rfl, .inr ⟨.inl (.inl e), .inl (.inl hva), fun D nD => ?_⟩⟩
        refine lc_bl (walk_zipT (xs := xs) (ys := ns.map V.int) rfl) (rowBits ns ds) ?_ ?_ nD (fun H' S => ⟨.inl (.inl (S _ _ e)), .inl (.inl (S _ _ hva))⟩) ?_ ?_
        · rw [hlb, List.length_map, hlen, hl2, Nat.min_self]
        · rw [List.length_map, hlen, hl2, Nat.min_self]
          omega
        · rintro i x Hh H' b hb S ⟨T, x', y', rfl, hT', rfl, e1, e2⟩ Q' R hq
          have e1' : xs[i]? = some x' := e1
          have e2' : (ns.map V.int)[i]? = some y' := e2
          obtain ⟨dx, hdx, hqx⟩ := DqA.at r e1'
          obtain ⟨n, hn, rfl⟩ : ∃ n, ns[i]? = some n ∧ y' = V.int n := by
            rw [List.getElem?_map] at e2'
            cases e : ns[i]? with
            | none =>
              rw [e] at e2'
              cases e2'
            | some z =>
              rw [e] at e2'
              exact ⟨z, rfl, (Option.some.inj e2').symm⟩
          have eb : b = isNum dx 0 (n - 1) := by
            unfold rowBits at hb
            rw [List.getElem?_zipWith, hdx, hn] at hb
            exact (Option.some.inj hb).symm
          have S2 : Same Hh (upd Hh T (.tup [x', V.int n])) := same_upd hT'
          refine ⟨T, _, rfl, .inl (.inl upd_same), rfl, x', [V.int n], rfl, V.int n, [], rfl, rfl, rfl, ?_⟩
          refine iteR ?_
          refine ⟨x', rfl, .int n, rfl, _, _, rfl, rfl, x', dx, 0, _, rfl, Dq.same S2 dx x' (Dq.same S dx x' hqx), ?_⟩
          rw [← eb]
          exact hq _ S2
        · intro H' S hD
          refine ⟨D, rowBits ns ds, rfl, .inl (.inl hD), ?_⟩
          have z := q H' S
          rw [ei] at z
          exact z
      | _ => cases hT
end
end KR

set_option Elab.async false
set_option linter.all false
set_option maxRecDepth 100000
set_option maxHeartbeats 4000000
/-! ### meets, meets_any -/
namespace KR
open PySem PySem.Spec PyProof.Rows L2 KG K80 KT
/-! the mirror: a lot as pairs -/
abbrev Lot := List (Int × Int)
def lotD (ps : Lot) : PyData := .tuple (ps.map fun p => .tuple [.int p.1, .int p.2])
def meetBits (rs : List Int) (ps : Lot) : List Bool := ps.map fun p => decide (rs.getD p.1.toNat 0 = p.2)
def meetsB (rs : List Int) (ps : Lot) : Bool := (meetBits rs ps).all id
def Fits (n : Nat) (ps : Lot) : Prop := ps.length ≤ 900 ∧ ∀ p ∈ ps, 0 ≤ p.1 ∧ p.1 < (n : Int)
def lotsD (ls : List Lot) : PyData := .tuple (ls.map lotD)
def meetsAnyB (rs : List Int) (ls : List Lot) : Bool := (ls.map (meetsB rs)).any id
theorem scMeets : FnScope ["row", "lot", "knob", "value"] ["row", "lot"] (defScope sMeets) := ⟨rfl, rfl, rfl, by decide +kernel, rfl, by decide +kernel, by decide +kernel⟩
theorem blkMeets : blkC ["row", "lot", "knob", "value"] (defScope sMeets) { kind := .function, names := [(".0", .local), ("knob", .local), ("value", .local), ("row", .free)], isGenerator := false, isCoroutine := false } [("knob", 2), ("value", 3)] = true := by decide +kernel
theorem scMeetsAny : FnScope ["row", "lots", "lot"] ["row", "lots"] (defScope sMeetsAny) := ⟨rfl, rfl, rfl, by decide +kernel, rfl, by decide +kernel, by decide +kernel⟩
theorem blkMeetsAny : blkC ["row", "lots", "lot"] (defScope sMeetsAny) { kind := .function, names := [(".0", .local), ("lot", .local), ("meets", .globalImplicit), ("row", .free)], isGenerator := false, isCoroutine := false } [("lot", 2)] = true := by decide +kernel
section
variable {P : Program} {w : World} {K : PySem.W.Frag} {mg : Str → Option Value} {base : Heap} {F0 : Addr}
def spMeets : Sp := fun vs H Q _ => ∃ (ra : Addr) (rs : List Int) (v : V) (ps : Lot), vs = [.ref ra, v] ∧ H ra = some (.tup (rs.map V.int)) ∧ Dq H v (lotD ps) ∧ Fits rs.length ps ∧ ∀ H', Same H H' → Q (.bl (meetsB rs ps)) H'
theorem ok_meets {f : Addr} {fd : FuncData} (F : Fun K "meets" "meets" sMeets f fd) (za : mg "all" = none) : FnOk P w K mg base CX0 1 f fd ["row", "lot"] spMeets := by
  refine F.ok scMeets (fun vs H Q E h => ?_) (fun cdv A outer s H vs Q E hr h => ?_)
  · obtain ⟨ra, rs, v, ps, rfl, _⟩ := h
    rfl
  · obtain ⟨ra, rs, v, ps, rfl, hra, hd, ⟨hf, hp⟩, q⟩ := h
    refine ⟨_, pss_one (ps_ret (pe_callB (cr_all rfl) (by rfl) za PyProof.Rows.boot_all (pa_cons (pe_lc (g := gTup K 2 (gCons (gName 2) (gCons (gName 3) gNil))) (te := tOp rEq (tOp (rIxT K) (tVar 0) (tVar 2)) (tVar 3)) rfl scMeets.nd (pi_tup (pv 1)) (blkOk_by (own := [("knob", 2), ("value", 3)]) blkMeets)
        (fun s H C cl fp => pg_tup (n := 2) rfl (pgs_cons (pg_name (i := 2) scMeets.nd rfl (.inl rfl) (.inr rfl)) (pgs_cons (pg_name (i := 3) scMeets.nd rfl (.inl rfl) (.inr rfl)) pgs_nil))) (fun _ _ _ _ _ => pts_nil)
        (fun _ _ _ _ _ => pe_cmpR op_eq (pe_ix ix_tup (pv 0) (pv 2) (fun _ _ => rfl)) (pv 3) (nomark _))) pa_nil))), ?_⟩
    cases hd with
    | tup e r =>
      rename_i a xs
      have hlen : xs.length = ps.length := by
        rw [DqA.len r, List.length_map]
      refine ⟨.ref a, rfl, a, rfl, ⟨xs, .inl (.inl e)⟩, fun D nD => ?_⟩
      have hbl : (meetBits rs ps).length = ps.length := by
        unfold meetBits
        rw [List.length_map]
      refine lc_bl (walk_tup (xs := xs)) (meetBits rs ps) (by rw [hbl, hlen]) (by omega) nD (fun H' S => .inl (.inl (S _ _ e))) ?_ ?_
      · rintro i x Hh H' b hb S ⟨rfl, hx⟩ Q' R hq
        obtain ⟨dx, hdx, hqx⟩ := DqA.at r hx
        rw [List.getElem?_map] at hdx
        cases hpi : ps[i]? with
        | none =>
          rw [hpi] at hdx
          cases hdx
        | some p =>
          rw [hpi] at hdx
          cases hdx
          have eb : b = decide (rs.getD p.1.toNat 0 = p.2) := by
            unfold meetBits at hb
            rw [List.getElem?_map, hpi] at hb
            exact (Option.some.inj hb).symm
          obtain ⟨h0, h1⟩ := hp p (List.mem_of_getElem? hpi)
          cases hqx with
          | tup e2 r2 =>
            cases r2 with
            | cons k1 r2 =>
              cases r2 with
              | cons k2 r2 =>
                cases r2
                cases k1
                cases k2
                rename_i t
                refine ⟨t, _, rfl, .inl (.inl (S _ _ e2)), rfl, .int p.1, [.int p.2], rfl, .int p.2, [], rfl, rfl, rfl, ?_⟩
                refine iteR ?_
                have hil : p.1.toNat < rs.length := by omega
                refine ⟨.ref ra, rfl, .int p.1, rfl, ra, _, p.1, .int (rs.getD p.1.toNat 0), rfl, rfl, .inl (.inl (S _ _ hra)), L2.at_of (j := p.1.toNat) (by omega) ?_, .int p.2, rfl, ?_⟩
                · rw [List.getElem?_map, List.getElem?_eq_getElem hil, List.getD_eq_getElem?_getD, List.getElem?_eq_getElem hil]
                  rfl
                · refine ⟨rfl, ?_⟩
                  have z := hq _ fun _ _ e => e
                  rw [eb] at z
                  rw [show decide (V.int (rs.getD p.1.toNat 0) = V.int p.2) = decide (rs.getD p.1.toNat 0 = p.2) from by simp]
                  exact z
      · intro H' S hD
        exact ⟨D, meetBits rs ps, rfl, .inl (.inl hD), q H' S⟩
/-- meets_any -/
def spMeetsAny : Sp := fun vs H Q _ => ∃ (ra : Addr) (rs : List Int) (v : V) (ls : List Lot), vs = [.ref ra, v] ∧ H ra = some (.tup (rs.map V.int)) ∧ Dq H v (lotsD ls) ∧ ls.length ≤ 900 ∧ (∀ ps ∈ ls, Fits rs.length ps) ∧ ∀ H', Same H H' → Q (.bl (meetsAnyB rs ls)) H'
theorem ok_meetsAny {f fM : Addr} {fd fdM : FuncData} (F : Fun K "meets_any" "meets_any" sMeetsAny f fd) (dM : Dfn K mg "meets" fM fdM ["row", "lot"]) (GM : FnOk P w K mg base CX0 1 fM fdM ["row", "lot"] spMeets) (za : mg "any" = none) : FnOk P w K mg base CX0 2 f fd ["row", "lots"] spMeetsAny := by
  refine F.ok scMeetsAny (fun vs H Q E h => ?_) (fun cdv A outer s H vs Q E hr h => ?_)
  · obtain ⟨ra, rs, v, ls, rfl, _⟩ := h
    rfl
  · obtain ⟨ra, rs, v, ls, rfl, hra, hd, hl9, hp, q⟩ := h
    refine ⟨_, pss_one (ps_ret (pe_callB (cr_any rfl) (by rfl) za PyProof.Rows.boot_any (pa_cons (pe_lc rfl scMeetsAny.nd (pi_tup (pv 1)) (blkOk_by (own := [("lot", 2)]) blkMeetsAny)
        (fun s H C cl fp => pg_name (i := 2) scMeetsAny.nd rfl (.inl rfl)) (fun _ _ _ _ _ => pts_nil)
        (fun _ _ _ _ _ => pe_call GM hr (by rfl) dM.gm dM.kp dM.bd .nil pass0 (pa_cons (pv 0) (pa_cons (pv 2) pa_nil)))) pa_nil))), ?_⟩
    cases hd with
    | tup e r =>
      rename_i a xs
      have hlen : xs.length = ls.length := by
        rw [DqA.len r, List.length_map]
      refine ⟨.ref a, rfl, a, rfl, ⟨xs, .inl (.inl e)⟩, fun D nD => ?_⟩
      have hbl : (ls.map (meetsB rs)).length = ls.length := List.length_map _
      refine lc_bl (walk_tup (xs := xs)) (ls.map (meetsB rs)) (by rw [hbl, hlen]) (by omega) nD (fun H' S => .inl (.inl (S _ _ e))) ?_ ?_
      · rintro i x Hh H' b hb S ⟨rfl, hx⟩ Q' R hq
        obtain ⟨dx, hdx, hqx⟩ := DqA.at r hx
        rw [List.getElem?_map] at hdx
        cases hpi : ls[i]? with
        | none =>
          rw [hpi] at hdx
          cases hdx
        | some ps =>
          rw [hpi] at hdx
          cases hdx
          have eb : b = meetsB rs ps := by
            rw [List.getElem?_map, hpi] at hb
            exact (Option.some.inj hb).symm
          refine ⟨rfl, ?_⟩
          refine iteR ?_
          refine ⟨.ref ra, rfl, x, rfl, ra, rs, x, ps, rfl, S _ _ hra, Dq.same S _ x hqx, hp ps (List.mem_of_getElem? hpi), fun H4 S4 => ?_⟩
          rw [← eb]
          exact hq H4 S4
      · intro H' S hD
        exact ⟨D, ls.map (meetsB rs), rfl, .inl (.inl hD), q H' S⟩
end
end KR

set_option Elab.async false
set_option linter.all false
set_option maxRecDepth 100000
set_option maxHeartbeats 4000000
/-! ### need_lot, is_let, need_shape -/
namespace KR
open PySem PySem.Spec PyProof.Rows L2 KG K80 KT
/-! right rigs, lots, rows as they are -/
def lotOf : PyData → Lot
  | .tuple ds => ds.map fun d => match d with | .tuple [.int i, .int j] => (i, j) | _ => (0, 0)
  | _ => []
def lotsOf : PyData → List Lot
  | .tuple ds => ds.map lotOf
  | _ => []
def valsOf : PyData → List Int
  | .tuple (v :: _) => intsOf v
  | _ => []
def barsOf : PyData → List Lot
  | .tuple [_, b] => lotsOf b
  | _ => []
theorem lot_knobs {ns : List Int} : ∀ {ds : List PyData} {l : Int}, lotGo ns l ds = true → ∀ x ∈ ds, ∃ i j, x = .tuple [.int i, .int j] ∧ 0 ≤ i ∧ i < (ns.length : Int) ∧ 0 ≤ j ∧ j ≤ ns.getD i.toNat 0 - 1 := by
  intro ds
  induction ds with
  | nil =>
    intro l _ x hx
    cases hx
  | cons y r ih =>
    intro l h x hx
    have h2 : (isSet ns y && (decide (l < knobOf y) && lotGo ns (knobOf y) r)) = true := h
    rw [Bool.and_eq_true, Bool.and_eq_true] at h2
    rcases List.mem_cons.mp hx with e | e
    · subst e
      obtain ⟨i, w, rfl⟩ := isSet_shape h2.1
      have h3 : (isNum (.int i) 0 ((ns.length : Int) - 1) && isNum w 0 (ns.getD i.toNat 0 - 1)) = true := h2.1
      rw [Bool.and_eq_true] at h3
      obtain ⟨j, rfl, j0, j1⟩ := isNum_int h3.2
      obtain ⟨i', e', i0, i1⟩ := isNum_int h3.1
      cases e'
      exact ⟨i, j, rfl, i0, by omega, j0, j1⟩
    · exact ih h2.2.2 x e
theorem lot_right {ns : List Int} {d : PyData} (h : isLot ns d = true) : d = lotD (lotOf d) ∧ Fits ns.length (lotOf d) := by
  cases d with
  | tuple ds =>
    have e1 : (isTup (.tuple ds) 1 3 && lotGo ns (-1) ds) = true := h
    rw [Bool.and_eq_true] at e1
    have hk := lot_knobs e1.2
    have hb : (decide ((1 : Int) ≤ (ds.length : Int)) && decide ((ds.length : Int) ≤ 3)) = true := e1.1
    simp at hb
    refine ⟨?_, ?_, fun p hp => ?_⟩
    · show PyData.tuple ds = .tuple (((ds.map fun d => match d with | .tuple [.int i, .int j] => (i, j) | _ => (0, 0))).map fun p => .tuple [.int p.1, .int p.2])
      rw [List.map_map]
      congr 1
      conv => lhs; rw [← List.map_id ds]
      refine List.map_congr_left fun x hx => ?_
      obtain ⟨i, j, rfl, _⟩ := hk x hx
      rfl
    · show (ds.map _).length ≤ 900
      rw [List.length_map]
      omega
    · obtain ⟨x, hx, rfl⟩ := List.mem_map.mp hp
      obtain ⟨i, j, rfl, h0, h1, _⟩ := hk x hx
      exact ⟨h0, h1⟩
  | _ => cases h
theorem fwGo_none {ns : List Int} : ∀ {ds : List PyData} {i : Nat} {p : Option PyData}, fwGo ns i p ds = none → ∀ d ∈ ds, isLot ns d = true := by
  intro ds
  induction ds with
  | nil =>
    intro i p _ d hd
    cases hd
  | cons x r ih =>
    intro i p h d hd
    cases hL : isLot ns x with
    | false =>
      rw [fwGo_bad hL] at h
      cases h
    | true =>
      have hn : ¬ (isLot ns x = false) := by
        rw [hL]
        exact Bool.noConfusion
      have hr : fwGo ns (i + 1) (some x) r = none := by
        cases p with
        | none =>
          rw [fwGo, if_neg hn] at h
          exact h
        | some p =>
          rw [fwGo, if_neg hn] at h
          have h' : (if PySem.W.dataLt p x = true then fwGo ns (i + 1) (some x) r else some i) = none := h
          by_cases hlt : PySem.W.dataLt p x = true
          · rw [if_pos hlt] at h'
            exact h'
          · rw [if_neg hlt] at h'
            cases h'
      rcases List.mem_cons.mp hd with e | e
      · rw [e]
        exact hL
      · exact ih hr d e
theorem bar_right {ns : List Int} {d : PyData} (h : wrongBar ns d = none) : d = lotsD (lotsOf d) ∧ (lotsOf d).length ≤ 6 ∧ ∀ ps ∈ lotsOf d, Fits ns.length ps := by
  cases d with
  | tuple ds =>
    cases hT : isTup (.tuple ds) 0 6 with
    | false =>
      exfalso
      have h2 : (if isTup (.tuple ds) 0 6 = true then (fw ns ds).map fun i => PyData.tuple [.int 1, .int (i : Nat)] else some (.tuple [.int 1])) = none := h
      rw [hT] at h2
      cases h2
    | true =>
      have h2 : (if isTup (.tuple ds) 0 6 = true then (fw ns ds).map fun i => PyData.tuple [.int 1, .int (i : Nat)] else some (.tuple [.int 1])) = none := h
      rw [hT, if_pos rfl, Option.map_eq_none_iff] at h2
      have all := fwGo_none h2
      have hb : (decide ((0 : Int) ≤ (ds.length : Int)) && decide ((ds.length : Int) ≤ 6)) = true := hT
      simp at hb
      refine ⟨?_, ?_, fun ps hps => ?_⟩
      · show PyData.tuple ds = .tuple ((ds.map lotOf).map lotD)
        rw [List.map_map]
        congr 1
        conv => lhs; rw [← List.map_id ds]
        exact List.map_congr_left fun x hx => (lot_right (all x hx)).1
      · show (ds.map lotOf).length ≤ 6
        rw [List.length_map]
        omega
      · obtain ⟨x, hx, rfl⟩ := List.mem_map.mp hps
        exact (lot_right (all x hx)).2
  | _ => cases h
theorem rig_right {d : PyData} (h : wrongRig d = none) : d = .tuple [.tuple ((valsOf d).map .int), lotsD (barsOf d)] ∧ (∀ n ∈ valsOf d, 2 ≤ n ∧ n ≤ 4) ∧ 1 ≤ (valsOf d).length ∧ (valsOf d).length ≤ 5 ∧ (barsOf d).length ≤ 6 ∧ ∀ ps ∈ barsOf d, Fits (valsOf d).length ps := by
  cases d with
  | tuple ds =>
    match ds, h with
    | [v, b], h =>
      have h2 : (match wrongVals v with | some p => some p | none => wrongBar (intsOf v) b) = none := h
      cases hv : wrongVals v with
      | some p =>
        rw [hv] at h2
        cases h2
      | none =>
        rw [hv] at h2
        obtain ⟨e1, k1, k2, k3⟩ := vals_right hv
        obtain ⟨e2, k4, k5⟩ := bar_right h2
        refine ⟨?_, k1, k2, k3, k4, k5⟩
        show PyData.tuple [v, b] = .tuple [.tuple ((intsOf v).map .int), lotsD (lotsOf b)]
        rw [← e1, ← e2]
    | [], h => cases h
    | [_], h => cases h
    | _ :: _ :: _ :: _, h => cases h
  | _ => cases h
theorem row_right {ns : List Int} {d : PyData} (h : isRow ns d = true) : d = .tuple ((intsOf d).map .int) ∧ (intsOf d).length = ns.length := by
  cases d with
  | tuple ds =>
    have h2 : (isTup (.tuple ds) ns.length ns.length && (rowBits ns ds).all id) = true := h
    rw [Bool.and_eq_true] at h2
    have hl : ds.length = ns.length := by
      have : (decide ((ns.length : Int) ≤ (ds.length : Int)) && decide ((ds.length : Int) ≤ (ns.length : Int))) = true := h2.1
      simp at this
      omega
    have go : ∀ (ds : List PyData) (ns : List Int), ds.length = ns.length → (rowBits ns ds).all id = true → ∀ x ∈ ds, ∃ i, x = .int i := by
      intro ds
      induction ds with
      | nil =>
        intro ns _ _ x hx
        cases hx
      | cons y r ih =>
        intro ns hl h x hx
        cases ns with
        | nil => cases hl
        | cons n ns =>
          have h3 : (isNum y 0 (n - 1) && (rowBits ns r).all id) = true := h
          rw [Bool.and_eq_true] at h3
          rcases List.mem_cons.mp hx with e | e
          · obtain ⟨i, z, _⟩ := isNum_int h3.1
            exact ⟨i, by rw [e, z]⟩
          · exact ih ns (by simpa using hl) h3.2 x e
    have all := go ds ns hl h2.2
    refine ⟨?_, ?_⟩
    · show PyData.tuple ds = .tuple ((ds.map fun d => match d with | .int i => i | _ => 0).map .int)
      rw [List.map_map]
      congr 1
      conv => lhs; rw [← List.map_id ds]
      refine List.map_congr_left fun x hx => ?_
      obtain ⟨i, rfl⟩ := all x hx
      rfl
    · show (ds.map _).length = _
      rw [List.length_map, hl]
  | _ => cases h
def isLet (d x : PyData) : Bool := isRow (valsOf d) x && !meetsAnyB (intsOf x) (barsOf d)
def isShape (ns : List Int) (d : PyData) : Bool := match d with
  | .tuple [s, m] => isNum s 1 (min 3 (ns.length : Int)) && isNum m 1 2
  | _ => false
abbrev sLet : Stmt := topS 32
abbrev sShape : Stmt := topS 41
abbrev sNShape : Stmt := topS 42
theorem scLet : FnScope ["rig", "value", "values", "barred"] ["rig", "value"] (defScope sLet) := ⟨rfl, rfl, rfl, by decide +kernel, rfl, by decide +kernel, by decide +kernel⟩
theorem scShape : FnScope ["values", "value", "size", "most"] ["values", "value"] (defScope sShape) := ⟨rfl, rfl, rfl, by decide +kernel, rfl, by decide +kernel, by decide +kernel⟩
theorem scNShape : FnScope ["rig", "shape", "values", "_"] ["rig", "shape"] (defScope sNShape) := ⟨rfl, rfl, rfl, by decide +kernel, rfl, by decide +kernel, by decide +kernel⟩
/-- as Told, the field the very value -/
def ToldV (C : Addr) (E : XK) (H : Hp) (f : Str) (x : V) : Prop := ∀ (dx : Addr) (H' : Hp), Same H H' → H' dx = some (.xd [(f, x)]) → E (.ref C) (some dx) H'
section
variable {P : Program} {w : World} {K : PySem.W.Frag} {mg : Str → Option Value} {base : Heap}
def spNLot (CR CL : Addr) : Sp := fun vs H Q E => ∃ (v x : V) (d dx : PyData), vs = [v, x] ∧ Dq H v d ∧ Dq H x dx ∧ (∀ p, wrongRig d = some p → Told CR E H "path" p) ∧
  (wrongRig d = none → (isLot (valsOf d) dx = false → ToldV CL E H "value" x) ∧ (isLot (valsOf d) dx = true → ∀ H', Same H H' → Q x H'))
theorem ok_nlot {f fR fL CR CL : Addr} {fd fdR fdL : FuncData} (F : Fun K "need_lot" "need_lot" sNLot f fd) (O : Ow P w K mg base Any "BadLot" "value" CL)
    (dR : Dfn K mg "need_rig" fR fdR ["rig"]) (GR : FnX P w K mg base 7 fR fdR ["rig"] (spRig CR))
    (dL : Dfn K mg "is_lot" fL fdL ["values", "value"]) (GL : FnOk P w K mg base CX0 4 fL fdL ["values", "value"] spLot) : FnX P w K mg base 8 f fd ["rig", "lot"] (spNLot CR CL) := by
  obtain ⟨fI, fdI, iI, tI, F1, bI⟩ := O.ini
  refine fnX_of F scNLot (fun vs H Q E h => ?_) (fun cdv A outer s H vs Q E hgd hr h => ?_)
  · obtain ⟨v, x, d, dx, rfl, _⟩ := h
    rfl
  · obtain ⟨v, x, d, dx, rfl, hd, hx, qx, qn⟩ := h
    refine ⟨_, pss_cons (ps_asg (pe_callX GR hgd hr (by rfl) dR.gm dR.kp dR.bd (passes_call (takes_of rfl rfl rfl rfl) (fun _ _ _ _ h => h)) (pa_cons (pv 0) pa_nil)) (pg_tup rfl (pgs_cons (pg_name (i := 2) scNLot.nd rfl (.inl rfl)) (pgs_cons (pg_name (i := 3) scNLot.nd rfl (.inl rfl)) pgs_nil))))
      (pss_cons (ps_if (pt_not (pt_val (pe_call GL (hr.mono (by decide)) (by rfl) dL.gm dL.kp dL.bd .nil pass0 (pa_cons (pv 2) (pa_cons (pv 1) pa_nil)))))
          (pss_one (ps_raise rfl (takes_of rfl rfl rfl rfl) (pmk_xG PySem.F.excBase_ValueError O.xb (raises_own O.sb O.ty) iI tI F1 hgd (hr.mono (by decide)) bI (by rfl) O.gm (pa_cons (pv 1) pa_nil)))) pss_nil)
      (pss_one (ps_ret (pv 1)))), ?_⟩
    refine ⟨v, rfl, v, d, rfl, hd, qx, fun hn H1 S1 => ?_⟩
    obtain ⟨ed, _⟩ := rig_right hn
    rw [ed] at hd
    cases hd with
    | tup e r =>
      cases r with
      | cons h1 r =>
        cases r with
        | cons h2 r =>
          cases r
          rename_i a v1 v2
          obtain ⟨va, rfl, hva⟩ := dq_ints h1
          refine ⟨a, _, rfl, .inl (.inl (S1 _ _ e)), rfl, .ref va, [v2], rfl, v2, [], rfl, rfl, ?_⟩
          refine ⟨.ref va, rfl, x, rfl, va, valsOf d, x, dx, rfl, S1 _ _ hva, Dq.same S1 dx x hx, _, rfl, ?_⟩
          obtain ⟨q1, q2⟩ := qn hn
          cases hL : isLot (valsOf d) dx with
          | false =>
            refine iteT ?_
            exact ⟨x, rfl, raise_end O stays_any trivial fun dx H' S' z => q1 hL dx H' (fun b o y => S' b o (S1 b o y)) z⟩
          | true =>
            refine iteF ?_
            exact ⟨x, rfl, q2 hL H1 S1⟩
def spLet (CR : Addr) : Sp := fun vs H Q E => ∃ (v x : V) (d dx : PyData), vs = [v, x] ∧ Dq H v d ∧ Dq H x dx ∧ (∀ p, wrongRig d = some p → Told CR E H "path" p) ∧ (wrongRig d = none → ∀ H', Same H H' → Q (.bl (isLet d dx)) H')
theorem ok_let {f fR fW fM CR : Addr} {fd fdR fdW fdM : FuncData} (F : Fun K "is_let" "is_let" sLet f fd)
    (dR : Dfn K mg "need_rig" fR fdR ["rig"]) (GR : FnX P w K mg base 7 fR fdR ["rig"] (spRig CR))
    (dW : Dfn K mg "is_row" fW fdW ["values", "value"]) (GW : FnOk P w K mg base CX0 2 fW fdW ["values", "value"] spRow)
    (dM : Dfn K mg "meets_any" fM fdM ["row", "lots"]) (GM : FnOk P w K mg base CX0 2 fM fdM ["row", "lots"] spMeetsAny) : FnX P w K mg base 8 f fd ["rig", "value"] (spLet CR) := by
  refine fnX_of F scLet (fun vs H Q E h => ?_) (fun cdv A outer s H vs Q E hgd hr h => ?_)
  · obtain ⟨v, x, d, dx, rfl, _⟩ := h
    rfl
  · obtain ⟨v, x, d, dx, rfl, hd, hx, qx, qn⟩ := h
    refine ⟨_, pss_cons (ps_asg (pe_callX GR hgd hr (by rfl) dR.gm dR.kp dR.bd (passes_call (takes_of rfl rfl rfl rfl) (fun _ _ _ _ h => h)) (pa_cons (pv 0) pa_nil)) (pg_tup rfl (pgs_cons (pg_name (i := 2) scLet.nd rfl (.inl rfl)) (pgs_cons (pg_name (i := 3) scLet.nd rfl (.inl rfl)) pgs_nil))))
      (pss_one (ps_ret (pe_and (pe_call GW (hr.mono (by decide)) (by rfl) dW.gm dW.kp dW.bd .nil pass0 (pa_cons (pv 2) (pa_cons (pv 1) pa_nil)))
        (pe_one (pe_not (pe_call GM (hr.mono (by decide)) (by rfl) dM.gm dM.kp dM.bd .nil pass0 (pa_cons (pv 1) (pa_cons (pv 3) pa_nil)))))))), ?_⟩
    refine ⟨v, rfl, v, d, rfl, hd, qx, fun hn H1 S1 => ?_⟩
    obtain ⟨ed, _, _, hl5, hb6, hfit⟩ := rig_right hn
    rw [ed] at hd
    cases hd with
    | tup e r =>
      cases r with
      | cons h1 r =>
        cases r with
        | cons h2 r =>
          cases r
          rename_i a v1 v2
          obtain ⟨va, rfl, hva⟩ := dq_ints h1
          refine ⟨a, _, rfl, .inl (.inl (S1 _ _ e)), rfl, .ref va, [v2], rfl, v2, [], rfl, rfl, ?_⟩
          refine ⟨.ref va, rfl, x, rfl, va, valsOf d, x, dx, rfl, S1 _ _ hva, by omega, Dq.same S1 dx x hx, fun H2 S2 => ⟨_, rfl, ?_⟩⟩
          have S12 : Same H H2 := fun b o z => S2 b o (S1 b o z)
          have q' := qn hn
          cases hR : isRow (valsOf d) dx with
          | false =>
            refine iteF ?_
            have z := q' H2 S12
            unfold isLet at z
            rw [hR, Bool.false_and] at z
            exact z
          | true =>
            refine iteT ?_
            obtain ⟨er, hrl⟩ := row_right hR
            rw [er] at hx
            obtain ⟨ra, rfl, hra⟩ := dq_ints hx
            refine ⟨.ref ra, rfl, v2, rfl, ra, intsOf dx, v2, barsOf d, rfl, S12 _ _ hra, Dq.same S12 _ v2 h2, by omega, fun ps hps => ?_, fun H3 S3 => ⟨_, rfl, ?_⟩⟩
            · rw [hrl]
              exact hfit ps hps
            · have z := q' H3 fun b o y => S3 b o (S12 b o y)
              unfold isLet at z
              rw [hR, Bool.true_and] at z
              exact z
def spShape : Sp := fun vs H Q _ => ∃ (va : Addr) (ns : List Int) (v : V) (d : PyData), vs = [.ref va, v] ∧ H va = some (.tup (ns.map V.int)) ∧ Dq H v d ∧ Q (.bl (isShape ns d)) H
theorem isShape_not {ns : List Int} {d : PyData} (h : isTup d 2 2 = false) : isShape ns d = false := by
  cases d with
  | tuple ds =>
    match ds, h with
    | [k, w], h => exact absurd h (by simp [isTup])
    | [], _ => rfl
    | [_], _ => rfl
    | _ :: _ :: _ :: _, _ => rfl
  | _ => rfl
theorem ok_shape {f fN fT : Addr} {fd fdN fdT : FuncData} {t3 t2 : Tok} (F : Fun K "is_shape" "is_shape" sShape f fd) (dN : Dfn K mg "is_number" fN fdN ["value", "least", "most"]) (GN : FnOk P w K mg base CX0 1 fN fdN ["value", "least", "most"] spNum)
    (dT : Dfn K mg "is_tuple" fT fdT ["value", "least", "most"]) (GT : FnOk P w K mg base CX0 1 fT fdT ["value", "least", "most"] spTup) (gS : mg "MOST_SETTINGS" = some (.int 3 t3)) (gL : mg "MOST_LOTS" = some (.int 2 t2)) (zl : mg "len" = none) (zm : mg "min" = none) : FnOk P w K mg base CX0 2 f fd ["values", "value"] spShape := by
  refine F.ok scShape (fun vs H Q E h => ?_) (fun cdv A outer s H vs Q E hr h => ?_)
  · obtain ⟨va, ns, v, d, rfl, _⟩ := h
    rfl
  · obtain ⟨va, ns, v, d, rfl, hva, hd, q⟩ := h
    refine ⟨_, pss_cons (ps_if (pt_not (pt_val (pe_call GT hr (by rfl) dT.gm dT.kp dT.bd .nil pass0 (pa_cons (pv 1) (pa_cons pe_int (pa_cons pe_int pa_nil)))))) (pss_one (ps_ret pe_bl)) pss_nil)
      (pss_cons (ps_asg (pv 1) (pg_tup rfl (pgs_cons (pg_name (i := 2) scShape.nd rfl (.inl rfl)) (pgs_cons (pg_name (i := 3) scShape.nd rfl (.inl rfl)) pgs_nil))))
      (pss_one (ps_ret (pe_and (pe_call GN hr (by rfl) dN.gm dN.kp dN.bd .nil pass0 (pa_cons (pv 2) (pa_cons pe_int (pa_cons (pe_callB (call_min2 rfl) (by rfl) zm (by decide +kernel) (pa_cons (pe_glob rfl gS (v := .int 3) ⟨_, rfl⟩) (pa_cons (pe_callB call_len_seq (by rfl) zl PySem.boot_len (pa_cons (pv 0) pa_nil)) pa_nil))) pa_nil))))
        (pe_one (pe_call GN hr (by rfl) dN.gm dN.kp dN.bd .nil pass0 (pa_cons (pv 3) (pa_cons pe_int (pa_cons (pe_glob rfl gL (v := .int 2) ⟨_, rfl⟩) pa_nil))))))))), ?_⟩
    refine ⟨v, rfl, v, d, 2, 2, rfl, hd, _, rfl, ?_⟩
    cases hT : isTup d 2 2 with
    | false =>
      refine iteT ?_
      rw [isShape_not hT] at q
      exact q
    | true =>
      refine iteF ?_
      obtain ⟨dk, dw, rfl⟩ := isTup_two hT
      cases hd with
      | tup e r =>
        cases r with
        | cons h1 r =>
          cases r with
          | cons h2 r =>
            cases r
            rename_i a v1 v2
            refine ⟨_, rfl, a, _, rfl, .inl (.inl e), rfl, v1, [v2], rfl, v2, [], rfl, rfl, ?_⟩
            refine ⟨v1, rfl, .ref va, rfl, va, _, rfl, .inr (.inl (.inl hva)), _, _, rfl, v1, dk, 1, _, rfl, h1, _, rfl, ?_⟩
            rw [List.length_map]
            have em : (if (ns.length : Int) < 3 then (ns.length : Int) else 3) = min 3 (ns.length : Int) := by
              by_cases h : (ns.length : Int) < 3
              · rw [if_pos h]
                omega
              · rw [if_neg h]
                omega
            rw [em]
            have q' : Q (.bl (isNum dk 1 (min 3 (ns.length : Int)) && isNum dw 1 2)) H := q
            cases hk : isNum dk 1 (min 3 (ns.length : Int)) with
            | false =>
              refine iteF ?_
              rw [hk, Bool.false_and] at q'
              exact q'
            | true =>
              refine iteT ?_
              rw [hk, Bool.true_and] at q'
              exact ⟨v2, rfl, v2, dw, 1, 2, rfl, h2, q'⟩
def spNShape (CR CS : Addr) : Sp := fun vs H Q E => ∃ (v x : V) (d dx : PyData), vs = [v, x] ∧ Dq H v d ∧ Dq H x dx ∧ (∀ p, wrongRig d = some p → Told CR E H "path" p) ∧
  (wrongRig d = none → (isShape (valsOf d) dx = false → ToldV CS E H "value" x) ∧ (isShape (valsOf d) dx = true → ∀ H', Same H H' → Q x H'))
theorem ok_nshape {f fR fL CR CS : Addr} {fd fdR fdL : FuncData} (F : Fun K "need_shape" "need_shape" sNShape f fd) (O : Ow P w K mg base Any "BadShape" "value" CS)
    (dR : Dfn K mg "need_rig" fR fdR ["rig"]) (GR : FnX P w K mg base 7 fR fdR ["rig"] (spRig CR))
    (dL : Dfn K mg "is_shape" fL fdL ["values", "value"]) (GL : FnOk P w K mg base CX0 2 fL fdL ["values", "value"] spShape) : FnX P w K mg base 8 f fd ["rig", "shape"] (spNShape CR CS) := by
  obtain ⟨fI, fdI, iI, tI, F1, bI⟩ := O.ini
  refine fnX_of F scNShape (fun vs H Q E h => ?_) (fun cdv A outer s H vs Q E hgd hr h => ?_)
  · obtain ⟨v, x, d, dx, rfl, _⟩ := h
    rfl
  · obtain ⟨v, x, d, dx, rfl, hd, hx, qx, qn⟩ := h
    refine ⟨_, pss_cons (ps_asg (pe_callX GR hgd hr (by rfl) dR.gm dR.kp dR.bd (passes_call (takes_of rfl rfl rfl rfl) (fun _ _ _ _ h => h)) (pa_cons (pv 0) pa_nil)) (pg_tup rfl (pgs_cons (pg_name (i := 2) scNShape.nd rfl (.inl rfl)) (pgs_cons (pg_name (i := 3) scNShape.nd rfl (.inl rfl)) pgs_nil))))
      (pss_cons (ps_if (pt_not (pt_val (pe_call GL (hr.mono (by decide)) (by rfl) dL.gm dL.kp dL.bd .nil pass0 (pa_cons (pv 2) (pa_cons (pv 1) pa_nil)))))
          (pss_one (ps_raise rfl (takes_of rfl rfl rfl rfl) (pmk_xG PySem.F.excBase_ValueError O.xb (raises_own O.sb O.ty) iI tI F1 hgd (hr.mono (by decide)) bI (by rfl) O.gm (pa_cons (pv 1) pa_nil)))) pss_nil)
      (pss_one (ps_ret (pv 1)))), ?_⟩
    refine ⟨v, rfl, v, d, rfl, hd, qx, fun hn H1 S1 => ?_⟩
    obtain ⟨ed, _⟩ := rig_right hn
    rw [ed] at hd
    cases hd with
    | tup e r =>
      cases r with
      | cons h1 r =>
        cases r with
        | cons h2 r =>
          cases r
          rename_i a v1 v2
          obtain ⟨va, rfl, hva⟩ := dq_ints h1
          refine ⟨a, _, rfl, .inl (.inl (S1 _ _ e)), rfl, .ref va, [v2], rfl, v2, [], rfl, rfl, ?_⟩
          refine ⟨.ref va, rfl, x, rfl, va, valsOf d, x, dx, rfl, S1 _ _ hva, Dq.same S1 dx x hx, _, rfl, ?_⟩
          obtain ⟨q1, q2⟩ := qn hn
          cases hL : isShape (valsOf d) dx with
          | false =>
            refine iteT ?_
            exact ⟨x, rfl, raise_end O stays_any trivial fun dx H' S' z => q1 hL dx H' (fun b o y => S' b o (S1 b o y)) z⟩
          | true =>
            refine iteF ?_
            exact ⟨x, rfl, q2 hL H1 S1⟩
end
end KR

set_option Elab.async false
set_option linter.all false
set_option maxRecDepth 100000
set_option maxHeartbeats 4000000
/-! ### let_rows -/
namespace KR
open PySem PySem.Spec PyProof.Rows L2 KG K80 KT
/-! rows that stand, however lists grow -/
def RowAt (H : Hp) (v : V) (r : List Int) : Prop := ∃ a, v = .ref a ∧ H a = some (.tup (r.map V.int))
inductive RowsAt (H : Hp) : List V → List (List Int) → Prop
  | nil : RowsAt H [] []
  | cons {v : V} {vs : List V} {r : List Int} {rs : List (List Int)} : RowAt H v r → RowsAt H vs rs → RowsAt H (v :: vs) (r :: rs)
/-- tuples stay -/
def KeepT (H H' : Hp) : Prop := ∀ b xs, H b = some (.tup xs) → H' b = some (.tup xs)
theorem KeepT.of {H H' : Hp} (s : Same H H') : KeepT H H' := fun b xs e => s b _ e
theorem RowsAt.keep {H H' : Hp} (k : KeepT H H') : ∀ {vs : List V} {rs : List (List Int)}, RowsAt H vs rs → RowsAt H' vs rs := by
  intro vs rs h
  induction h with
  | nil => exact .nil
  | cons h1 _ ih =>
    obtain ⟨a, e1, e2⟩ := h1
    exact .cons ⟨a, e1, k _ _ e2⟩ ih
theorem RowsAt.snoc {H : Hp} {v : V} {r : List Int} : ∀ {vs : List V} {rs : List (List Int)}, RowsAt H vs rs → RowAt H v r → RowsAt H (vs ++ [v]) (rs ++ [r]) := by
  intro vs rs h hv
  induction h with
  | nil => exact .cons hv .nil
  | cons h1 _ ih => exact .cons h1 ih
theorem RowsAt.len {H : Hp} : ∀ {vs : List V} {rs : List (List Int)}, RowsAt H vs rs → vs.length = rs.length := by
  intro vs rs h
  induction h with
  | nil => rfl
  | cons _ _ ih => rw [List.length_cons, List.length_cons, ih]
theorem RowsAt.at {H : Hp} : ∀ {vs : List V} {rs : List (List Int)} {i : Nat} {v : V}, RowsAt H vs rs → vs[i]? = some v → ∃ r, rs[i]? = some r ∧ RowAt H v r := by
  intro vs rs i v h
  induction h generalizing i with
  | nil =>
    intro e
    simp at e
  | @cons v' vs r rs h1 _ ih =>
    intro e
    cases i with
    | zero => exact ⟨r, rfl, (Option.some.inj e) ▸ h1⟩
    | succ i => exact ih e
theorem RowsAt.dq {H : Hp} : ∀ {vs : List V} {rs : List (List Int)}, RowsAt H vs rs → DqA H vs (rs.map fun r => .tuple (r.map .int)) := by
  intro vs rs h
  induction h with
  | nil => exact .nil
  | @cons v vs r rs h1 _ ih =>
    obtain ⟨a, rfl, e⟩ := h1
    refine .cons (.tup e ?_) ih
    have go : ∀ r : List Int, DqA H (r.map V.int) (r.map PyData.int) := by
      intro r
      induction r with
      | nil => exact .nil
      | cons n r ih => exact .cons (.int n) ih
    exact go r
theorem keepT_lst {H H' : Hp} {D : Addr} {xs ys : List V} (s : Same H H') (e : H D = some (.lst xs)) : KeepT H (upd H' D (.lst ys)) := fun b zs h => by
  have hb : b ≠ D := fun z => by
    rw [z, e] at h
    cases h
  rw [upd_ne hb]
  exact s _ _ h
/-! the mirror -/
def rowStep (rs : List (List Int)) (n : Int) : List (List Int) := rs.flatMap fun r => (List.range n.toNat).map fun k : Nat => r ++ [(k : Int)]
def allRows (ns : List Int) : List (List Int) := ns.foldl rowStep [[]]
def letRows (ns : List Int) (ls : List Lot) : List (List Int) := (allRows ns).filter fun r => !meetsAnyB r ls
def rowsD (rs : List (List Int)) : PyData := .tuple (rs.map fun r => .tuple (r.map .int))
theorem rowStep_len {rs : List (List Int)} {n : Int} (h0 : 0 ≤ n) (h4 : n ≤ 4) : (rowStep rs n).length ≤ rs.length * 4 := by
  unfold rowStep
  rw [List.length_flatMap]
  have e : (rs.map fun r => ((List.range n.toNat).map fun k : Nat => r ++ [(k : Int)]).length) = rs.map fun _ => n.toNat := by
    refine List.map_congr_left fun r _ => ?_
    rw [List.length_map, List.length_range]
  rw [e]
  have go : ∀ rs : List (List Int), (rs.map fun _ => n.toNat).sum ≤ rs.length * 4 := by
    intro rs
    induction rs with
    | nil => simp
    | cons r rs ih =>
      rw [List.map_cons, List.sum_cons, List.length_cons]
      omega
  exact go rs
theorem foldRows_len : ∀ (ns : List Int) (rs : List (List Int)), (∀ n ∈ ns, 2 ≤ n ∧ n ≤ 4) → (ns.foldl rowStep rs).length ≤ rs.length * 4 ^ ns.length := by
  intro ns
  induction ns with
  | nil =>
    intro rs _
    simp
  | cons n ns ih =>
    intro rs h
    obtain ⟨h2, h4⟩ := h n (by simp)
    have z := ih (rowStep rs n) (fun m hm => h m (by simp [hm]))
    have z2 := rowStep_len (rs := rs) (n := n) (by omega) h4
    rw [List.foldl_cons, List.length_cons, Nat.pow_succ]
    calc _ ≤ (rowStep rs n).length * 4 ^ ns.length := z
      _ ≤ (rs.length * 4) * 4 ^ ns.length := Nat.mul_le_mul_right _ z2
      _ = rs.length * (4 ^ ns.length * 4) := by rw [Nat.mul_assoc, Nat.mul_comm 4]
theorem foldRows_width : ∀ (ns : List Int) (rs : List (List Int)) (k : Nat), (∀ r ∈ rs, r.length = k) → ∀ r ∈ ns.foldl rowStep rs, r.length = k + ns.length := by
  intro ns
  induction ns with
  | nil =>
    intro rs k h r hr
    exact h r hr
  | cons n ns ih =>
    intro rs k h r hr
    have z := ih (rowStep rs n) (k + 1) (fun q hq => ?_) r hr
    · rw [z, List.length_cons]
      omega
    · unfold rowStep at hq
      obtain ⟨r0, h0, h1⟩ := List.mem_flatMap.mp hq
      obtain ⟨j, _, rfl⟩ := List.mem_map.mp h1
      rw [List.length_append, h r0 h0]
      rfl
theorem allRows_width {ns : List Int} {r : List Int} (h : r ∈ allRows ns) : r.length = ns.length := by
  have z := foldRows_width ns [[]] 0 (fun r hr => by
    have : r = [] := by simpa using hr
    rw [this]
    rfl) r h
  omega
theorem allRows_len {ns : List Int} (h : ∀ n ∈ ns, 2 ≤ n ∧ n ≤ 4) (h5 : ns.length ≤ 5) : (allRows ns).length ≤ 1024 := by
  have z := foldRows_len ns [[]] h
  have e : 4 ^ ns.length ≤ 4 ^ 5 := Nat.pow_le_pow_right (by decide) h5
  have : ([[]] : List (List Int)).length * 4 ^ ns.length ≤ 1024 := by
    rw [List.length_singleton, Nat.one_mul]
    exact e
  exact Nat.le_trans z this
/-! a comprehension of two generators, the outer over a walk, the inner over a walk that the outer's item tells -/
abbrev Inner (J1 : It) (H4 : Hp) (D : Addr) (g1 : TG) (tt1 : TT) (te : TE) (vs1 : List Nat) (σ2 : L2.St) (Nx : Hp → Prop) : Prop :=
  ∃ W1 : Nat → Nat → Hp → Prop, (∃ m, W1 0 m H4) ∧ ∀ j k H, W1 j k H →
    (J1.stop j H ∧ Nx H) ∨ (J1.go j H ∧ ∃ Nx1 : Hp → Prop, (∀ H', Nx1 H' → ∃ k', k' < k ∧ W1 (j + 1) k' H') ∧ ∀ x H', J1.yld j H x H' → g1 x (wipe σ2 vs1) H' fun σ3 H5 => wipe σ3 vs1 = wipe σ2 vs1 ∧ tt1 σ3 H5 fun b H6 =>
      if b = true then te σ3 H6 fun y H7 => ∃ acc, H7 D = some (.lst acc) ∧ acc.length < sizeLine ∧ Nx1 (upd H7 D (.lst (acc ++ [y]))) else Nx1 H6)
theorem inner_it {J1 : It} {n : Nat} {G : Hp → Prop} {Y : Nat → Hp → V → Hp → Prop} (w : Walk J1 n G Y) {H4 : Hp} {D : Addr} {g1 : TG} {tt1 : TT} {te : TE} {vs1 : List Nat} {σ2 : L2.St} {Nx : Hp → Prop} (Pw : Nat → Hp → Prop) (h0 : Pw 0 H4) (hG : ∀ i H, i ≤ n → Pw i H → G H)
    (hs : ∀ i x H H', i < n → Pw i H → Y i H x H' → g1 x (wipe σ2 vs1) H' fun σ3 H5 => wipe σ3 vs1 = wipe σ2 vs1 ∧ tt1 σ3 H5 fun b H6 =>
      if b = true then te σ3 H6 fun y H7 => ∃ acc, H7 D = some (.lst acc) ∧ acc.length < sizeLine ∧ Pw (i + 1) (upd H7 D (.lst (acc ++ [y]))) else Pw (i + 1) H6) (hd : ∀ H, Pw n H → Nx H) : Inner J1 H4 D g1 tt1 te vs1 σ2 Nx := by
  refine ⟨fun i m H => m = n - i ∧ i ≤ n ∧ Pw i H, ⟨n, by simp, Nat.zero_le _, h0⟩, ?_⟩
  rintro i m H ⟨rfl, hi, p⟩
  have q := hG i H hi p
  by_cases hlt : i < n
  · exact .inr ⟨w.goes i H hlt q, Pw (i + 1), fun H' p' => ⟨n - (i + 1), by omega, rfl, hlt, p'⟩, fun x H' y => hs i x H H' hlt p (w.yields i H x H' hlt q y)⟩
  · have e : i = n := by omega
    subst e
    exact .inl ⟨w.stops H q, hd H p⟩
theorem outer_it {J : It} {n : Nat} {G : Hp → Prop} {Y : Nat → Hp → V → Hp → Prop} (w : Walk J n G Y) {g : TG} {tt : TT} {wi1 : TI} {g1 : TG} {tt1 : TT} {te : TE} {vs vs1 : List Nat} {σ : L2.St} {H1 : Hp} {D : Addr} {Qd : Hp → Prop} (Pv : Nat → Hp → Prop) (h0 : Pv 0 (upd H1 D (.lst []))) (hG : ∀ i H, i ≤ n → Pv i H → G H)
    (hs : ∀ i x H H', i < n → Pv i H → Y i H x H' → g x (wipe σ vs) H' fun σ2 H2 => wipe σ2 vs = wipe σ vs ∧ tt σ2 H2 fun b H3 =>
      if b = true then wi1 σ2 H3 fun J1 H4 => Inner J1 H4 D g1 tt1 te vs1 σ2 (Pv (i + 1)) else Pv (i + 1) H3) (hd : ∀ H, Pv n H → Qd H) :
    ∃ W : Nat → Nat → Hp → Prop, (∃ m, W 0 m (upd H1 D (.lst []))) ∧ ∀ i m H, W i m H →
      (J.stop i H ∧ Qd H) ∨ (J.go i H ∧ ∃ Nx : Hp → Prop, (∀ H', Nx H' → ∃ m', m' < m ∧ W (i + 1) m' H') ∧ ∀ x H', J.yld i H x H' → g x (wipe σ vs) H' fun σ2 H2 => wipe σ2 vs = wipe σ vs ∧ tt σ2 H2 fun b H3 =>
        if b = true then wi1 σ2 H3 fun J1 H4 => Inner J1 H4 D g1 tt1 te vs1 σ2 Nx else Nx H3) := by
  refine ⟨fun i m H => m = n - i ∧ i ≤ n ∧ Pv i H, ⟨n, by simp, Nat.zero_le _, h0⟩, ?_⟩
  rintro i m H ⟨rfl, hi, p⟩
  have q := hG i H hi p
  by_cases hlt : i < n
  · exact .inr ⟨w.goes i H hlt q, Pv (i + 1), fun H' p' => ⟨n - (i + 1), by omega, rfl, hlt, p'⟩, fun x H' y => hs i x H H' hlt p (w.yields i H x H' hlt q y)⟩
  · have e : i = n := by omega
    subst e
    exact .inl ⟨w.stops H q, hd H p⟩
end KR

set_option Elab.async false
set_option linter.all false
set_option maxRecDepth 100000
set_option maxHeartbeats 4000000
namespace KR
open PySem PySem.Spec PyProof.Rows L2 KG K80 KT
abbrev sLetRows : Stmt := topS 33
theorem scLR : FnScope ["rig", "values", "barred", "rows", "many", "row", "value"] ["rig"] (defScope sLetRows) := ⟨rfl, rfl, rfl, by decide +kernel, rfl, by decide +kernel, by decide +kernel⟩
theorem blkLR1 : blkC ["rig", "values", "barred", "rows", "many", "row", "value"] (defScope sLetRows) { kind := .function, names := [(".0", .local), ("row", .local), ("value", .local), ("range", .globalImplicit), ("many", .free)], isGenerator := false, isCoroutine := false } [("row", 5), ("value", 6)] = true := by decide +kernel
theorem blkLR2 : blkC ["rig", "values", "barred", "rows", "many", "row", "value"] (defScope sLetRows) { kind := .function, names := [(".0", .local), ("row", .local), ("meets_any", .globalImplicit), ("barred", .free)], isGenerator := false, isCoroutine := false } [("row", 5)] = true := by decide +kernel
section
variable {P : Program} {w : World} {K : PySem.W.Frag} {mg : Str → Option Value} {base : Heap}
def spLetRows (CR : Addr) : Sp := fun vs H Q E => ∃ (v : V) (d : PyData), vs = [v] ∧ Dq H v d ∧ (∀ p, wrongRig d = some p → Told CR E H "path" p) ∧
  (wrongRig d = none → ∀ H' p xs, Same H H' → H' p = some (.tup xs) → RowsAt H' xs (letRows (valsOf d) (barsOf d)) → Q (.ref p) H')
theorem ok_letRows {f fR fM CR : Addr} {fd fdR fdM : FuncData} (F : Fun K "let_rows" "let_rows" sLetRows f fd)
    (dR : Dfn K mg "need_rig" fR fdR ["rig"]) (GR : FnX P w K mg base 7 fR fdR ["rig"] (spRig CR))
    (dM : Dfn K mg "meets_any" fM fdM ["row", "lots"]) (GM : FnOk P w K mg base CX0 2 fM fdM ["row", "lots"] spMeetsAny) (zr : mg "range" = none) (zt : mg "tuple" = none) : FnX P w K mg base 8 f fd ["rig"] (spLetRows CR) := by
  refine fnX_of F scLR (fun vs H Q E h => ?_) (fun cdv A outer s H vs Q E hgd hr h => ?_)
  · obtain ⟨v, d, rfl, _⟩ := h
    rfl
  · obtain ⟨v, d, rfl, hd, qx, qn⟩ := h
    refine ⟨_, pss_cons (ps_asg (pe_callX GR hgd hr (by rfl) dR.gm dR.kp dR.bd (passes_call (takes_of rfl rfl rfl rfl) (fun _ _ _ _ h => h)) (pa_cons (pv 0) pa_nil)) (pg_tup rfl (pgs_cons (pg_name (i := 1) scLR.nd rfl (.inl rfl)) (pgs_cons (pg_name (i := 2) scLR.nd rfl (.inr rfl)) pgs_nil))))
      (pss_cons (ps_set (i := 3) scLR.nd rfl (.inl rfl) (pe_lstN (pa_cons (pe_tup pa_nil) pa_nil)))
      (pss_cons (ps_for (passes_of rfl) rfl (pi_tup (pv 1)) (pg_name (i := 4) scLR.nd rfl (.inr rfl))
        (pss_one (ps_setLc2 (i := 3) (vs1 := [6]) rfl scLR.nd rfl rfl (by rfl) (pi_list (pv 3)) (blkOk_by (own := [("row", 5), ("value", 6)]) blkLR1) (by decide)
          (fun s H C cl fp => pg_name (i := 5) scLR.nd rfl (.inl rfl)) (fun _ _ _ _ _ => pts_nil)
          (fun _ _ _ _ _ => pi_range1 (by rfl) zr (pa_cons (pv 4) pa_nil))
          (fun s H C cl fp => pg_name (i := 6) scLR.nd rfl (.inl rfl)) (fun _ _ _ _ _ => pts_nil)
          (te := tOp (rCatA K) (tVar 5) (tTup (tCons (tVar 6) tNil)))
          (fun _ _ _ _ _ => pe_op op_catA (pv 5) (pe_tup (pa_cons (pv 6) pa_nil))))))
      (pss_one (ps_ret (pe_callTy call_tuple_of (by rfl) zt (by decide +kernel) (pa_cons (pe_lc rfl scLR.nd (pi_list (pv 3)) (blkOk_by (own := [("row", 5)]) blkLR2)
        (fun s H C cl fp => pg_name (i := 5) scLR.nd rfl (.inl rfl)) (fun _ _ _ _ _ => pts_one (pt_not (pt_val (pe_call GM (hr.mono (by decide)) (by rfl) dM.gm dM.kp dM.bd .nil pass0 (pa_cons (pv 5) (pa_cons (pv 2) pa_nil))))))
        (fun _ _ _ _ _ => pv 5)) pa_nil)))))), ?_⟩
    refine ⟨v, rfl, v, d, rfl, hd, qx, fun hn H1 S1 => ?_⟩
    obtain ⟨ed, hns, _, hl5, hb6, hfit⟩ := rig_right hn
    have qn' := qn hn
    generalize valsOf d = ns at *
    generalize barsOf d = ls at *
    subst ed
    cases hd with
    | tup e r =>
      cases r with
      | cons h1 r =>
        cases r with
        | cons h2 r =>
          cases r
          rename_i a v1 v2
          obtain ⟨va, rfl, hva⟩ := dq_ints h1
          refine ⟨a, _, rfl, .inl (.inl (S1 _ _ e)), rfl, .ref va, [v2], rfl, v2, [], rfl, rfl, ?_⟩
          refine ⟨Nat.zero_le _, fun p0 np0 => ⟨(show 1 ≤ sizeLine by decide), fun R0 nR0 _ => ?_⟩⟩
          have S2 : Same H (upd (upd H1 p0 (.tup [])) R0 (.lst [.ref p0])) := fun b o z => same_upd nR0 b o (same_upd np0 b o (S1 b o z))
          have hp0 : (upd (upd H1 p0 (.tup [])) R0 (.lst [.ref p0])) p0 = some (.tup []) := same_upd nR0 _ _ upd_same
          refine ⟨.ref va, rfl, va, rfl, ⟨_, .inl (.inl (S2 _ _ hva))⟩, for_it (walk_tup (xs := ns.map V.int)) (fun i σ H' => ∃ (R : Addr) (y : Option V) (acc : List V), σ = [some (.ref a), some (.ref va), some v2, some (.ref R), y, none, none] ∧ Same H H' ∧ H' R = some (.lst acc) ∧ RowsAt H' acc ((ns.take i).foldl rowStep [[]]))
            ⟨R0, none, [.ref p0], rfl, S2, upd_same, .cons ⟨p0, rfl, hp0⟩ .nil⟩ ?_ ?_ ?_⟩
          · rintro i σ H' _ ⟨_, _, _, _, S, _⟩
            exact .inl (.inl (S _ _ hva))
          · rintro i x σ Hc H' hi ⟨R, y, acc, rfl, S, hR, hrows⟩ ⟨rfl, hx⟩
            have hi' : i < ns.length := by simpa using hi
            obtain ⟨n, hn', rfl⟩ : ∃ n, ns[i]? = some n ∧ x = V.int n := by
              rw [List.getElem?_map, List.getElem?_eq_getElem hi'] at hx
              exact ⟨ns[i], List.getElem?_eq_getElem hi', (Option.some.inj hx).symm⟩
            have hmem : n ∈ ns := List.mem_of_getElem? hn'
            obtain ⟨hn2, hn4⟩ := hns n hmem
            have hrl : ((ns.take i).foldl rowStep [[]]).length ≤ 1024 := allRows_len (ns := ns.take i) (fun m hm => hns m (List.mem_of_mem_take hm)) (by rw [List.length_take]; omega)
            have hstep : (ns.take (i + 1)).foldl rowStep [[]] = rowStep ((ns.take i).foldl rowStep [[]]) n := by
              rw [List.take_succ_eq_append_getElem hi', List.foldl_append]
              have : ns[i] = n := by
                rw [List.getElem?_eq_getElem hi'] at hn'
                exact Option.some.inj hn'
              rw [this]
              rfl
            have hrw : ∀ r ∈ (ns.take i).foldl rowStep [[]], r.length ≤ 5 := fun r hr => by
              have z := allRows_width (ns := ns.take i) hr
              rw [List.length_take] at z
              omega
            generalize (ns.take i).foldl rowStep [[]] = rs at hrows hrl hstep hrw
            refine ⟨.ref R, rfl, R, rfl, ⟨acc, .inl (.inl hR)⟩, fun D nD => ?_⟩
            refine outer_it (walk_list (xs := acc)) (fun k Hh => Same H' Hh ∧ ∃ acc2, Hh D = some (.lst acc2) ∧ RowsAt Hh acc2 (rowStep (rs.take k) n)) ⟨same_upd nD, [], upd_same, .nil⟩ (fun k Hh _ p => .inl (.inl (p.1 _ _ hR))) ?_ ?_
            · rintro k x Hh Hh' hk ⟨Sk, acc2, hD, hr2⟩ ⟨rfl, hxk⟩
              obtain ⟨r, hrk, hrow⟩ := RowsAt.at (hrows.keep (KeepT.of Sk)) hxk
              have hkr : k < rs.length := (List.getElem?_eq_some_iff.mp hrk).1
              refine ⟨rfl, ?_⟩
              refine iteR ?_
              refine ⟨.int n, rfl, n, rfl, by omega, by omega, ?_⟩
              refine inner_it (walk_range (lo := 0) (n := n.toNat)) (fun j Hh => Same H' Hh ∧ RowAt Hh x r ∧ ∃ acc3, Hh D = some (.lst acc3) ∧ RowsAt Hh acc3 (rowStep (rs.take k) n ++ (List.range j).map fun q : Nat => r ++ [(q : Int)])) ⟨Sk, hrow, acc2, hD, by simpa using hr2⟩ (fun _ _ _ _ => trivial) ?_ ?_
              · rintro j x' Hj Hj' hj ⟨Sj, hrj, acc3, hD3, hr3⟩ ⟨rfl, rfl⟩
                obtain ⟨ra, rfl, hra⟩ := hrj
                have hlen3 : acc3.length < sizeLine := by
                  rw [hr3.len, List.length_append, List.length_map, List.length_range]
                  have z1 := rowStep_len (rs := rs.take k) (n := n) (by omega) hn4
                  have z2 : (rs.take k).length ≤ 1024 := by
                    rw [List.length_take]
                    omega
                  rw [sizeLine_eq]
                  omega
                have fin : ∀ (H7 : Hp) (y : V), Same Hj' H7 → RowAt H7 y (r ++ [(j : Int)]) → ∃ acc, H7 D = some (.lst acc) ∧ acc.length < sizeLine ∧ (Same H' (upd H7 D (.lst (acc ++ [y]))) ∧ RowAt (upd H7 D (.lst (acc ++ [y]))) (.ref ra) r ∧ ∃ acc3, (upd H7 D (.lst (acc ++ [y]))) D = some (.lst acc3) ∧ RowsAt (upd H7 D (.lst (acc ++ [y]))) acc3 (rowStep (rs.take k) n ++ (List.range (j + 1)).map fun q : Nat => r ++ [(q : Int)])) := fun H7 y S7 hy => by
                  have kt : KeepT Hj' (upd H7 D (.lst (acc3 ++ [y]))) := keepT_lst S7 hD3
                  have kt7 : KeepT H7 (upd H7 D (.lst (acc3 ++ [y]))) := keepT_lst (fun _ _ e => e) (S7 _ _ hD3)
                  refine ⟨acc3, S7 _ _ hD3, hlen3, fun b o eb => ?_, ⟨ra, rfl, kt _ _ hra⟩, acc3 ++ [y], upd_same, ?_⟩
                  · have hb : b ≠ D := fun z => by rw [z, nD] at eb; cases eb
                    rw [upd_ne hb]
                    exact S7 _ _ (Sj _ _ eb)
                  · obtain ⟨ya, rfl, hya⟩ := hy
                    rw [List.range_succ, List.map_append, ← List.append_assoc]
                    exact (hr3.keep kt).snoc ⟨ya, rfl, kt7 _ _ hya⟩
                refine ⟨rfl, ?_⟩
                refine iteR ?_
                refine ⟨.ref ra, rfl, .int (0 + (j : Int)), rfl, (show 1 ≤ sizeLine by decide), fun p1 np1 => ?_⟩
                have ej : (0 : Int) + (j : Int) = (j : Int) := by omega
                refine ⟨ra, p1, r.map V.int, [.int (0 + (j : Int))], rfl, rfl, .inl (.inl (same_upd np1 _ _ hra)), .inl (.inl upd_same), ?_, fun hr0 => fin _ _ (same_upd np1) ⟨p1, rfl, ?_⟩, fun _ z => absurd z (List.cons_ne_nil _ _), fun _ _ p2 np2 => fin _ _ (fun b o z => same_upd np2 b o (same_upd np1 b o z)) ⟨p2, rfl, ?_⟩⟩
                · rw [List.length_map]
                  have z := hrw r (List.mem_of_getElem? hrk)
                  show r.length + 1 ≤ sizeLine
                  rw [sizeLine_eq]
                  omega
                · have : r = [] := by simpa using hr0
                  rw [this, upd_same, ej]
                  rfl
                · rw [upd_same, ej, List.map_append]
                  rfl
              · rintro Hj ⟨Sj, _, acc3, hD3, hr3⟩
                refine ⟨Sj, acc3, hD3, ?_⟩
                have e2 : rowStep (rs.take (k + 1)) n = rowStep (rs.take k) n ++ (List.range n.toNat).map fun q : Nat => r ++ [(q : Int)] := by
                  unfold rowStep
                  have : rs[k] = r := by
                    rw [List.getElem?_eq_getElem hkr] at hrk
                    exact Option.some.inj hrk
                  rw [List.take_succ_eq_append_getElem hkr, List.flatMap_append, this]
                  simp
                rw [e2]
                exact hr3
            · rintro Hh ⟨Sk, acc2, hD, hr2⟩
              have el : rs.take acc.length = rs := by
                rw [hrows.len, List.take_length]
              rw [el] at hr2
              exact ⟨D, some (.int n), acc2, rfl, fun b o z => Sk b o (S b o z), hD, by rw [hstep]; exact hr2⟩
          · rintro σ Hc ⟨R, y, acc, rfl, S, hR, hrows⟩
            rw [List.length_map, List.take_length] at hrows
            have hrows : RowsAt Hc acc (allRows ns) := hrows
            have hrl : (allRows ns).length ≤ 1024 := allRows_len hns hl5
            refine ⟨.ref R, rfl, R, rfl, ⟨acc, .inl (.inl hR)⟩, fun D nD => ?_⟩
            refine lc_it (walk_list (xs := acc)) (fun k Hh => Same Hc Hh ∧ ∃ acc2, Hh D = some (.lst acc2) ∧ RowsAt Hh acc2 (((allRows ns).take k).filter fun r => !meetsAnyB r ls)) ⟨same_upd nD, [], upd_same, .nil⟩ (fun k Hh _ p => .inl (.inl (p.1 _ _ hR))) ?_ ?_
            · rintro k x Hh Hh' hk ⟨Sk, acc2, hD, hr2⟩ ⟨rfl, hxk⟩
              obtain ⟨r, hrk, ⟨ra, rfl, hra⟩⟩ := RowsAt.at (hrows.keep (KeepT.of Sk)) hxk
              have hkr : k < (allRows ns).length := (List.getElem?_eq_some_iff.mp hrk).1
              have hgr : (allRows ns)[k] = r := by
                rw [List.getElem?_eq_getElem hkr] at hrk
                exact Option.some.inj hrk
              have hw : r.length = ns.length := allRows_width (List.mem_of_getElem? hrk)
              refine ⟨rfl, ?_⟩
              refine ⟨.ref ra, rfl, v2, rfl, ra, r, v2, ls, rfl, hra, Dq.same (fun b o z => Sk b o (S b o z)) _ v2 h2, by omega, fun ps hps => by rw [hw]; exact hfit ps hps, fun H4 S4 => ⟨_, rfl, ?_⟩⟩
              have hlen2 : acc2.length < sizeLine := by
                rw [hr2.len]
                have z1 := List.length_filter_le (fun r => !meetsAnyB r ls) ((allRows ns).take k)
                rw [List.length_take] at z1
                rw [sizeLine_eq]
                omega
              have et : ((allRows ns).take (k + 1)).filter (fun r => !meetsAnyB r ls) = ((allRows ns).take k).filter (fun r => !meetsAnyB r ls) ++ [r].filter (fun r => !meetsAnyB r ls) := by
                rw [List.take_succ_eq_append_getElem hkr, List.filter_append, hgr]
              cases hm : meetsAnyB r ls with
              | true =>
                refine iteF ?_
                refine ⟨fun b o z => S4 b o (Sk b o z), acc2, S4 _ _ hD, ?_⟩
                rw [et]
                have : [r].filter (fun r => !meetsAnyB r ls) = [] := by simp [hm]
                rw [this, List.append_nil]
                exact hr2.keep (KeepT.of S4)
              | false =>
                refine iteT ?_
                have kt : KeepT Hh' (upd H4 D (.lst (acc2 ++ [.ref ra]))) := keepT_lst S4 hD
                refine ⟨.ref ra, rfl, acc2, S4 _ _ hD, hlen2, fun b o eb => ?_, acc2 ++ [.ref ra], upd_same, ?_⟩
                · have hb : b ≠ D := fun z => by rw [z, nD] at eb; cases eb
                  rw [upd_ne hb]
                  exact S4 _ _ (Sk _ _ eb)
                · rw [et]
                  have : [r].filter (fun r => !meetsAnyB r ls) = [r] := by simp [hm]
                  rw [this]
                  exact (hr2.keep kt).snoc ⟨ra, rfl, kt _ _ hra⟩
            · rintro Hh ⟨Sk, acc2, hD, hr2⟩
              have el : (allRows ns).take acc.length = allRows ns := by
                have z := hrows.len
                rw [z]
                exact List.take_length
              rw [el] at hr2
              refine ⟨D, acc2, rfl, .inl ⟨.inl (.inl hD), fun l nl => ?_⟩⟩
              exact qn' _ l acc2 (fun b o z => same_upd nl b o (Sk b o (S b o z))) upd_same (hr2.keep (KeepT.of (same_upd nl)))
end
end KR

set_option Elab.async false
set_option linter.all false
set_option maxRecDepth 100000
set_option maxHeartbeats 4000000
/-! ### rows_meeting, is_met -/
namespace KR
open PySem PySem.Spec PyProof.Rows L2 KG K80 KT
/-- what never raises -/
theorem passN {X : Cx} : Passes (L2.CX X.prog X.w) X E0 := passes_call (W := fun _ _ _ _ => False) LamX.takes0 (fun _ _ _ _ h => h)
/-- [row for row in rows if test] -/
theorem lc_filter {J : It} {n : Nat} {G : Hp → Prop} {xs : List V} (w : Walk J n G (YAt xs)) {tt : TT} {i : Nat} {vs : List Nat} {σ : L2.St} {H1 : Hp} {D : Addr} {Qd : Hp → Prop} {rs : List (List Int)} (p : List Int → Bool) (hn : n = rs.length) (hrows : RowsAt H1 xs rs) (hlen : rs.length ≤ 5000) (nD : H1 D = none) (hG : ∀ H, Same H1 H → G H)
    (hw : ∀ x, wipe ((wipe σ vs).set i (some x)) vs = wipe σ vs) (hi : ∀ x, ((wipe σ vs).set i (some x))[i]? = some (some x))
    (hs : ∀ (k : Nat) (x : V) (r : List Int) (Hh : Hp), rs[k]? = some r → RowAt Hh x r → Same H1 Hh → ∀ Kt : Bool → Hp → Prop, (∀ H4, Same Hh H4 → Kt (p r) H4) → tt ((wipe σ vs).set i (some x)) Hh Kt)
    (hd : ∀ H acc, Same H1 H → H D = some (.lst acc) → RowsAt H acc (rs.filter p) → Qd H) :
    ∃ W : Nat → Nat → Hp → Prop, (∃ m, W 0 m (upd H1 D (.lst []))) ∧ ∀ j m H, W j m H →
      (J.stop j H ∧ Qd H) ∨ (J.go j H ∧ ∃ Nx : Hp → Prop, (∀ H', Nx H' → ∃ m', m' < m ∧ W (j + 1) m' H') ∧ ∀ x H', J.yld j H x H' → gName i x (wipe σ vs) H' fun σ2 H2 => wipe σ2 vs = wipe σ vs ∧ tt σ2 H2 fun b H3 =>
        if b = true then tVar i σ2 H3 fun y H4 => ∃ acc, H4 D = some (.lst acc) ∧ acc.length < sizeLine ∧ Nx (upd H4 D (.lst (acc ++ [y]))) else Nx H3) := by
  refine lc_it w (fun k Hh => Same H1 Hh ∧ ∃ acc, Hh D = some (.lst acc) ∧ RowsAt Hh acc ((rs.take k).filter p)) ⟨same_upd nD, [], upd_same, .nil⟩ (fun k Hh _ q => hG Hh q.1) ?_ ?_
  · rintro k x Hh Hh' hk ⟨Sk, acc, hD, hr2⟩ ⟨rfl, hxk⟩
    obtain ⟨r, hrk, hrow⟩ := RowsAt.at (hrows.keep (KeepT.of Sk)) hxk
    have hkr : k < rs.length := (List.getElem?_eq_some_iff.mp hrk).1
    have hgr : rs[k] = r := by
      rw [List.getElem?_eq_getElem hkr] at hrk
      exact Option.some.inj hrk
    refine ⟨hw x, hs k x r _ hrk hrow Sk _ fun H4 S4 => ?_⟩
    have hlen2 : acc.length < sizeLine := by
      rw [hr2.len]
      have z1 := List.length_filter_le p (rs.take k)
      rw [List.length_take] at z1
      rw [sizeLine_eq]
      omega
    have et : (rs.take (k + 1)).filter p = (rs.take k).filter p ++ [r].filter p := by
      rw [List.take_succ_eq_append_getElem hkr, List.filter_append, hgr]
    cases hm : p r with
    | false =>
      refine iteF ?_
      refine ⟨fun b o z => S4 b o (Sk b o z), acc, S4 _ _ hD, ?_⟩
      rw [et]
      have : [r].filter p = [] := by simp [hm]
      rw [this, List.append_nil]
      exact hr2.keep (KeepT.of S4)
    | true =>
      refine iteT ?_
      obtain ⟨ra, rfl, hra⟩ := hrow
      have kt : KeepT Hh' (upd H4 D (.lst (acc ++ [.ref ra]))) := keepT_lst S4 hD
      refine ⟨.ref ra, hi _, acc, S4 _ _ hD, hlen2, fun b o eb => ?_, acc ++ [.ref ra], upd_same, ?_⟩
      · have hb : b ≠ D := fun z => by rw [z, nD] at eb; cases eb
        rw [upd_ne hb]
        exact S4 _ _ (Sk _ _ eb)
      · rw [et]
        have : [r].filter p = [r] := by simp [hm]
        rw [this]
        exact (hr2.keep kt).snoc ⟨ra, rfl, kt _ _ hra⟩
  · rintro Hh ⟨Sk, acc, hD, hr2⟩
    rw [hn, List.take_length] at hr2
    exact hd Hh acc Sk hD hr2
theorem letRows_len {ns : List Int} {ls : List Lot} (h : ∀ n ∈ ns, 2 ≤ n ∧ n ≤ 4) (h5 : ns.length ≤ 5) : (letRows ns ls).length ≤ 1024 := Nat.le_trans (List.length_filter_le _ _) (allRows_len h h5)
theorem letRows_width {ns : List Int} {ls : List Lot} {r : List Int} (h : r ∈ letRows ns ls) : r.length = ns.length := allRows_width (List.mem_filter.mp h).1
/-! the mirror -/
def meetRows (ns : List Int) (ls : List Lot) (ps : Lot) : List (List Int) := (letRows ns ls).filter fun r => meetsB r ps
def isMet (ns : List Int) (ls : List Lot) (ps : Lot) : Bool := decide (0 < (meetRows ns ls ps).length)
abbrev sMeeting : Stmt := topS 34
abbrev sIsMet : Stmt := topS 35
theorem scMeeting : FnScope ["rig", "lot", "row"] ["rig", "lot"] (defScope sMeeting) := ⟨rfl, rfl, rfl, by decide +kernel, rfl, by decide +kernel, by decide +kernel⟩
theorem blkMeeting : blkC ["rig", "lot", "row"] (defScope sMeeting) { kind := .function, names := [(".0", .local), ("row", .local), ("meets", .globalImplicit), ("lot", .free)], isGenerator := false, isCoroutine := false } [("row", 2)] = true := by decide +kernel
theorem scIsMet : FnScope ["rig", "lot"] ["rig", "lot"] (defScope sIsMet) := ⟨rfl, rfl, rfl, by decide +kernel, rfl, by decide +kernel, by decide +kernel⟩
section
variable {P : Program} {w : World} {K : PySem.W.Frag} {mg : Str → Option Value} {base : Heap}
def spMeeting (CR CL : Addr) : Sp := fun vs H Q E => ∃ (v x : V) (d dx : PyData), vs = [v, x] ∧ Dq H v d ∧ Dq H x dx ∧ (∀ p, wrongRig d = some p → Told CR E H "path" p) ∧
  (wrongRig d = none → (isLot (valsOf d) dx = false → ToldV CL E H "value" x) ∧ (isLot (valsOf d) dx = true → ∀ H' p xs, Same H H' → H' p = some (.tup xs) → RowsAt H' xs (meetRows (valsOf d) (barsOf d) (lotOf dx)) → Q (.ref p) H'))
theorem ok_meeting {f fN fR fM CR CL : Addr} {fd fdN fdR fdM : FuncData} (F : Fun K "rows_meeting" "rows_meeting" sMeeting f fd)
    (dN : Dfn K mg "need_lot" fN fdN ["rig", "lot"]) (GN : FnX P w K mg base 8 fN fdN ["rig", "lot"] (spNLot CR CL))
    (dR : Dfn K mg "let_rows" fR fdR ["rig"]) (GR : FnX P w K mg base 8 fR fdR ["rig"] (spLetRows CR))
    (dM : Dfn K mg "meets" fM fdM ["row", "lot"]) (GM : FnOk P w K mg base CX0 1 fM fdM ["row", "lot"] spMeets) (zt : mg "tuple" = none) : FnX P w K mg base 9 f fd ["rig", "lot"] (spMeeting CR CL) := by
  refine fnX_of F scMeeting (fun vs H Q E h => ?_) (fun cdv A outer s H vs Q E hgd hr h => ?_)
  · obtain ⟨v, x, d, dx, rfl, _⟩ := h
    rfl
  · obtain ⟨v, x, d, dx, rfl, hd, hx, qx, qn⟩ := h
    refine ⟨_, pss_cons (ps_expr (pe_callX GN hgd hr (by rfl) dN.gm dN.kp dN.bd (passes_call (takes_of rfl rfl rfl rfl) (fun _ _ _ _ h => h)) (pa_cons (pv 0) (pa_cons (pv 1) pa_nil))))
      (pss_one (ps_ret (pe_callTy call_tuple_of (by rfl) zt (by decide +kernel) (pa_cons (pe_lc rfl scMeeting.nd (pi_tup (pe_callX GR hgd hr (by rfl) dR.gm dR.kp dR.bd (passes_call (takes_of rfl rfl rfl rfl) (fun _ _ _ _ h => h)) (pa_cons (pv 0) pa_nil))) (blkOk_by (own := [("row", 2)]) blkMeeting)
        (fun s H C cl fp => pg_name (i := 2) scMeeting.nd rfl (.inl rfl)) (fun _ _ _ _ _ => pts_one (pt_val (pe_call GM (hr.mono (by decide)) (by rfl) dM.gm dM.kp dM.bd .nil pass0 (pa_cons (pv 2) (pa_cons (pv 1) pa_nil)))))
        (fun _ _ _ _ _ => pv 2)) pa_nil)))), ?_⟩
    refine ⟨v, rfl, x, rfl, v, x, d, dx, rfl, hd, hx, qx, fun hn => ?_⟩
    obtain ⟨q1, q2⟩ := qn hn
    obtain ⟨_, hns, _, hl5, hb6, hfit⟩ := rig_right hn
    refine ⟨q1, fun hL H1 S1 => ?_⟩
    have q3 := q2 hL
    obtain ⟨edx, hft⟩ := lot_right hL
    refine ⟨v, rfl, v, d, rfl, Dq.same S1 d v hd, fun p hp => (qx p hp).of S1, fun _ H2 p xs S2 hp hrows => ?_⟩
    refine ⟨p, rfl, ⟨xs, .inl (.inl hp)⟩, fun D nD => ?_⟩
    refine lc_filter (walk_tup (xs := xs)) (fun r => meetsB r (lotOf dx)) hrows.len hrows (Nat.le_trans (letRows_len hns hl5) (by decide)) nD (fun Hh S => .inl (.inl (S _ _ hp))) (fun _ => rfl) (fun _ => rfl) ?_ ?_
    · rintro k y r Hh hrk ⟨ra, rfl, hra⟩ S Kt hK
      have hw := letRows_width (List.mem_of_getElem? hrk)
      refine ⟨.ref ra, rfl, x, rfl, ra, r, x, lotOf dx, rfl, hra, ?_, by rw [hw]; exact hft, fun H4 S4 => ⟨_, rfl, hK H4 S4⟩⟩
      rw [← edx]
      exact Dq.same (fun b o z => S b o (S2 b o (S1 b o z))) dx x hx
    · intro Hh acc S hD hr2
      refine ⟨D, acc, rfl, .inl ⟨.inl (.inl hD), fun l nl => ?_⟩⟩
      exact q3 _ l acc (fun b o z => same_upd nl b o (S b o (S2 b o (S1 b o z)))) upd_same (hr2.keep (KeepT.of (same_upd nl)))
def spIsMet (CR CL : Addr) : Sp := fun vs H Q E => ∃ (v x : V) (d dx : PyData), vs = [v, x] ∧ Dq H v d ∧ Dq H x dx ∧ (∀ p, wrongRig d = some p → Told CR E H "path" p) ∧
  (wrongRig d = none → (isLot (valsOf d) dx = false → ToldV CL E H "value" x) ∧ (isLot (valsOf d) dx = true → ∀ H', Same H H' → Q (.bl (isMet (valsOf d) (barsOf d) (lotOf dx))) H'))
theorem ok_isMet {f fN CR CL : Addr} {fd fdN : FuncData} (F : Fun K "is_met" "is_met" sIsMet f fd)
    (dN : Dfn K mg "rows_meeting" fN fdN ["rig", "lot"]) (GN : FnX P w K mg base 9 fN fdN ["rig", "lot"] (spMeeting CR CL)) (zl : mg "len" = none) : FnX P w K mg base 10 f fd ["rig", "lot"] (spIsMet CR CL) := by
  refine fnX_of F scIsMet (fun vs H Q E h => ?_) (fun cdv A outer s H vs Q E hgd hr h => ?_)
  · obtain ⟨v, x, d, dx, rfl, _⟩ := h
    rfl
  · obtain ⟨v, x, d, dx, rfl, hd, hx, qx, qn⟩ := h
    refine ⟨_, pss_one (ps_ret (pe_cmpR op_gt (pe_callB call_len_seq (by rfl) zl PySem.boot_len (pa_cons (pe_callX GN hgd hr (by rfl) dN.gm dN.kp dN.bd (passes_call (takes_of rfl rfl rfl rfl) (fun _ _ _ _ h => h)) (pa_cons (pv 0) (pa_cons (pv 1) pa_nil))) pa_nil)) pe_int (nomark _))), ?_⟩
    refine ⟨v, rfl, x, rfl, v, x, d, dx, rfl, hd, hx, qx, fun hn => ⟨(qn hn).1, fun hL H' p xs S hp hrows => ?_⟩⟩
    have q := (qn hn).2 hL H' S
    refine ⟨p, xs, rfl, .inr (.inl (.inl hp)), _, _, rfl, rfl, ?_⟩
    have e : decide ((0 : Int) < (xs.length : Int)) = isMet (valsOf d) (barsOf d) (lotOf dx) := by
      unfold isMet
      rw [hrows.len, decide_eq_decide]
      omega
    rw [← e] at q
    exact q
end
end KR

set_option Elab.async false
set_option linter.all false
set_option maxRecDepth 100000
set_option maxHeartbeats 4000000
/-! ### is_faults, need_faults, need_suite -/
namespace KR
open PySem PySem.Spec PyProof.Rows L2 KG K80 KT
/-! enumerate(x), x a list or a tuple -/
def EnumOr (K : PySem.W.Frag) (a : Addr) (xs : List V) (R : It → Hp → Prop) (H : Hp) : Prop := (SqL K H a xs ∧ R (Ite K a) H) ∨ (SqT K H a xs ∧ R (IteT K a) H)
def iEnumV (K : PySem.W.Frag) (i : Nat) : TI := fun σ H R => ∃ a xs, σ[i]? = some (some (V.ref a)) ∧ EnumOr K a xs R H
theorem pi_enumV {X : Cx} {e : Expr} {i : Nat} {p pos tpos : Pos} {elts : List Expr} {kk : Nat} (hg : Gl X "enumerate") (hm : X.mg "enumerate" = none) (he : PE X e (tVar i)) (hs : starEach [e] X.env = [(false, eval e X.env)] := by rfl) :
    PI X (.Tuple elts kk tpos) (.Call (.Name "enumerate" p) [e] [] pos) (iEnumV X.K i) := by
  refine ⟨fun pins s σ H R I h => ?_⟩
  obtain ⟨a, xs, h0, h⟩ := h
  rcases h with ⟨hq, r⟩ | ⟨hq, r⟩
  · exact (pi_enum hg hm (pa_cons he pa_nil hs) hs).run pins s σ H R I ⟨.ref a, h0, a, xs, rfl, hq, r⟩
  · exact (pi_enumT hg hm (pa_cons he pa_nil hs) hs).run pins s σ H R I ⟨.ref a, h0, a, xs, rfl, hq, r⟩
theorem enum_or {K : PySem.W.Frag} {H : Hp} {a : Addr} {xs : List V} {R : It → Hp → Prop} (hq : H a = some (.lst xs) ∨ H a = some (.tup xs)) (h : ∀ (J : It) (G : Hp → Prop), Walk J xs.length G (YPair (fun i => some (.int (i : Nat))) (fun i => xs[i]?)) → (∀ H', Same H H' → G H') → R J H) :
    EnumOr K a xs R H := by
  rcases hq with e | e
  · exact .inl ⟨.inl (.inl e), h _ _ walk_enum fun H' S => .inl (.inl (S _ _ e))⟩
  · exact .inr ⟨.inl (.inl e), h _ _ walk_enumT fun H' S => .inl (.inl (S _ _ e))⟩
theorem kit_l : ∀ d, kitB (tyn d) "list" = some (isL d)
  | .none => (by decide +kernel : kitB "NoneType" "list" = some false)
  | .bool _ => (by decide +kernel : kitB "bool" "list" = some false)
  | .int _ => (by decide +kernel : kitB "int" "list" = some false)
  | .str _ => (by decide +kernel : kitB "str" "list" = some false)
  | .list _ => (by decide +kernel : kitB "list" "list" = some true)
  | .tuple _ => (by decide +kernel : kitB "tuple" "list" = some false)
  | .dict _ => (by decide +kernel : kitB "dict" "list" = some false)
theorem kit_lt {K : PySem.W.Frag} (d : PyData) : PySem.W.kitAny K (.type (tyn d)) [.type "list", .type "tuple"] = some (isL d || isT d) :=
  kitAny_cons (kit_ty (kit_l d)) (fun hl => kitAny_cons (kit_ty (kit_t d)) (fun ht => by rw [hl, ht]; exact kitAny_nil) (fun ht => by rw [ht, Bool.or_true])) (fun hl => by rw [hl, Bool.true_or])
/-! the mirror -/
def sizeOf : PyData → Int
  | .tuple (.int s :: _) => s
  | _ => 0
def mostOf : PyData → Int
  | .tuple [_, .int m] => m
  | _ => 0
theorem shape_right {ns : List Int} {d : PyData} (h : isShape ns d = true) : d = .tuple [.int (sizeOf d), .int (mostOf d)] ∧ 1 ≤ sizeOf d ∧ sizeOf d ≤ 3 ∧ sizeOf d ≤ (ns.length : Int) ∧ 1 ≤ mostOf d ∧ mostOf d ≤ 2 := by
  cases hT : isTup d 2 2 with
  | false =>
    rw [isShape_not hT] at h
    cases h
  | true =>
    obtain ⟨k, w, rfl⟩ := isTup_two hT
    have h' : (isNum k 1 (min 3 (ns.length : Int)) && isNum w 1 2) = true := h
    rw [Bool.and_eq_true] at h'
    obtain ⟨i, rfl, h1, h2⟩ := isNum_int h'.1
    obtain ⟨j, rfl, h3, h4⟩ := isNum_int h'.2
    exact ⟨rfl, h1, by show i ≤ 3; omega, by show i ≤ (ns.length : Int); omega, h3, h4⟩
def wrongSuite (dr d : PyData) : Option PyData := match d with
  | .list ds => if ds.length ≤ 40 then (firstBad (isLet dr) 0 ds).map fun i => .int (i : Nat) else some .none
  | .tuple ds => if ds.length ≤ 40 then (firstBad (isLet dr) 0 ds).map fun i => .int (i : Nat) else some .none
  | _ => some .none
abbrev sFaultsI : Stmt := inClass (topS 6) 0
abbrev sSuiteI : Stmt := inClass (topS 7) 0
abbrev sIsFaults : Stmt := topS 43
abbrev sNFaults : Stmt := topS 44
abbrev sNSuite : Stmt := topS 45
theorem scIsFaults : FnScope ["rig", "shape", "marks", "value", "values", "_", "most", "lot"] ["rig", "shape", "marks", "value"] (defScope sIsFaults) := ⟨rfl, rfl, rfl, by decide +kernel, rfl, by decide +kernel, by decide +kernel⟩
theorem scNFaults : FnScope ["rig", "shape", "faults"] ["rig", "shape", "faults"] (defScope sNFaults) := ⟨rfl, rfl, rfl, by decide +kernel, rfl, by decide +kernel, by decide +kernel⟩
theorem scNSuite : FnScope ["rig", "suite", "number", "row"] ["rig", "suite"] (defScope sNSuite) := ⟨rfl, rfl, rfl, by decide +kernel, rfl, by decide +kernel, by decide +kernel⟩
section
variable {P : Program} {w : World} {K : PySem.W.Frag} {mg : Str → Option Value} {base : Heap} {F0 : Addr}
theorem ok_faultsI {f : Addr} {fd : FuncData} {k : Nat} (F : Fun K "__init__" "BadFaults.__init__" sFaultsI f fd) (T : FE K mg F0) : FnG P w K mg base (k + 1) f fd ["self", "value"] (spIni K Any "value") := by
  have sc : FnScope ["self", "value"] ["self", "value"] (defScope sFaultsI) := ⟨rfl, rfl, rfl, by decide +kernel, rfl, by decide +kernel, by decide +kernel⟩
  refine fnG_of F sc (fun vs H Q E h => ?_) (fun cdv A outer s H vs Q E hgd hr h => ?_)
  · obtain ⟨a, C, y, rfl, _⟩ := h
    rfl
  · obtain ⟨a, C, y, rfl, hX, ht, ha, _, q⟩ := h
    refine ⟨_, pss_cons (ps_expr (pe_ownInit PySem.F.excBase_ValueError rfl T.gF T.ga T.rd T.fc (by decide +kernel) (pa_cons (pv 0) (pa_cons pe_str pa_nil))))
      (pss_one (ps_gst (newId := "ValueError.__new__") PySem.F.store_ValueError (pv 0) (pv 1))), ?_⟩
    exact ⟨_, rfl, a, C, _, rfl, by show 1 ≤ 1000; decide, hX, ha, _, rfl, _, rfl, a, C, rfl, hX, ht, ha, q⟩
theorem ok_suiteI {f : Addr} {fd : FuncData} {k : Nat} (F : Fun K "__init__" "BadSuite.__init__" sSuiteI f fd) (T : FE K mg F0) : FnG P w K mg base (k + 1) f fd ["self", "place"] (spIni K Okd "place") := by
  have sc : FnScope ["self", "place"] ["self", "place"] (defScope sSuiteI) := ⟨rfl, rfl, rfl, by decide +kernel, rfl, by decide +kernel, by decide +kernel⟩
  refine fnG_of F sc (fun vs H Q E h => ?_) (fun cdv A outer s H vs Q E hgd hr h => ?_)
  · obtain ⟨a, C, y, rfl, _⟩ := h
    rfl
  · obtain ⟨a, C, y, rfl, hX, ht, ha, ⟨d, hd, hs⟩, q⟩ := h
    refine ⟨_, pss_cons (ps_expr (pe_ownInit PySem.F.excBase_ValueError rfl T.gF T.ga T.rd T.fc (by decide +kernel) (pa_cons (pv 0) (pa_cons (pe_joined (PJ.cons pe_str (PJ.cons (pe_fmtD hgd hr.units (pv 1)) PJ.nil))) pa_nil))))
      (pss_one (ps_gst (newId := "ValueError.__new__") PySem.F.store_ValueError (pv 0) (pv 1))), ?_⟩
    refine ⟨_, rfl, _, rfl, by decide, _, rfl, d, hd, hs, fun t ht' => ⟨_, rfl, ?_, a, C, _, rfl, by show 1 ≤ 1000; decide, hX, ha, ?_⟩⟩
    · rw [PySem.strLen_append]
      exact Nat.le_trans (Nat.add_le_add (show _ ≤ 1000 by decide) ht') (by decide)
    · exact ⟨_, rfl, _, rfl, a, C, rfl, hX, ht, ha, q⟩
theorem pt_never {X : Cx} {e : Expr} : PT X e (fun _ _ _ => False) := ⟨fun _ _ _ _ _ _ h => h.elim⟩
theorem pe_never {X : Cx} {e : Expr} : PE X e (fun _ _ _ => False) := ⟨fun _ _ _ _ _ _ h => h.elim⟩
/-- of what is no tuple of so many things -/
def spIsFaults0 : Sp := fun vs H Q _ => ∃ (v z m x : V) (d dz dx : PyData), vs = [v, z, m, x] ∧ Dq H v d ∧ Dq H z dz ∧ Dq H x dx ∧ wrongRig d = none ∧ isShape (valsOf d) dz = true ∧ isTup dx 0 (mostOf dz) = false ∧ Q (.bl false) H
theorem ok_isFaults0 {f fT : Addr} {fd fdT : FuncData} (F : Fun K "is_faults" "is_faults" sIsFaults f fd)
    (dT : Dfn K mg "is_tuple" fT fdT ["value", "least", "most"]) (GT : FnOk P w K mg base CX0 1 fT fdT ["value", "least", "most"] spTup) : FnOk P w K mg base CX0 2 f fd ["rig", "shape", "marks", "value"] spIsFaults0 := by
  refine F.ok scIsFaults (fun vs H Q E h => ?_) (fun cdv A outer s H vs Q E hr h => ?_)
  · obtain ⟨v, z, m, x, d, dz, dx, rfl, _⟩ := h
    rfl
  · obtain ⟨v, z, m, x, d, dz, dx, rfl, hd, hz, hx, hn, hsh, hT, q⟩ := h
    refine ⟨_, pss_cons (ps_asg (pv 0) (pg_tup rfl (pgs_cons (pg_name (i := 4) scIsFaults.nd rfl (.inl rfl)) (pgs_cons (pg_name (i := 5) scIsFaults.nd rfl (.inl rfl)) pgs_nil))))
      (pss_cons (ps_asg (pv 1) (pg_tup rfl (pgs_cons (pg_name (i := 5) scIsFaults.nd rfl (.inl rfl)) (pgs_cons (pg_name (i := 6) scIsFaults.nd rfl (.inl rfl)) pgs_nil))))
      (pss_cons (ps_if (PW.pt (pw_or (pt_not (pt_val (pe_call GT (hr.mono (by decide)) (by rfl) dT.gm dT.kp dT.bd .nil pass0 (pa_cons (pv 3) (pa_cons pe_int (pa_cons (pv 6) pa_nil)))))) (pw_or1 pt_never))) (pss_one (ps_ret pe_bl)) pss_nil)
      (pss_one ps_never))), ?_⟩
    obtain ⟨ed, hns, hn1, hl5, hb6, hfit⟩ := rig_right hn
    obtain ⟨ez, hs1, hs3, hsl, hm1, hm2⟩ := shape_right hsh
    rw [ed] at hd
    rw [ez] at hz
    cases hd with
    | tup e r =>
      cases r with
      | cons h1 r =>
        cases r with
        | cons h2 r =>
          cases r
          cases hz with
          | tup e2 r2 =>
            cases r2 with
            | cons k1 r2 =>
              cases r2 with
              | cons k2 r2 =>
                cases r2
                cases k1
                cases k2
                rename_i a v1 v2 a2
                refine ⟨.ref a, rfl, a, _, rfl, .inl (.inl e), rfl, v1, [v2], rfl, v2, [], rfl, rfl, ?_⟩
                refine ⟨.ref a2, rfl, a2, _, rfl, .inl (.inl e2), rfl, _, _, rfl, _, _, rfl, rfl, ?_⟩
                refine ⟨x, rfl, _, rfl, x, dx, 0, mostOf dz, rfl, hx, _, rfl, ?_⟩
                rw [hT]
                exact iteT (iteT q)
end
end KR

set_option Elab.async false
set_option linter.all false
set_option maxRecDepth 100000
set_option maxHeartbeats 4000000
/-! ### need_faults, need_suite -/
namespace KR
open PySem PySem.Spec PyProof.Rows L2 KG K80 KT
theorem shw_none : Shw .none := ⟨by decide +kernel, by decide +kernel, by decide +kernel, fun y e => nomatch e⟩
theorem shw_num : ∀ n : Nat, n ≤ 40 → Shw (.int (n : Nat)) := by
  have h : ∀ n : Fin 41, (PyData.int ((n : Nat) : Int)).showable = true ∧ (PyData.int ((n : Nat) : Int)).depth ≤ 8 ∧ (PyData.int ((n : Nat) : Int)).shown.length ≤ 20000 := by decide +kernel
  intro n hn
  obtain ⟨h1, h2, h3⟩ := h ⟨n, by omega⟩
  exact ⟨h1, h2, h3, fun y e => nomatch e⟩
theorem firstBad_le {p : PyData → Bool} : ∀ {ds : List PyData} {i j : Nat}, firstBad p i ds = some j → j < i + ds.length := by
  intro ds
  induction ds with
  | nil =>
    intro i j h
    cases h
  | cons d r ih =>
    intro i j h
    rw [firstBad_cons] at h
    rw [List.length_cons]
    by_cases hd : p d = true
    · rw [if_pos hd] at h
      have := ih h
      omega
    · rw [if_neg hd] at h
      cases h
      omega
section
variable {P : Program} {w : World} {K : PySem.W.Frag} {mg : Str → Option Value} {base : Heap}
def spNSuite (CR CU : Addr) : Sp := fun vs H Q E => ∃ (v x : V) (d dx : PyData), vs = [v, x] ∧ Dq H v d ∧ Dq H x dx ∧ (∀ p, wrongRig d = some p → Told CR E H "path" p) ∧
  (wrongRig d = none → (∀ p, wrongSuite d dx = some p → Told CU E H "place" p) ∧ (wrongSuite d dx = none → ∀ H', Same H H' → Q x H'))
theorem ok_nsuite {f fR fL CR CU : Addr} {fd fdR fdL : FuncData} {tk : Tok} (F : Fun K "need_suite" "need_suite" sNSuite f fd) (O : Ow P w K mg base Okd "BadSuite" "place" CU)
    (dR : Dfn K mg "need_rig" fR fdR ["rig"]) (GR : FnX P w K mg base 7 fR fdR ["rig"] (spRig CR))
    (dL : Dfn K mg "is_let" fL fdL ["rig", "value"]) (GL : FnX P w K mg base 8 fL fdL ["rig", "value"] (spLet CR))
    (gM : mg "MOST_ROWS" = some (.int 40 tk)) (zs : mg "isinstance" = none) (zli : mg "list" = none) (zt : mg "tuple" = none) (zl : mg "len" = none) (ze : mg "enumerate" = none) : FnX P w K mg base 9 f fd ["rig", "suite"] (spNSuite CR CU) := by
  obtain ⟨fI, fdI, iI, tI, F1, bI⟩ := O.ini
  refine fnX_of F scNSuite (fun vs H Q E h => ?_) (fun cdv A outer s H vs Q E hgd hr h => ?_)
  · obtain ⟨v, x, d, dx, rfl, _⟩ := h
    rfl
  · obtain ⟨v, x, d, dx, rfl, hd, hx, qx, qn⟩ := h
    refine ⟨_, pss_cons (ps_expr (pe_callX GR hgd (hr.mono (by decide)) (by rfl) dR.gm dR.kp dR.bd (passes_call (takes_of rfl rfl rfl rfl) (fun _ _ _ _ h => h)) (pa_cons (pv 0) pa_nil)))
      (pss_cons (ps_if (PW.pt (pw_or (pt_not (pt_val (pe_callB call_isiT (by rfl) zs PyProof.Rows.boot_isinstance (pa_cons (pv 1) (pa_cons (pe_tup (pa_cons (pe_bltn rfl zli (by decide +kernel) (show RelV (.ty "list") (.type "list") from rfl)) (pa_cons (pe_bltn rfl zt (by decide +kernel) (show RelV (.ty "tuple") (.type "tuple") from rfl)) pa_nil))) pa_nil)))))
            (pw_or1 (pt_cmpR op_gt (pe_callB call_len_seq (by rfl) zl PySem.boot_len (pa_cons (pv 1) pa_nil)) (pe_glob rfl gM (v := .int 40) ⟨_, rfl⟩) (nomark _)))))
          (pss_one (ps_raise rfl (takes_of rfl rfl rfl rfl) (pmk_xG PySem.F.excBase_ValueError O.xb (raises_own O.sb O.ty) iI tI F1 hgd (hr.mono (by decide)) bI (by rfl) O.gm (pa_cons pe_non pa_nil)))) pss_nil)
      (pss_cons (ps_for (passes_of rfl) rfl (pi_enumV (by rfl) ze (pv 1)) (pg_tup rfl (pgs_cons (pg_name (i := 2) scNSuite.nd rfl (.inl rfl)) (pgs_cons (pg_name (i := 3) scNSuite.nd rfl (.inl rfl)) pgs_nil)))
        (pss_one (ps_if (pt_not (pt_val (pe_callX GL hgd hr (by rfl) dL.gm dL.kp dL.bd (passes_call (takes_of rfl rfl rfl rfl) (fun _ _ _ _ h => h)) (pa_cons (pv 0) (pa_cons (pv 3) pa_nil)))))
          (pss_one (ps_raise rfl (takes_of rfl rfl rfl rfl) (pmk_xG PySem.F.excBase_ValueError O.xb (raises_own O.sb O.ty) iI tI F1 hgd (hr.mono (by decide)) bI (by rfl) O.gm (pa_cons (pv 2) pa_nil)))) pss_nil)))
      (pss_one (ps_ret (pv 1))))), ?_⟩
    refine ⟨v, rfl, v, d, rfl, hd, qx, fun hn H1 S1 => ?_⟩
    obtain ⟨qs, qz⟩ := qn hn
    have hx1 := Dq.same S1 dx x hx
    refine ⟨x, rfl, (show 2 ≤ sizeLine by decide), fun tp ntp => ⟨x, tp, [.ty "list", .ty "tuple"], _, _, isL dx || isT dx, rfl, upd_same, .cons (.ty "list") (.cons (.ty "tuple") .nil), ty_of (Dq.same (same_upd ntp) dx x hx1), kit_lt dx, _, rfl, ?_⟩⟩
    have S2 : Same H (upd H1 tp (.tup [.ty "list", .ty "tuple"])) := fun b o w => same_upd ntp b o (S1 b o w)
    generalize upd H1 tp (.tup [.ty "list", .ty "tuple"]) = H2 at S2
    -- refused as a whole
    have bad : wrongSuite d dx = some .none → ∀ (H3 : Hp), Same H H3 → [V.non].length ≤ 1000 ∧ ∀ a, H3 a = none → spIni K Okd "place" (.ref a :: [V.non]) (upd H3 a (exo a CU none)) (fun v H4 => v = .non ∧ ∃ (d : Addr) (fs : List (Str × V)), H4 a = some (exo a CU (some d)) ∧ H4 d = some (exd d fs) ∧ H3 d = none ∧ E (.ref CU) (some d) (upd (del H4 a) d (.xd fs))) E0 := fun hw H3 S3 =>
      raise_end O stays_okd ⟨.none, .non, shw_none⟩ fun dx' H' S' y => qs _ hw dx' .non H' (fun b o w => S' b o (S3 b o w)) .non y
    cases hb : (isL dx || isT dx) with
    | false =>
      refine iteT (iteT ?_)
      refine bad ?_ H2 S2
      cases dx with
      | list ds => cases hb
      | tuple ds => cases hb
      | _ => rfl
    | true =>
      refine iteF ?_
      have hz : ∃ a xs ds, x = .ref a ∧ (H a = some (.lst xs) ∨ H a = some (.tup xs)) ∧ DqA H xs ds ∧ wrongSuite d dx = (if ds.length ≤ 40 then (firstBad (isLet d) 0 ds).map fun i => PyData.int (i : Nat) else some .none) := by
        cases dx with
        | list ds =>
          cases hx with
          | lst e n r => exact ⟨_, _, ds, rfl, .inl e, r, rfl⟩
        | tuple ds =>
          cases hx with
          | tup e r => exact ⟨_, _, ds, rfl, .inr e, r, rfl⟩
        | _ => cases hb
      obtain ⟨a, xs, ds, rfl, hq, r, ew⟩ := hz
      have hlen : xs.length = ds.length := DqA.len r
      have hq2 : H2 a = some (.lst xs) ∨ H2 a = some (.tup xs) := hq.imp (S2 _ _) (S2 _ _)
      refine ⟨.ref a, rfl, a, xs, rfl, hq2.imp (fun z => .inl (.inl z)) (fun z => .inl (.inl z)), _, _, rfl, rfl, _, rfl, ?_⟩
      refine ite2 (fun h => ?_) (fun h => ?_)
      · have h' : (40 : Int) < (xs.length : Int) := by simpa using h
        refine bad ?_ H2 S2
        rw [ew, if_neg (by omega)]
      · have h' : ¬ (40 : Int) < (xs.length : Int) := by simpa using h
        have h40 : ds.length ≤ 40 := by omega
        rw [if_pos h40] at ew
        refine ⟨a, xs, rfl, enum_or hq2 fun J G wk hG => for_it wk (fun i σ H' => ∃ (y1 y2 : Option V), σ = [some v, some (.ref a), y1, y2] ∧ Same H2 H' ∧ firstBad (isLet d) 0 ds = firstBad (isLet d) i (ds.drop i)) ⟨none, none, rfl, fun _ _ e => e, rfl⟩ (fun i σ H' _ p => ?_) ?_ ?_⟩
        · obtain ⟨_, _, _, S, _⟩ := p
          exact hG H' S
        · rintro i y σ Hc H' hi ⟨y1, y2, rfl, S, hfb⟩ ⟨T, x', yy, rfl, hT', rfl, e1, e2⟩
          cases e1
          obtain ⟨dy, hdy, hqy⟩ := DqA.at r e2
          have S3 : Same H (upd Hc T (.tup [.int (i : Nat), yy])) := fun b o w => same_upd hT' b o (S b o (S2 b o w))
          refine ⟨T, _, rfl, .inl (.inl upd_same), rfl, .int (i : Nat), [yy], rfl, yy, [], rfl, rfl, ?_⟩
          refine ⟨v, rfl, yy, rfl, v, yy, d, dy, rfl, Dq.same S3 d v hd, Dq.same S3 dy yy hqy, fun p hp => ?_, fun _ H5 S5 => ⟨_, rfl, ?_⟩⟩
          · rw [hn] at hp
            cases hp
          · have S6 : Same H H5 := fun b o w => S5 b o (S3 b o w)
            rw [drop_at hdy, firstBad_cons] at hfb
            cases hL : isLet d dy with
            | false =>
              refine iteT ?_
              have hi40 : i ≤ 40 := by omega
              have hw : wrongSuite d dx = some (.int (i : Nat)) := by
                rw [ew, hfb, hL]
                rfl
              exact ⟨_, rfl, raise_end O stays_okd ⟨.int (i : Nat), .int _, shw_num i hi40⟩ fun dx' H' S' z => qs _ hw dx' _ H' (fun b o w => S' b o (S6 b o w)) (.int _) z⟩
            | true =>
              refine iteF ?_
              rw [if_pos hL] at hfb
              exact ⟨_, _, rfl, fun b o w => S5 b o (same_upd hT' b o (S b o w)), hfb⟩
        · rintro σ H' ⟨y1, y2, rfl, S, hfb⟩
          rw [hlen, List.drop_length, firstBad_nil] at hfb
          exact ⟨_, rfl, qz (by rw [ew, hfb]; rfl) H' fun b o w => S b o (S2 b o w)⟩
end
end KR

set_option Elab.async false
set_option linter.all false
set_option maxRecDepth 100000
set_option maxHeartbeats 4000000
/-! ### itertools.combinations(range(n), r): made and drawn -/
namespace KC
open PySem PySem.Spec PyProof.Rows
open Sem (wp)
theorem mro_cb : mroOf (.type "itertools.combinations") = pure [.type "itertools.combinations", .type "object"] := by rw [mroOf_type]; kernel_rfl
theorem new_look : typeLookup (.type "itertools.combinations") "__new__" = pure (some (.builtin "itertools.combinations.__new__")) := by rw [typeLookup_type, builtinLookup_eq_fast]; kernel_rfl
theorem slot_cb_init : Slot "itertools.combinations" "__init__" "object.__init__" :=
  .of (owner := "object") (n := "__init__") (by rw [typeLookup_type, builtinLookup_eq_fast]; kernel_rfl) (by decide +kernel) (by decide +kernel) (by decide +kernel)
    (by first | exact .inl (by decide +kernel) | exact .inr (by decide +kernel)) (by rw [isSubtype_type]; kernel_rfl)
theorem sub_cb : isSubtype (.type "itertools.combinations") (.type "itertools.combinations") = pure true := by rw [isSubtype_type]; kernel_rfl
theorem called_cb : TypeCalled "itertools.combinations" "itertools.combinations.__new__" "object.__init__" :=
  ⟨by decide +kernel, by decide +kernel, ⟨_, _, mro_cb⟩, madeBy_type mro_cb new_look (by decide +kernel), by decide +kernel, sub_cb, slot_cb_init⟩
theorem typeCall_cb (a b : Value) : checkTypeCall "itertools.combinations" ⟨[a, b], []⟩ = pure () := by kernel_rfl
theorem newCall_cb (a b : Value) : checkBuiltinCall "itertools.combinations.__new__" ⟨[.type "itertools.combinations", a, b], []⟩ = pure () := by kernel_rfl
theorem entry_cb_new : entryFor table "itertools.combinations.__new__" = some Builtin.«itertools.combinations.__new__» := entryFor_of_tree (by kernel_rfl)
theorem slot_cb_iter : Slot "itertools.combinations" "__iter__" "itertools.combinations.__iter__" :=
  .of (owner := "itertools.combinations") (n := "__iter__") (by rw [typeLookup_type, builtinLookup_eq_fast]; kernel_rfl) (by decide +kernel) (by decide +kernel) (by decide +kernel)
    (by first | exact .inl (by decide +kernel) | exact .inr (by decide +kernel)) sub_cb
theorem slot_cb_next : Slot "itertools.combinations" "__next__" "itertools.combinations.__next__" :=
  .of (owner := "itertools.combinations") (n := "__next__") (by rw [typeLookup_type, builtinLookup_eq_fast]; kernel_rfl) (by decide +kernel) (by decide +kernel) (by decide +kernel)
    (by first | exact .inl (by decide +kernel) | exact .inr (by decide +kernel)) sub_cb
theorem entry_cb_iter : entryFor table "itertools.combinations.__iter__" = some Builtin.«dict_keyiterator.__iter__» :=
  entryFor_alias (id' := "dict_keyiterator.__iter__") (by kernel_rfl) (by first | rfl | decide +kernel | (unfold String.splitOn; simp +decide [String.splitOnAux])) (by decide +kernel) (by kernel_rfl)
theorem entry_cb_next : entryFor table "itertools.combinations.__next__" = some Builtin.«itertools.combinations.__next__» := entryFor_of_tree (by kernel_rfl)
theorem owner_cb : Manifest.owners.lookup (String.ofList ['s', 'n', 'o', 'i', 't', 'a', 'n', 'i', 'b', 'm', 'o', 'c', '.', 's', 'l', 'o', 'o', 't', 'r', 'e', 't', 'i'].reverse) = some Manifest.sig_itertools_combinations := by kernel_rfl
theorem args_cb_iter (a : Value) : argsOk "itertools.combinations.__iter__" ⟨[a], []⟩ := by
  unfold argsOk; rw [signature?_of (id := "itertools.combinations.__iter__") (n := ['_', '_', 'r', 'e', 't', 'i', '_', '_']) (o := ['s', 'n', 'o', 'i', 't', 'a', 'n', 'i', 'b', 'm', 'o', 'c', '.', 's', 'l', 'o', 'o', 't', 'r', 'e', 't', 'i']) (by kernel_rfl) owner_cb]; kernel_rfl
theorem args_cb_next (a : Value) : argsOk "itertools.combinations.__next__" ⟨[a], []⟩ := by
  unfold argsOk; rw [signature?_of (id := "itertools.combinations.__next__") (n := ['_', '_', 't', 'x', 'e', 'n', '_', '_']) (o := ['s', 'n', 'o', 'i', 't', 'a', 'n', 'i', 'b', 'm', 'o', 'c', '.', 's', 'l', 'o', 'o', 't', 'r', 'e', 't', 'i']) (by kernel_rfl) owner_cb]; kernel_rfl
theorem noDict_cb : typeHasDict (.type "itertools.combinations") = false := by decide +kernel
theorem args_bind (a b : Value) : Builtin.Itertools.itBindNamed "combinations" ["iterable", "r"] 2 2 [a, b] [] = pure [some a, some b] := by kernel_rfl
theorem args_cls (a b : Value) : Builtin.Itertools.itClassAndRest "combinations" ⟨[.type "itertools.combinations", a, b], []⟩ = pure (.type "itertools.combinations", [a, b]) := by
  unfold Builtin.Itertools.itClassAndRest
  have e : (.type ("itertools." ++ "combinations") : Value) = .type "itertools.combinations" := by kernel_rfl
  simp only [isType, e, sub_cb, pure_bind, Bool.not_true, Bool.false_eq_true, if_false]
theorem args_size (k : Nat) (t : Tok) (h : k < 1000) : Builtin.Itertools.itSsizeArg (.int k t) = pure (k : Int) := by
  unfold Builtin.Itertools.itSsizeArg
  have e : asIndex (.int k t) = pure (k : Int) := by first | rfl | kernel_rfl
  rw [e, pure_bind]
  have h1 : (decide ((k : Int) < -(2 ^ 63 : Int)) || decide ((k : Int) ≥ 2 ^ 63)) = false := by
    rw [Bool.or_eq_false_iff]
    exact ⟨decide_eq_false (by omega), decide_eq_false (by omega)⟩
  rw [h1]
  rfl
/-! what is there -/
def nums (l : List Nat) : List Value := l.map fun (i : Nat) => rawInt (i : Int)
def cbObj (pool : Addr) (st : Int) (last : Value) (idx : List Nat) : Obj := { cls := .type "itertools.combinations", dict := none, data := .fields ([.ref pool, rawInt st, last] ++ nums idx).toArray, slots := #[] }
abbrev tupObj (vs : Array Value) : Obj := { cls := .type "tuple", data := .seq vs }
/-- the indices that come next -/
def nxt (n : Nat) (indices : List Nat) : Option (List Nat) :=
  match (List.range indices.length).reverse.find? fun i => indices.getD i 0 != i + n - indices.length with
  | none => none
  | some i => some (indices.take i ++ (List.range (indices.length - i)).map (indices.getD i 0 + 1 + ·))
def itn (n r : Nat) : Nat → Option (List Nat)
  | 0 => if r > n then none else some (List.range r)
  | i + 1 => (itn n r i).bind (nxt n)
def combs (n r : Nat) : List (List Nat) := (List.range 40).filterMap (itn n r)
theorem itn_combs : ∀ n r : Nat, n ≤ 5 → r ≤ 5 → ∀ i : Nat, i < 40 → itn n r i = (combs n r)[i]? := by
  have h : ∀ n : Fin 6, ∀ r : Fin 6, ∀ i : Fin 40, itn n r i = (combs n r)[(i : Nat)]? := by decide +kernel
  exact fun n r hn hr i hi => h ⟨n, by omega⟩ ⟨r, by omega⟩ ⟨i, hi⟩
theorem combs_len : ∀ n r : Nat, n ≤ 5 → r ≤ 5 → (combs n r).length ≤ 10 := by
  have h : ∀ n : Fin 6, ∀ r : Fin 6, (combs n r).length ≤ 10 := by decide +kernel
  exact fun n r hn hr => h ⟨n, by omega⟩ ⟨r, by omega⟩
theorem combs_in : ∀ n r : Nat, n ≤ 5 → r ≤ 5 → ∀ c ∈ combs n r, c.length = r ∧ ∀ i ∈ c, i < n := by
  have h : ∀ n : Fin 6, ∀ r : Fin 6, ∀ c ∈ combs n r, c.length = r ∧ ∀ i ∈ c, i < n := by decide +kernel
  exact fun n r hn hr => h ⟨n, by omega⟩ ⟨r, by omega⟩
end KC

set_option Elab.async false
set_option linter.all false
set_option maxRecDepth 100000
set_option maxHeartbeats 4000000
namespace KC
open PySem PySem.Spec PyProof.Rows
open Sem (wp)
theorem new_cb (rg : Addr) (n k : Nat) (t u v t2 : Tok) (hk : k < 6) (hn : n < 6) :
    MeetsIn prog w (Builtin.«itertools.combinations.__new__» ⟨[.type "itertools.combinations", .ref rg, .int k t2], []⟩) (fun A R s => A.handled = none ∧ IsRange s.heap rg 0 n 1 t u v ∧
      ∀ (h' : Heap) (tk : Nat) (acc : Array Value), (∀ b o, s.heap.get? b = some o → h'.get? b = some o) → ItemsOf (fun i v => ∃ t, v = .int (0 + i * 1) t) acc n →
        R (.ok (.ret (.ref (h'.push (tupObj acc)).objs.size))) { s with heap := (h'.push (tupObj acc)).push (cbObj h'.objs.size (if k > n then 2 else 0) .none (List.range k)), toks := tk }) :=
  .of_wp fun A R s h => by
    obtain ⟨hh, hr, h⟩ := h
    unfold Builtin.«itertools.combinations.__new__»
    show wpAny _ _ ((Builtin.Itertools.itClassAndRest "combinations" _ >>= _) >>= _) _ _ _
    refine wpAny_bind (wpAny_bind (wpAny_of_eq (args_cls _ _) ?_))
    show wpAny _ _ (Builtin.Itertools.itBindNamed "combinations" ["iterable", "r"] 2 2 [_, _] [] >>= _) _ _ _
    refine wpAny_bind (wpAny_of_eq (args_bind _ _) ?_)
    show wpAny _ _ (Builtin.Itertools.itSsizeArg (.int k t2) >>= _) _ _ _
    refine wpAny_bind (wpAny_of_eq (args_size k t2 (by omega)) ?_)
    show wpAny _ _ (collect (.ref rg) >>= _) _ _ _
    have hsm : Builtin.Range.small 0 n 1 = true := by
      have z : ∀ n : Fin 6, Builtin.Range.small 0 (n : Nat) 1 = true := by decide +kernel
      exact z ⟨n, by omega⟩
    have hs : Builtin.Range.rangeSize 0 n 1 = (n : Nat) := by
      unfold Builtin.Range.rangeSize
      simp
      omega
    refine wpAny_bind (L2.collect_range (n := n) hh hr hsm hs (by omega) fun h' tk acc keep items => ?_)
    show wpAny _ _ (if (k : Int) < 0 then _ else _) _ _ _
    rw [if_neg (by omega)]
    have htm : Builtin.Itertools.itTooMany (k : Int) = false := decide_eq_false (by omega)
    show wpAny _ _ (if Builtin.Itertools.itTooMany (k : Int) = true then _ else _) _ _ _
    rw [htm, if_neg Bool.false_ne_true]
    show wpAny _ _ (newTuple acc.toList >>= _) _ _ _
    have hsz : acc.toList.length = n := by
      rw [Array.length_toList]
      exact items.1
    refine wpAny_bind (wpAny_newTuple ?_ (by rw [hsz, sizeLine_eq]; omega))
    refine wpAny_pure ?_
    have e1 : acc.toList.toArray = acc := by simp
    rw [e1, hsz]
    show wpAny _ _ (Builtin.Itertools.itNewRecord _ _ >>= _) _ _ _
    unfold Builtin.Itertools.itNewRecord
    rw [noDict_cb]
    simp only [Bool.not_false, if_true]
    have so : sizeOk (Data.fields ([Value.ref h'.objs.size, rawInt (if (k : Int).toNat > n then 2 else 0), Value.none] ++ List.map (fun (i : Nat) => rawInt (i : Int)) (List.range (k : Int).toNat)).toArray) := by
      show (List.toArray _).size ≤ sizeLine + 2
      rw [List.size_toArray, List.length_append, List.length_map, List.length_range, sizeLine_eq]
      show 3 + (k : Int).toNat ≤ _
      omega
    refine wpAny_bind (wpAny_newObj_type ?_ so)
    refine wpAny_pure ⟨_, rfl, ?_⟩
    have z := h h' tk acc keep items
    have e2 : (k : Int).toNat = k := by omega
    rw [e2]
    exact z
section
variable {prog : Program} {w : World} {A : Around} {E : Value → Shared → Prop} {s : Shared}
/-- combinations(range(n), k) -/
theorem call_cb {rg : Addr} {n k : Nat} {t u v t2 : Tok} {Q : Value → Shared → Prop} (hh : A.handled = none) (hk : k < 6) (hn : n < 6) (hr : IsRange s.heap rg 0 n 1 t u v)
    (h : ∀ (h1 h' : Heap) (tk : Nat) (acc : Array Value), (∀ b o, s.heap.get? b = some o → h1.get? b = some o) → (∀ b o, h1.get? b = some o → h'.get? b = some o) → ItemsOf (fun i v => ∃ t, v = .int (i : Nat) t) acc n →
      h'.get? h1.objs.size = some (tupObj acc) → h'.get? (h1.objs.size + 1) = some (cbObj h1.objs.size (if k > n then 2 else 0) .none (List.range k)) → Q (.ref (h1.objs.size + 1)) { s with heap := h', toks := tk }) :
    wpAny (model prog w) A (call (.type "itertools.combinations") [.ref rg, .int k t2]) Q E s := by
  refine callType_newIn called_cb (by decide) (typeCall_cb _ _) (newCall_cb _ _) (fun obj => F.args_object_init_3 obj _ _) entry_cb_new (new_cb rg n k t u v t2 hk hn) ⟨hh, hr, fun h' tk acc keep items => ?_⟩
  have z : (h'.push (tupObj acc)).objs.size = h'.objs.size + 1 := Heap.size_push ..
  have g1 : ((h'.push (tupObj acc)).push (cbObj h'.objs.size (if k > n then 2 else 0) .none (List.range k))).get? (h'.push (tupObj acc)).objs.size = some (cbObj h'.objs.size (if k > n then 2 else 0) .none (List.range k)) := Heap.get?_push_size _ rfl
  have g2 : ((h'.push (tupObj acc)).push (cbObj h'.objs.size (if k > n then 2 else 0) .none (List.range k))).get? h'.objs.size = some (tupObj acc) := Heap.get?_push_of_some _ (Heap.get?_push_size _ rfl)
  show _ ∧ _
  rw [z] at g1 ⊢
  refine ⟨⟨_, g1, rfl⟩, h h' _ tk acc keep (fun b o e => Heap.get?_push_of_some _ (Heap.get?_push_of_some _ e)) ⟨items.1, fun i v e => ?_⟩ g2 g1⟩
  obtain ⟨t, ht⟩ := items.2 i v e
  exact ⟨t, by rw [ht]; congr 1; omega⟩
theorem iter_cb {it pool : Addr} {st : Int} {last : Value} {idx : List Nat} {Q : Value → Shared → Prop} (hit : s.heap.get? it = some (cbObj pool st last idx)) (h : Q (.ref it) s) : wpAny (model prog w) A (pyIter (.ref it)) Q E s := by
  have hT : s.TypeIs (.ref it) "itertools.combinations" := ⟨_, hit, rfl⟩
  refine wpAny_pyIter_slot hT slot_cb_iter (wpAny_call_entry slot_cb_iter hT entry_cb_iter ?_ (args_cb_iter _))
  show wpAny _ _ (ret (.ref it)) _ _ s
  exact wpAny_pure ⟨_, rfl, "itertools.combinations", _, hT, slot_cb_next.lookup, h⟩
end
end KC

set_option Elab.async false
set_option linter.all false
set_option maxRecDepth 100000
set_option maxHeartbeats 4000000
namespace KC
open PySem PySem.Spec PyProof.Rows
open Sem (wp)
theorem set1 {pool : Addr} {st st' : Int} {last : Value} {idx : List Nat} : Obj.mapFields (fun x => x.setIfInBounds 1 (rawInt st')) (cbObj pool st last idx) = cbObj pool st' last idx := by
  unfold cbObj
  show ({ cls := _, dict := _, data := .fields _, slots := _ } : Obj) = _
  congr 2
theorem set2 {pool : Addr} {st : Int} {last last' : Value} {idx : List Nat} : Obj.mapFields (fun x => x.setIfInBounds 2 last') (cbObj pool st last idx) = cbObj pool st last' idx := by
  unfold cbObj
  show ({ cls := _, dict := _, data := .fields _, slots := _ } : Obj) = _
  congr 2
theorem set3 {pool : Addr} {st : Int} {last : Value} {idx idx' : List Nat} : Obj.mapFields (fun fs => fs.extract 0 3 ++ (idx'.map fun (n : Nat) => rawInt (n : Int)).toArray) (cbObj pool st last idx) = cbObj pool st last idx' := by
  unfold cbObj nums
  show ({ cls := _, dict := _, data := .fields _, slots := _ } : Obj) = _
  congr 2
  simp
theorem nums_back (idx : List Nat) (f : Value → Nat) (hf : ∀ i : Nat, f (rawInt i) = i) : (nums idx).map f = idx := by
  unfold nums
  rw [List.map_map]
  conv => rhs; rw [← List.map_id idx]
  exact List.map_congr_left fun i _ => hf i
section
variable {prog : Program} {w : World} {A : Around} {E : Value → Shared → Prop} {s : Shared}
theorem numbers_cb {it pool : Addr} {st : Int} {last : Value} {idx : List Nat} {Q : List Nat → Shared → Prop} (hit : s.heap.get? it = some (cbObj pool st last idx)) (h : Q idx s) : wpAny (model prog w) A (Builtin.Itertools.itNumbersFrom (.ref it) 3) Q E s := by
  unfold Builtin.Itertools.itNumbersFrom
  refine wpAny_bind (wpAny_load hit ?_)
  show wpAny _ _ (pure _) _ _ _
  refine wpAny_pure ?_
  exact cast (congrArg (fun l => Q l s) (nums_back idx _ fun i => (by show ((i : Int)).toNat = i; omega)).symm) h
theorem intField_cb {it pool : Addr} {st : Int} {last : Value} {idx : List Nat} {Q : Int → Shared → Prop} (hit : s.heap.get? it = some (cbObj pool st last idx)) (h : Q st s) : wpAny (model prog w) A (Builtin.Itertools.itIntField (.ref it) 1) Q E s := by
  unfold Builtin.Itertools.itIntField
  refine wpAny_bind (wpAny_field hit rfl (x := rawInt st) (by simp) ?_)
  exact wpAny_pure h
theorem pool_cb {pool : Addr} {items : Array Value} {Q : Array Value → Shared → Prop} (hp : s.heap.get? pool = some (tupObj items)) (h : Q items s) : wpAny (model prog w) A (Builtin.Itertools.itPoolItems (.ref pool)) Q E s := by
  unfold Builtin.Itertools.itPoolItems
  refine wpAny_bind (wpAny_seqItems hp rfl ?_)
  exact wpAny_pure h
theorem body_cb_item {it pool : Addr} {st : Int} {last : Value} {idx nx : List Nat} {items : Array Value} {Q : Value → Shared → Prop} (hit : s.heap.get? it = some (cbObj pool st last idx)) (hp : s.heap.get? pool = some (tupObj items)) (hpi : pool ≠ it)
    (hs : (st = 0 ∧ nx = idx) ∨ (st = 1 ∧ nxt items.size idx = some nx)) (hlen : nx.length ≤ 100)
    (hQ : ∀ h', h'.get? it = some (cbObj pool 1 (.ref s.heap.objs.size) nx) → h'.get? s.heap.objs.size = some (tupObj (nx.map fun i => items.getD i .none).toArray) → (∀ b o, b ≠ it → s.heap.get? b = some o → h'.get? b = some o) →
      Q (.ref s.heap.objs.size) { s with heap := h' }) : wpAny (model prog w) A (Builtin.«itertools.combinations.__next__» ⟨[.ref it], []⟩) (fun fin s' => ∃ v, fin = .done (.ret v) ∧ Q v s') E s := by
  have hlt : it < s.heap.objs.size := Heap.lt_size hit
  -- what is handed out
  have out : ∀ (h1 : Heap), h1.get? it = some (cbObj pool 1 last nx) → h1.objs.size = s.heap.objs.size → (∀ b o, b ≠ it → s.heap.get? b = some o → h1.get? b = some o) →
      wpAny (model prog w) A (do
        let result ← (do let items ← Builtin.Itertools.itPoolItems (.ref pool); newTuple (nx.map fun i => items.getD i .none))
        let before ← field (.ref it) 2
        setField (.ref it) 2 result
        letGo [before] [result]
        ret result : Sem Fin) (fun fin s' => ∃ v, fin = .done (.ret v) ∧ Q v s') E { s with heap := h1 } := by
    intro h1 hit1 hsz1 keep1
    refine wpAny_bind (wpAny_bind (pool_cb (s := { s with heap := h1 }) (keep1 _ _ hpi hp) ?_))
    refine wpAny_newTuple ?_ (by rw [List.length_map, sizeLine_eq]; omega)
    have hit2 : (h1.push (tupObj (nx.map fun i => items.getD i .none).toArray)).get? it = some (cbObj pool 1 last nx) := Heap.get?_push_of_some _ hit1
    refine wpAny_bind (wpAny_field hit2 rfl (x := last) (by simp) ?_)
    refine wpAny_bind (wpAny_setField hit2 rfl (by simp) ?_)
    refine wpAny_bind (wpAny_letGo ?_)
    refine wpAny_pure ⟨_, rfl, ?_⟩
    show Q (.ref h1.objs.size) _
    rw [hsz1]
    have nit : it ≠ h1.objs.size := Nat.ne_of_lt (by rw [hsz1]; exact hlt)
    refine hQ _ ?_ ?_ fun b o hb e => ?_
    · exact (Heap.get?_update_self _ hit2 rfl).trans (by rw [set2]; first | done | rw [hsz1])
    · rw [← hsz1]
      exact (Heap.get?_update_other _ _ nit).trans (Heap.get?_push_size _ rfl)
    · exact (Heap.get?_update_other _ _ (Ne.symm hb)).trans (Heap.get?_push_of_some _ (keep1 _ _ hb e))
  have upsz : ∀ (h : Heap) (a : Addr) (f : Obj → Obj), (h.update a f).objs.size = h.objs.size := fun h a f => by
    cases h
    simp [Heap.update]
  show wpAny _ _ (field (.ref it) 0 >>= _) _ _ s
  refine wpAny_bind (wpAny_field hit rfl (x := .ref pool) (by simp) ?_)
  refine wpAny_bind (numbers_cb hit ?_)
  refine wpAny_bind (intField_cb hit ?_)
  rcases hs with ⟨rfl, rfl⟩ | ⟨rfl, hn⟩
  · show wpAny _ _ (setField (.ref it) 1 (rawInt 1) >>= _) _ _ _
    refine wpAny_bind (wpAny_setField hit rfl (by simp) ?_)
    exact out _ ((Heap.get?_update_self _ hit rfl).trans (by rw [set1])) (upsz _ _ _) fun b o hb e => (Heap.get?_update_other _ _ (Ne.symm hb)).trans e
  · show wpAny _ _ (Builtin.Itertools.itPoolItems (.ref pool) >>= _) _ _ _
    refine wpAny_bind (pool_cb hp ?_)
    show wpAny _ _ (match nxt items.size idx with | some next => _ | none => _) _ _ _
    rw [hn]
    show wpAny _ _ (Builtin.Itertools.itSetNumbersFrom (.ref it) 3 nx >>= _) _ _ _
    refine wpAny_bind ?_
    unfold Builtin.Itertools.itSetNumbersFrom
    refine wpAny_updateFields hit rfl ?_ (by
      simp [nums]
      rw [sizeLine_eq]
      omega)
    exact out _ ((Heap.get?_update_self _ hit rfl).trans (by rw [set3])) (upsz _ _ _) fun b o hb e => (Heap.get?_update_other _ _ (Ne.symm hb)).trans e
theorem next_cb_item {it pool : Addr} {st : Int} {last : Value} {idx nx : List Nat} {items : Array Value} {Q : Option Value → Shared → Prop} (hit : s.heap.get? it = some (cbObj pool st last idx)) (hp : s.heap.get? pool = some (tupObj items)) (hpi : pool ≠ it)
    (hs : (st = 0 ∧ nx = idx) ∨ (st = 1 ∧ nxt items.size idx = some nx)) (hlen : nx.length ≤ 100)
    (hQ : ∀ h', h'.get? it = some (cbObj pool 1 (.ref s.heap.objs.size) nx) → h'.get? s.heap.objs.size = some (tupObj (nx.map fun i => items.getD i .none).toArray) → (∀ b o, b ≠ it → s.heap.get? b = some o → h'.get? b = some o) →
      Q (some (.ref s.heap.objs.size)) { s with heap := h' }) : wpAny (model prog w) A (pyNext (.ref it)) Q E s := by
  have hT : s.TypeIs (.ref it) "itertools.combinations" := ⟨_, hit, rfl⟩
  unfold pyNext
  exact wpAny_bind (wpAny_attempt (wpAny_callSpecial?_slot (name := Str.ofString "__next__") hT slot_cb_next
    (wpAny_call_entry slot_cb_next hT entry_cb_next (body_cb_item hit hp hpi hs hlen fun h' a b c => wpAny_pure (hQ h' a b c)) (args_cb_next _))))
theorem next_cb_end {it pool : Addr} {st : Int} {last : Value} {idx : List Nat} {items : Array Value} {Q : Option Value → Shared → Prop} (hh : A.handled = none) (hit : s.heap.get? it = some (cbObj pool st last idx)) (hp : s.heap.get? pool = some (tupObj items))
    (hs : st = 2 ∨ (st = 1 ∧ nxt items.size idx = none))
    (hQ : ∀ h', (∀ b o, b ≠ it → s.heap.get? b = some o → h'.get? b = some o) → Q none { s with heap := h' }) : wpAny (model prog w) A (pyNext (.ref it)) Q E s := by
  have hT : s.TypeIs (.ref it) "itertools.combinations" := ⟨_, hit, rfl⟩
  unfold pyNext
  refine wpAny_bind (wpAny_attempt (wpAny_callSpecial?_slot (name := Str.ofString "__next__") hT slot_cb_next
    (wpAny_call_entry slot_cb_next hT entry_cb_next ?_ (args_cb_next _))))
  show wpAny _ _ (field (.ref it) 0 >>= _) _ _ s
  refine wpAny_bind (wpAny_field hit rfl (x := .ref pool) (by simp) ?_)
  refine wpAny_bind (numbers_cb hit ?_)
  refine wpAny_bind (intField_cb hit ?_)
  -- the end's exception
  have stop : ∀ (h1 : Heap) (Qn : PySem.Fin → Shared → Prop), (∀ b o, b ≠ it → s.heap.get? b = some o → h1.get? b = some o) →
      wpAny (model prog w) A.in1 (Builtin.Itertools.itStop : Sem PySem.Fin) Qn (fun e s' => wpAny (model prog w) A (do let b ← isInstance e (.type "StopIteration"); if b = true then pure none else throw e : Sem (Option Value)) Q E s') { s with heap := h1 } := by
    intro h1 Qn keep1
    unfold Builtin.Itertools.itStop
    refine wpAny_bind ?_
    simp only [newExc, newTuple]
    refine wpAny_bind (wpAny_newObj_type ?_ (by size_fits))
    refine wpAny_bind (m := firstArgMember _ _) (wpAny_of_eq (a := Value.none) (by first | rfl | (simp only [firstArgMember]; rfl)) ?_)
    refine wpAny_newObj_type ?_ (by size_fits)
    simp only [raiseNew]
    refine wpAny_bind (wpAny_handled ?_)
    first | rw [show A.in1.handled = none from hh] | rw [hh]
    refine wpAny_bind (wpAny_pure (wpAny_throw ?_))
    refine wpAny_bind (wpAny_isInstance (T := "StopIteration") (b := true) ⟨_, Heap.get?_push_size _ rfl, rfl⟩ isSubtype_stop ?_)
    exact wpAny_pure (hQ _ fun b o hb e => Heap.get?_push_of_some _ (Heap.get?_push_of_some _ (keep1 _ _ hb e)))
  rcases hs with rfl | ⟨rfl, hn⟩
  · show wpAny _ _ (rule "itertools.combinations.ended" >>= fun _ => Builtin.Itertools.itStop) _ _ _
    exact wpAny_bind (wpAny_rule (stop s.heap _ fun _ _ _ e => e))
  · show wpAny _ _ (Builtin.Itertools.itPoolItems (.ref pool) >>= _) _ _ _
    refine wpAny_bind (pool_cb hp ?_)
    show wpAny _ _ (match nxt items.size idx with | some next => _ | none => _) _ _ _
    rw [hn]
    show wpAny _ _ (setField (.ref it) 1 (rawInt 2) >>= fun _ => Builtin.Itertools.itStop) _ _ _
    refine wpAny_bind (wpAny_setField hit rfl (by simp) ?_)
    exact stop _ _ fun b o hb e => (Heap.get?_update_other _ _ (Ne.symm hb)).trans e
end
end KC

set_option Elab.async false
set_option linter.all false
set_option maxRecDepth 100000
set_option maxHeartbeats 4000000
/-! ### for x in combinations(range(n), k) -/
namespace KC
open PySem PySem.Spec PyProof.Rows L2
/-- the combinations of r of the numbers below n, each in a new tuple -/
def Icb (n r : Nat) : It := ⟨fun i _ => i < (combs n r).length, fun i H v H' => ∃ T c, v = .ref T ∧ H T = none ∧ H' = upd H T (.tup (c.map fun j : Nat => V.int (j : Int))) ∧ (combs n r)[i]? = some c, fun i _ => i = (combs n r).length⟩
def Phase (n r i : Nat) (st : Int) (idx : List Nat) : Prop := (i = 0 ∧ ((st = 0 ∧ ¬ r > n ∧ idx = List.range r) ∨ (st = 2 ∧ r > n))) ∨ ∃ j, i = j + 1 ∧ st = 1 ∧ itn n r j = some idx
def CbAt (n r : Nat) (items : Array Value) (pool it : Addr) (i : Nat) (h : Heap) : Prop := pool ≠ it ∧ h.get? pool = some (tupObj items) ∧ ∃ st last idx, h.get? it = some (cbObj pool st last idx) ∧ Phase n r i st idx
theorem vals_pick {items : Array Value} {n : Nat} (hi : ItemsOf (fun i v => ∃ t, v = .int (i : Nat) t) items n) : ∀ {c : List Nat}, (∀ j ∈ c, j < n) → Vals (c.map fun j : Nat => V.int (j : Int)) (c.map fun i => items.getD i .none) := by
  intro c
  induction c with
  | nil => exact fun _ => .nil
  | cons j c ih =>
    intro h
    refine .cons ?_ (ih fun i hi' => h i (List.mem_cons_of_mem _ hi'))
    have hj : j < items.size := by rw [hi.1]; exact h j List.mem_cons_self
    have e : items[j]? = some (items[j]) := Array.getElem?_eq_getElem hj
    obtain ⟨t, ht⟩ := hi.2 j _ e
    show ∃ t, items.getD j .none = Value.int (j : Int) t
    exact ⟨t, by rw [Array.getD_eq_getD_getElem?, e]; exact ht⟩
theorem turn_cb {P : Program} {w : World} {K : PySem.W.Frag} {tg : Expr} {n r : Nat} {items : Array Value} {pool it : Addr} (hn : n ≤ 5) (hr : r ≤ 5) (hi : ItemsOf (fun i v => ∃ t, v = .int (i : Nat) t) items n) :
    Turn P w K tg (Icb n r) [it, pool] it (CbAt n r items pool it) where
  mem := by simp
  obj := fun i h st b hb => by
    obtain ⟨_, hp, st', last, idx, hit, _⟩ := st
    have e' : b = it ∨ b = pool := by simpa using hb
    rcases e' with z | z
    · exact z ▸ ⟨_, hit, fun v q => nomatch q⟩
    · exact z ▸ ⟨_, hp, fun v q => nomatch q⟩
  keep := fun i h h' st k => by
    obtain ⟨ne, hp, st', last, idx, hit, ph⟩ := st
    exact ⟨ne, k pool (by simp) _ hp, st', last, idx, k it (by simp) _ hit, ph⟩
  item := by
    intro X hP hw hK hc i pins s σ H E I hf st hg
    subst hP hw hK
    obtain ⟨ne, hp, st', last, idx, hit, ph⟩ := st
    have hl10 := combs_len n r hn hr
    have hgl : i < (combs n r).length := hg
    have hc1 : (combs n r)[i]? = some ((combs n r)[i]) := List.getElem?_eq_getElem hgl
    generalize (combs n r)[i] = c at hc1
    have hic : itn n r i = some c := (itn_combs n r hn hr i (by omega)).trans hc1
    obtain ⟨hcl, hcn⟩ := combs_in n r hn hr c (List.mem_of_getElem? hc1)
    have hs : (st' = 0 ∧ c = idx) ∨ (st' = 1 ∧ nxt items.size idx = some c) := by
      rcases ph with ⟨rfl, ⟨rfl, hle, rfl⟩ | ⟨rfl, hgt⟩⟩ | ⟨j, rfl, rfl, hj⟩
      · left
        refine ⟨rfl, ?_⟩
        have z : (if r > n then none else some (List.range r)) = some c := hic
        rw [if_neg hle] at z
        exact (Option.some.inj z).symm
      · have z : (if r > n then none else some (List.range r)) = some c := hic
        rw [if_pos hgt] at z
        cases z
      · right
        refine ⟨rfl, ?_⟩
        have z : (itn n r j).bind (nxt n) = some c := hic
        rw [hj] at z
        rw [hi.1]
        exact z
    have hil : it < s.heap.objs.size := Heap.lt_size hit
    have hpl : pool < s.heap.objs.size := Heap.lt_size hp
    refine next_cb_item hit hp ne hs (by omega) fun h' hit' hT keep' => ?_
    refine ⟨_, rfl, go_of (s := { s with heap := h' }) hit' rfl rfl (by decide) ?_⟩
    have new : ObjOk X.prog X.w (upd H s.heap.objs.size (.tup (c.map fun j : Nat => V.int (j : Int)))) h' s.heap.objs.size (.tup (c.map fun j : Nat => V.int (j : Int))) :=
      ⟨by rw [List.length_map, sizeLine_eq]; omega, c.map fun i => items.getD i .none, vals_pick hi hcn, ⟨_, hT, rfl, _, rfl⟩⟩
    have I1 : Inv X pins σ (upd H s.heap.objs.size (.tup (c.map fun j : Nat => V.int (j : Int)))) { s with heap := h' } :=
      I.turnedNew (t' := s.toks) (ch := [it, pool]) (fun b ob hb q => keep' b ob (fun z => hb (by simp [z])) q) hf (Nat.le_refl _) new
    refine ⟨.ref s.heap.objs.size, _, I1, rfl, ⟨_, c, rfl, I.hok.fresh (Nat.le_refl _), rfl, hc1⟩, ⟨ne, keep' _ _ ne hp, 1, _, c, hit', .inr ⟨i, rfl, rfl, hic⟩⟩, fun b hb => ?_⟩
    have hb' : b < s.heap.objs.size := by
      have e' : b = it ∨ b = pool := by simpa using hb
      rcases e' with z | z
      · exact z ▸ hil
      · exact z ▸ hpl
    rw [upd_ne (Nat.ne_of_lt hb')]
    exact (hf b hb).1
  done := by
    intro X hP hw hK hc i pins s σ H E I hf st hg
    subst hP hw hK
    obtain ⟨ne, hp, st', last, idx, hit, ph⟩ := st
    have hl10 := combs_len n r hn hr
    have hgl : i = (combs n r).length := hg
    have hic : itn n r i = none := (itn_combs n r hn hr i (by omega)).trans (by rw [hgl]; simp)
    have hs : st' = 2 ∨ (st' = 1 ∧ nxt items.size idx = none) := by
      rcases ph with ⟨rfl, ⟨rfl, hle, rfl⟩ | ⟨rfl, hgt⟩⟩ | ⟨j, rfl, rfl, hj⟩
      · have z : (if r > n then none else some (List.range r)) = none := hic
        rw [if_neg hle] at z
        cases z
      · exact .inl rfl
      · right
        refine ⟨rfl, ?_⟩
        have z : (itn n r j).bind (nxt n) = none := hic
        rw [hj] at z
        rw [hi.1]
        exact z
    exact next_cb_end (I.ok.hd hc) hit hp hs fun h' k => ⟨rfl, I.turnedL (t' := s.toks) (ch := [it, pool]) (fun b o hb q => k b o (fun z => hb (by simp [z])) q) hf⟩
  self := fun A i s Q E st h => by
    obtain ⟨_, _, _, _, _, hit, _⟩ := st
    exact iter_cb hit h
def iComb (ta : TA) : TI := fun σ H R => ta σ H fun vs H1 => ∃ (g : Addr) (n r : Nat), vs = [.ref g, .int (r : Int)] ∧ H1 g = some (.rng 0 (n : Int)) ∧ n ≤ 5 ∧ r ≤ 5 ∧ R (Icb n r) H1
theorem pi_comb {X : Cx} {e e2 tg : Expr} {ta : TA} {p pos : Pos} (hg : Gl X "combinations") (hm : X.mg "combinations" = some (.type "itertools.combinations")) (hcalm : X.calm = true) (ha : PA X [e, e2] ta)
    (hs : starEach [e, e2] X.env = (false, eval e X.env) :: starEach [e2] X.env := by rfl) (hpl : (backTo pos (starEach [e2] X.env)).any (·.1) = false := by rfl) :
    PI X tg (.Call (.Name "combinations" p) [e, e2] [] pos) (iComb ta) := by
  refine ⟨fun pins s σ H R I h => ?_⟩
  refine Call_ (ld_glob I hg hm (PyProof.Rows.callWith_type1 (thn (ha.run pos pins s σ H _ I h) fun us s1 ⟨vs, H1, I1, r1, g, n, r, ex, hr, hn, hr5, q⟩ => ?_) hs hpl))
  subst ex
  obtain ⟨u1, u2, rfl, q1, q2⟩ := vals2 r1
  obtain rfl : u1 = Value.ref g := q1
  obtain ⟨t2, rfl⟩ := q2
  obtain ⟨t, u, v, hg'⟩ := (show ObjOk X.prog X.w H1 s1.heap g (.rng 0 (n : Int)) from I1.hok _ _ hr)
  refine call_cb (I1.ok.hd hcalm) (by omega) (by omega) hg' fun h1 h' tk acc k1 k2 items hp hit => iter_cb (s := { s1 with heap := h', toks := tk }) hit ?_
  have I2 : Inv X pins σ H1 { s1 with heap := h1 } := I1.kept (t' := s1.toks) k1
  have I3 : Inv X pins σ H1 { s1 with heap := h', toks := tk } := I2.kept (t' := tk) k2
  refine ⟨h1.objs.size + 1, [h1.objs.size + 1, h1.objs.size], CbAt n r acc h1.objs.size (h1.objs.size + 1), Icb n r, H1, rfl, I3, turn_cb hn hr5 items, ⟨Nat.ne_of_lt (Nat.lt_succ_self _), hp, _, _, _, hit, ?_⟩, fun b hb => ?_, q⟩
  · left
    refine ⟨rfl, ?_⟩
    by_cases hgt : r > n
    · exact .inr ⟨by rw [if_pos hgt], hgt⟩
    · exact .inl ⟨by rw [if_neg hgt], hgt, rfl⟩
  · have hle : h1.objs.size ≤ b := by
      have e' : b = h1.objs.size + 1 ∨ b = h1.objs.size := by simpa using hb
      rcases e' with z | z
      · exact z ▸ Nat.le_add_right _ _
      · exact z ▸ Nat.le_refl _
    have F := I2.fpOk hle (I2.hok.fresh hle)
    exact F
theorem walk_comb {n r : Nat} : Walk (Icb n r) (combs n r).length (fun _ => True) (fun i H v H' => ∃ T c, v = .ref T ∧ H T = none ∧ H' = upd H T (.tup (c.map fun j : Nat => V.int (j : Int))) ∧ (combs n r)[i]? = some c) :=
  ⟨fun _ _ hi _ => hi, fun _ _ => rfl, fun _ _ _ _ _ _ y => y⟩
/-- range(n) as a value -/
theorem cr_range1 {X : Cx} : CallR X (.type "range") (fun vs H Q => ∃ j, vs = [V.int j] ∧ ∀ p, H p = none → Q (.ref p) (upd H p (.rng 0 j))) := by
  intro pins s σ H vs us Q I r h
  obtain ⟨j, rfl, q⟩ := h
  obtain ⟨u1, rfl, ri⟩ := Vals.one r
  obtain ⟨t, rfl⟩ := ri
  refine call_range_1 ⟨.ref s.heap.objs.size, upd H s.heap.objs.size (.rng 0 j), I.laid (t' := s.toks + 1 + 1) (fun b o e => Heap.get?_push_of_some _ e) (Nat.le_refl _) ?_, rfl, q _ (I.hok.fresh (Nat.le_refl _))⟩
  exact ⟨s.toks, t, s.toks + 1, Heap.get?_push_size _ rfl⟩
end KC

set_option Elab.async false
set_option linter.all false
set_option maxRecDepth 100000
set_option maxHeartbeats 4000000
/-! ### Dicts whose keys are nested tuples -/
namespace KN
open PySem PySem.Spec PyProof.Rows L2 KG K80 KT KR
abbrev NK := NestedKey
mutual
theorem dq_key {X : Cx} {pins : List (Addr × Obj)} {σ : L2.St} {H : Hp} {s : Shared} (I : Inv X pins σ H s) : ∀ (k : NK) (v : V) (u : Value), Dq H v k.data → RelV v u → NestedIs s.heap k u
  | .none, _, _, h, r => by
    cases h
    cases r
    exact .none
  | .num i, _, _, h, r => by
    cases h
    obtain ⟨t, rfl⟩ := r
    exact .int i t
  | .text x, _, _, h, r => by
    cases h
    obtain ⟨t, rfl⟩ := r
    exact .text x t
  | .tup ks, _, _, h, r => by
    cases h with
    | tup e ha =>
      cases r
      obtain ⟨its, rv, ⟨o, ho, hc, n, hd⟩, _⟩ := I.tuple (xs := _) (.inl (.inl e))
      exact .tup ho hc hd (by simpa using dq_keys I ks _ its ha rv)
theorem dq_keys {X : Cx} {pins : List (Addr × Obj)} {σ : L2.St} {H : Hp} {s : Shared} (I : Inv X pins σ H s) : ∀ (ks : List NK) (vs : List V) (us : List Value), DqA H vs (NestedKey.datas ks) → Vals vs us → NestedAll s.heap ks us
  | [], _, _, h, r => by
    cases h
    cases r
    exact .nil
  | k :: ks, _, _, h, r => by
    cases h with
    | cons h1 h2 =>
      cases r with
      | cons r1 r2 => exact .cons (dq_key I k _ _ h1 r1) (dq_keys I ks _ _ h2 r2)
end
/-- the dict at a, its entries xs -/
def dnO (P : Program) (w : World) (a : Addr) (xs : List (NK × Addr × Value)) : HO := .ext fun h => xs.length ≤ sizeLine ∧ (a == sysModules) = false ∧ ∃ o es ep, h.get? a = some o ∧ o.ExactDict ∧ o.data = .dict es ep ∧ es.toList = xs.map (entryOfKey (nestedKind P w)) ∧ (xs.map (·.1)).Nodup
abbrev KR3 (H : Hp) : List (NK × V) → List (NK × Addr × Value) → Prop := Paired fun p q => p.1 = q.1 ∧ (Dq H (.ref q.2.1) p.1.data ∧ p.1.depth ≤ 8) ∧ RelV p.2 q.2.2
/-- at a stands a dict of these keys and values -/
def ND (P : Program) (w : World) (H : Hp) (a : Addr) (kvs : List (NK × V)) : Prop := ∃ xs, H a = some (dnO P w a xs) ∧ KR3 H kvs xs
theorem KR3.val {H : Hp} {kvs : List (NK × V)} {xs : List (NK × Addr × Value)} (r : KR3 H kvs xs) (k : NK) : RelO (valV kvs k) ((atKey xs k).map (·.2)) := by
  induction r with
  | nil => exact True.intro
  | @cons p q ps qs h t ih =>
    obtain ⟨h1, _, h2⟩ := h
    by_cases e : p.1 = k
    · have e' : q.1 = k := h1.symm.trans e
      have b : atKey (q :: qs) k = some q.2 := by simp [atKey, List.find?_cons, e']
      rw [valV_pos e, b]; exact h2
    · have e' : ¬ q.1 = k := fun z => e (h1.trans z)
      have b : atKey (q :: qs) k = atKey qs k := by simp [atKey, List.find?_cons, e']
      rw [valV_neg e, b]; exact ih
theorem KR3.repl {H : Hp} {kvs : List (NK × V)} {xs : List (NK × Addr × Value)} (r : KR3 H kvs xs) (k : NK) {y : V} {u : Value} (ry : RelV y u) :
    KR3 H (kvs.map fun kv => if kv.1 = k then (kv.1, y) else kv) (xs.map (putAt k u)) := by
  induction r with
  | nil => exact .nil
  | @cons p q ps qs h t ih =>
    rw [List.map_cons, List.map_cons]
    refine .cons ?_ ih
    obtain ⟨h1, h2, h3⟩ := h
    unfold putAt
    by_cases e : p.1 = k
    · rw [if_pos e, if_pos (h1.symm.trans e)]; exact ⟨h1, h2, ry⟩
    · rw [if_neg e, if_neg (fun z => e (h1.trans z))]; exact ⟨h1, h2, h3⟩
theorem KR3.put {H : Hp} {kvs : List (NK × V)} {xs : List (NK × Addr × Value)} (r : KR3 H kvs xs) (k : NK) {b : Addr} {y : V} {u : Value} (hb : Dq H (.ref b) k.data ∧ k.depth ≤ 8) (ry : RelV y u) :
    KR3 H (putK kvs k y) (storedH xs k b u) := by
  have e : (kvs.any fun kv => decide (kv.1 = k)) = (atKey xs k).isSome := by
    rw [valV_any, (r.val k).isSome_eq, Option.isSome_map]
  unfold putK storedH
  rw [e]
  by_cases q : (atKey xs k).isSome = true
  · rw [if_pos q, if_pos q]; exact r.repl k ry
  · rw [if_neg q, if_neg q]; exact Paired.snoc r ⟨rfl, hb, ry⟩
theorem KR3.keeps {H H' : Hp} {kvs : List (NK × V)} {xs : List (NK × Addr × Value)} (r : KR3 H kvs xs) (ht : ∀ b (k : NK), Dq H (.ref b) k.data → Dq H' (.ref b) k.data) : KR3 H' kvs xs :=
  Paired.mapP r fun _ _ z => ⟨z.1, ⟨ht _ _ z.2.1.1, z.2.1.2⟩, z.2.2⟩
theorem KR3.keys {H : Hp} {kvs : List (NK × V)} {xs : List (NK × Addr × Value)} (r : KR3 H kvs xs) : kvs.map (·.1) = xs.map (·.1) := by
  induction r with
  | nil => rfl
  | cons h t ih => rw [List.map_cons, List.map_cons, ih, h.1]
theorem KR3.refs {H : Hp} {kvs : List (NK × V)} {xs : List (NK × Addr × Value)} (r : KR3 H kvs xs) : DqA H (xs.map fun x => V.ref x.2.1) (kvs.map fun p => p.1.data) := by
  induction r with
  | nil => exact .nil
  | cons h t ih => exact .cons h.2.1.1 ih
theorem vals_refs : ∀ xs : List (NK × Addr × Value), Vals (xs.map fun x => V.ref x.2.1) (xs.map fun x => Value.ref x.2.1)
  | [] => .nil
  | x :: xs => .cons rfl (vals_refs xs)
theorem DqA.same' {H H' : Hp} (S : Same H H') {vs : List V} {ds : List PyData} (h : DqA H vs ds) : DqA H' vs ds := DqA.same S ds vs h
theorem ND.same {P : Program} {w : World} {H H' : Hp} {a : Addr} {kvs : List (NK × V)} (n : ND P w H a kvs) (S : Same H H') : ND P w H' a kvs := by
  obtain ⟨xs, e, r⟩ := n
  exact ⟨xs, S _ _ e, r.keeps fun b k h => h.same S⟩
/-- a key's tuples stand whatever becomes of a dict -/
theorem key_upd {P : Program} {w : World} {H : Hp} {a : Addr} {xs : List (NK × Addr × Value)} {o : HO} (e : H a = some (dnO P w a xs)) : ∀ (k : NK) (v : V), Dq H v k.data → Dq (upd H a o) v k.data
  | .none, _, h => by cases h; exact .non
  | .num i, _, h => by cases h; exact .int i
  | .text x, _, h => by cases h; exact .str x
  | .tup ks, _, h => by
    cases h with
    | tup e2 ha =>
      rename_i b zs
      refine .tup ?_ (keys_upd e ks _ ha)
      have hb : b ≠ a := fun z => by rw [z, e] at e2; cases e2
      rw [upd_ne hb]
      exact e2
where keys_upd {P : Program} {w : World} {H : Hp} {a : Addr} {xs : List (NK × Addr × Value)} {o : HO} (e : H a = some (dnO P w a xs)) : ∀ (ks : List NK) (vs : List V), DqA H vs (NestedKey.datas ks) → DqA (upd H a o) vs (NestedKey.datas ks)
  | [], _, h => by cases h; exact .nil
  | k :: ks, _, h => by
    cases h with
    | cons h1 h2 => exact .cons (key_upd e k _ h1) (keys_upd e ks _ h2)
section
variable {X : Cx} {pins : List (Addr × Obj)} {σ : L2.St} {H : Hp} {s : Shared} {a : Addr} {kvs : List (NK × V)}
theorem nd_of (I : Inv X pins σ H s) (n : ND X.prog X.w H a kvs) : ∃ xs, H a = some (dnO X.prog X.w a xs) ∧ KR3 H kvs xs ∧ kvs.length ≤ sizeLine ∧ xs.length ≤ sizeLine ∧ (a == sysModules) = false ∧ s.heap.DictOfH (nestedKind X.prog X.w) a xs := by
  obtain ⟨xs, e, r⟩ := n
  obtain ⟨⟨hz, hd, o, es, ep, ho, hx, hdat, hes, hnd⟩, _, _⟩ := (show ObjOk X.prog X.w H s.heap a (dnO X.prog X.w a xs) from I.hok _ _ e)
  refine ⟨xs, e, r, by rw [Paired.length r]; exact hz, hz, hd, o, es, ep, ho, hx, hdat, hes, ?_, hnd⟩
  have all : ∀ {l : List (NK × V)} {m : List (NK × Addr × Value)}, KR3 H l m → ∀ x ∈ m, (nestedKind X.prog X.w).is s.heap x.1 x.2.1 := by
    intro l m q
    induction q with
    | nil => intro x hx; exact nomatch hx
    | @cons p q ps qs hq t ih =>
      intro x hx
      rcases List.mem_cons.mp hx with e | hx
      · subst e
        rw [← hq.1]
        exact ⟨dq_key I _ _ _ hq.2.1.1 rfl, hq.2.1.2⟩
      · exact ih x hx
  exact all r
theorem nd_len (I : Inv X pins σ H s) (n : ND X.prog X.w H a kvs) : kvs.length ≤ sizeLine := by
  obtain ⟨_, _, _, h, _⟩ := nd_of I n
  exact h
theorem nd_nodup (I : Inv X pins σ H s) (n : ND X.prog X.w H a kvs) : (kvs.map (·.1)).Nodup := by
  obtain ⟨xs, _, r, _, _, _, o, es, ep, _, _, _, _, _, h⟩ := nd_of I n
  have e := KR3.keys r
  rw [e]
  exact h
end
/-- the ext's own conditions -/
theorem dn_ok {P : Program} {w : World} {H : Hp} {h : Heap} {a : Addr} {xs : List (NK × Addr × Value)} (hz : xs.length ≤ sizeLine) (hd : (a == sysModules) = false)
    (hx : ∃ o es ep, h.get? a = some o ∧ o.ExactDict ∧ o.data = .dict es ep ∧ es.toList = xs.map (entryOfKey (nestedKind P w)) ∧ (xs.map (·.1)).Nodup) : ObjOk P w H h a (dnO P w a xs) := by
  refine ⟨⟨hz, hd, hx⟩, ?_, fun h1 h2 k1 k2 => ?_⟩
  · obtain ⟨o, _, _, ho, _⟩ := hx
    exact ⟨o, ho⟩
  · obtain ⟨z1, z2, o, es, ep, ho, r⟩ := k1
    exact ⟨z1, z2, o, es, ep, k2 o ho, r⟩
/-! readings and rules -/
def tNDNew (P : Program) (w : World) : TE := fun _ H Q => ∀ p, H p = none → Q (.ref p) (upd H p (dnO P w p []))
theorem nd_new {P : Program} {w : World} {H : Hp} {p : Addr} : ND P w (upd H p (dnO P w p [])) p [] := ⟨[], upd_same, .nil⟩
theorem pe_ndnew {X : Cx} {pos : Pos} : PE X (.Dict [] [] pos) (tNDNew X.prog X.w) := ⟨fun pins s σ H Q I h =>
  wpAny_Dict_empty ⟨.ref s.heap.objs.size, _, I.laid (a := s.heap.objs.size) (o := dnO X.prog X.w s.heap.objs.size []) (t' := s.toks) (fun _ _ q => Heap.get?_push_of_some _ q) (Nat.le_refl _)
    (dn_ok (Nat.zero_le _) (beq_eq_false_iff_ne.mpr (Ne.symm (Nat.ne_of_lt I.big))) ⟨_, #[], 0, Heap.get?_push_size _ rfl, ⟨rfl, rfl, rfl⟩, rfl, rfl, List.nodup_nil⟩), rfl, h _ (I.hok.fresh (Nat.le_refl _))⟩⟩
/-- the value at the key y is r -/
def NGet (P : Program) (w : World) (H : Hp) (a : Addr) (y : V) (r : Option V) : Prop := ∃ kvs k, ND P w H a kvs ∧ (∃ b, y = .ref b) ∧ Dq H y k.data ∧ k.depth ≤ 8 ∧ r = valV kvs k
def NPut (P : Program) (w : World) (H : Hp) (a : Addr) (y v : V) (R : Hp → Prop) : Prop := ∃ kvs k, ND P w H a kvs ∧ (∃ b, y = .ref b) ∧ Dq H y k.data ∧ k.depth ≤ 8 ∧ kvs.length < sizeLine ∧ ∀ xs', ND P w (upd H a (dnO P w a xs')) a (putK kvs k v) → R (upd H a (dnO P w a xs'))
section
variable {X : Cx} {pins : List (Addr × Obj)} {σ : L2.St} {H : Hp} {s : Shared} {a : Addr} {y d v : V} {u r : Value} {o : Option V} {A : Around} {E : Value → Shared → Prop}
theorem n_get2 {Q : Value → Shared → Prop} (hu : A.units + 64 < cLine) (I : Inv X pins σ H s) (g : NGet X.prog X.w H a y o) (ry : RelV y u) (rd : RelV d r) (h : ∀ w' s', Inv X pins σ H s' → RelV (o.getD d) w' → Q w' s') :
    wpAny (model X.prog X.w) A (call (.builtin "dict.get") [.ref a, u, r]) Q E s := by
  obtain ⟨kvs, k, n, ⟨b, rfl⟩, hk, hd8, l⟩ := g
  obtain rfl : u = Value.ref b := ry
  obtain ⟨xs, e, rel, _, _, hd, dd⟩ := nd_of I n
  refine call_meetsIn PySem.F.slot_dict_get dd.typeIs PySem.F.entry_dict_get (PySem.F.args_dict_get_3 _ _ _) (meetsH_dict_get_default (nestedKind X.prog X.w) a b hd r) ⟨(by show A.units + 1 + 8 < cLine; omega), k, xs, ⟨dq_key I _ _ _ hk rfl, hd8⟩, dd, h _ _ (I.tok _) ?_⟩
  rw [l]
  exact (rel.val k).getD rd
theorem n_in {Q : Value → Shared → Prop} (hu : A.units + 64 < cLine) (I : Inv X pins σ H s) (g : NGet X.prog X.w H a y o) (ry : RelV y u) (h : ∀ s', Inv X pins σ H s' → Q (.bool o.isSome) s') :
    wpAny (model X.prog X.w) A (compareOp .In u (.ref a)) Q E s := by
  obtain ⟨kvs, k, n, ⟨b, rfl⟩, hk, hd8, l⟩ := g
  obtain rfl : u = Value.ref b := ry
  obtain ⟨xs, e, rel, _, _, hd, dd⟩ := nd_of I n
  refine wpAny_in_heap (knd := nestedKind X.prog X.w) (k := k) (by show A.units + 1 + 8 < cLine; omega) ⟨dq_key I _ _ _ hk rfl, hd8⟩ hd dd ?_
  have q := (rel.val k).isSome_eq
  rw [Option.isSome_map] at q
  rw [← q, ← l]
  exact h _ (I.tok _)
theorem n_setItem {R : Hp → Prop} {Q : Unit → Shared → Prop} (hu : A.units + 64 < cLine) (I : Inv X pins σ H s) (g : NPut X.prog X.w H a y v R) (ry : RelV y u) (rv : RelV v r) (h : ∀ H' s', R H' → Inv X pins σ H' s' → Q () s') :
    wpAny (model X.prog X.w) A (setItem (.ref a) u r) Q E s := by
  obtain ⟨kvs, k, n, ⟨b, rfl⟩, hk, hd8, hl, q⟩ := g
  obtain rfl : u = Value.ref b := ry
  obtain ⟨xs, e, rel, _, hz, hd, dd⟩ := nd_of I n
  have hlx : xs.length < sizeLine := by rw [← Paired.length rel]; exact hl
  have hl' : (storedH xs k b r).length ≤ sizeLine := by
    unfold storedH
    split
    · rw [List.length_map]
      exact hz
    · rw [List.length_append]
      exact hlx
  refine wpAny_setItem_heap (knd := nestedKind X.prog X.w) (k := k) (hsz := hz) (by show A.units + 1 + 8 < cLine; omega) ⟨dq_key I _ _ _ hk rfl, hd8⟩ dd fun h' dd' hs => h _ _ (q (storedH xs k b r) ?_) ?_
  · exact ⟨_, upd_same, (rel.put k ⟨hk, hd8⟩ rv).keeps fun b' k' hb => key_upd e k' _ hb⟩
  · obtain ⟨qo, es, ep, hq, h2, h3, h4, _, h5⟩ := dd'
    exact d_write I (by rw [e]; exact True.intro) hs ⟨qo, hq⟩ (dn_ok hl' hd ⟨qo, es, ep, hq, h2, h3, h4, h5⟩)
end
def tNGet2 (P : Program) (w : World) (td ty tx : TE) : TE := fun σ H Q => td σ H fun x H1 => ∃ a kvs, x = .ref a ∧ ND P w H1 a kvs ∧ ty σ H1 fun y H2 => tx σ H2 fun z H3 => ∃ o, NGet P w H3 a y o ∧ Q (o.getD z) H3
def sNPut (P : Program) (w : World) (td ty tv : TE) : TS := fun D σ H => tv σ H fun v H1 => td σ H1 fun x H2 => ty σ H2 fun y H3 => ∃ a, x = .ref a ∧ NPut P w H3 a y v (D.nx σ)
section
variable {X : Cx} {o i e f value : Expr} {apos cpos pos pos' : Pos} {td ty tx tv : TE}
theorem pe_nget2 (hu : X.A.units + 64 < cLine) (ho : PE X o td) (he : PE X e ty) (hf : PE X f tx) (m : M2 X o "get" apos e f cpos) : PE X (.Call (.Attribute o "get" apos) [e, f] [] cpos) (tNGet2 X.prog X.w td ty tx) := by
  refine ⟨fun pins s σ H Q I h => ?_⟩
  refine wpAny_Call_method m.base m.few m.line PySem.F.plainAttrs_dict PySem.F.slot_dict_get PySem.F.type_dict_get (thn (ho.run pins s σ H _ I h) fun u s1 ⟨x, H1, I1, rx, a, kvs, ex, d, q1⟩ => ?_)
  subst ex
  obtain rfl : u = Value.ref a := rx
  obtain ⟨xs, _, _, _, _, _, dd⟩ := nd_of I1 d
  refine ⟨dd.typeIs, fun b q => ?_, ?_⟩
  · cases q
    obtain ⟨ob, _, _, h1, h2, _⟩ := dd
    exact ⟨ob, h1, h2.2.1⟩
  rw [m.trees]
  refine Calls.callWith_builtin rfl (Calls.evalArgs_plain (Calls.spliced_cons (thn (he.run pins s1 σ H1 _ I1 q1) fun iv s2 ⟨y, H2, I2, ry, q2⟩ =>
    Calls.spliced_cons (thn (hf.run pins s2 σ H2 _ I2 q2) fun fv s3 ⟨z, H3, I3, rz, ov, g, q3⟩ => Calls.spliced_nil ?_))))
  exact n_get2 hu I3 g ry rz fun w' s4 I4 rw' => ⟨_, H3, I4, rw', q3⟩
theorem ps_nput (hu : X.A.units + 64 < cLine) (ho : PE X o td) (hi : PE X i ty) (hv : PE X value tv) (hs : swapsWith value (some (.Subscript o i pos')) pos.line X.env = pure false := by rfl) :
    PS X (.Assign [.Subscript o i pos'] value pos) (sNPut X.prog X.w td ty tv) := by
  refine ⟨fun pins s σ H D I h => ?_⟩
  refine wpAny_Assign_Subscript (thn (hv.run pins s σ H _ I h) fun r s1 ⟨v, H1, I1, rv, q1⟩ => thn (ho.run pins s1 σ H1 _ I1 q1) fun u s2 ⟨x, H2, I2, rx, q2⟩ => thn (hi.run pins s2 σ H2 _ I2 q2) fun iv s3 ⟨y, H3, I3, ry, a, ex, g⟩ => ?_) hs
  subst ex
  obtain rfl : u = Value.ref a := rx
  exact n_setItem hu I3 g ry rv fun H4 s4 q4 I4 => ⟨σ, H4, I4, q4⟩
/-- x in d -/
theorem op_ndin (hu : X.A.units + 64 < cLine) : OpR X (compareOp .In) (fun x y H Q => ∃ a o, y = .ref a ∧ NGet X.prog X.w H a x o ∧ Q (.bl o.isSome) H) := by
  intro pins s σ H x y v u Q I rx ry h
  obtain ⟨a, o, rfl, g, q⟩ := h
  obtain rfl : u = Value.ref a := ry
  exact n_in hu I g rx fun s' I' => ⟨.bl o.isSome, H, I', rfl, q⟩
end
/-- list(d): its keys -/
theorem call_list_nd {X : Cx} (hc : X.calm = true) : CallR X (.type "list") (fun vs H Q => ∃ a kvs, vs = [.ref a] ∧ ND X.prog X.w H a kvs ∧ ∀ l xs, H l = none → DqA H xs (kvs.map fun p => p.1.data) → Q (.ref l) (upd H l (.lst xs))) := by
  intro pins s σ H vs us Q I r h
  obtain ⟨a, kvs, rfl, n, q⟩ := h
  obtain ⟨u1, rfl, rfl⟩ := Vals.one r
  obtain ⟨xs, e, rel, hz, hzx, hd, dd⟩ := nd_of I n
  obtain ⟨es, ep, hr, hsz, hes⟩ := dd.raw
  refine PySem.W.kdl_call (KdlSrc.rawDict hd) (I.ok.hd hc) hr (by omega) fun h' tk acc c' hk hD items => ?_
  have hlen : acc.size = kvs.length := by rw [items.1, hsz, Paired.length rel]
  have hrefs : Vals (xs.map fun x => V.ref x.2.1) acc.toList := by
    have e1 : acc.toList = xs.map fun x => Value.ref x.2.1 := by
      refine List.ext_getElem? fun i => ?_
      rw [Array.getElem?_toList, List.getElem?_map]
      by_cases hi : i < acc.size
      · obtain ⟨hi', hv⟩ := items.2 i _ (Array.getElem?_eq_getElem hi)
        obtain ⟨y, hy, h1, _⟩ := hes i hi'
        rw [Array.getElem?_eq_getElem hi, hv, h1, hy]
        rfl
      · have hx : xs.length ≤ i := by
          rw [← Paired.length rel]
          omega
        rw [Array.getElem?_eq_none (by omega), List.getElem?_eq_none hx]
        rfl
    rw [e1]
    exact vals_refs xs
  refine ⟨.ref s.heap.objs.size, upd H s.heap.objs.size (.lst (xs.map fun x => V.ref x.2.1)), I.laid (t' := tk) hk (Nat.le_refl _) ⟨by rw [List.length_map]; exact hzx, acc.toList, c', hrefs, by simpa using hD⟩, rfl, q _ _ (I.hok.fresh (Nat.le_refl _)) ?_⟩
  exact KR3.refs rel
end KN

set_option Elab.async false
set_option linter.all false
set_option maxRecDepth 100000
set_option maxHeartbeats 4000000
/-! ### lots_met -/
namespace KN
open PySem PySem.Spec PyProof.Rows L2 KG K80 KT KR KC
def lotK (ps : Lot) : NK := .tup (ps.map fun p => .tup [.num p.1, .num p.2])
theorem datas_map {α : Type} (f : α → NK) : ∀ l : List α, NestedKey.datas (l.map f) = l.map fun x => (f x).data
  | [] => rfl
  | x :: l => by
    show (f x).data :: NestedKey.datas (l.map f) = _
    rw [datas_map f l]
    rfl
theorem lotK_data (ps : Lot) : (lotK ps).data = lotD ps := by
  show PyData.tuple (NestedKey.datas (ps.map _)) = _
  rw [datas_map]
  rfl
theorem lotK_depth (ps : Lot) : (lotK ps).depth ≤ 8 := by
  have h : ∀ ps : Lot, NestedKey.depthAll (ps.map fun p => NestedKey.tup [.num p.1, .num p.2]) ≤ 1 := by
    intro ps
    induction ps with
    | nil => exact Nat.zero_le _
    | cons p ps ih =>
      show max (max 0 (max 0 0) + 1) _ ≤ 1
      exact Nat.max_le.mpr ⟨by decide, ih⟩
  show NestedKey.depthAll _ + 1 ≤ 8
  have := h ps
  omega
mutual
/-- tuples of ints stand while tuples stay -/
theorem key_keep {H H' : Hp} (kt : KeepT H H') : ∀ (k : NK) (v : V), Dq H v k.data → Dq H' v k.data
  | .none, _, h => by cases h; exact .non
  | .num i, _, h => by cases h; exact .int i
  | .text x, _, h => by cases h; exact .str x
  | .tup ks, _, h => by
    cases h with
    | tup e2 ha => exact .tup (kt _ _ e2) (keys_keep kt ks _ ha)
theorem keys_keep {H H' : Hp} (kt : KeepT H H') : ∀ (ks : List NK) (vs : List V), DqA H vs (NestedKey.datas ks) → DqA H' vs (NestedKey.datas ks)
  | [], _, h => by cases h; exact .nil
  | k :: ks, _, h => by
    cases h with
    | cons h1 h2 => exact .cons (key_keep kt k _ h1) (keys_keep kt ks _ h2)
end
theorem DqA.snoc {H : Hp} {v : V} {d : PyData} : ∀ {vs : List V} {ds : List PyData}, DqA H vs ds → Dq H v d → DqA H (vs ++ [v]) (ds ++ [d]) := by
  intro vs ds h hv
  induction ds generalizing vs with
  | nil =>
    cases h
    exact .cons hv .nil
  | cons d' ds ih =>
    cases h with
    | cons h1 h2 => exact .cons h1 (ih h2)
theorem lots_keep {H H' : Hp} (kt : KeepT H H') {vs : List V} {ls : List Lot} (h : DqA H vs (ls.map lotD)) : DqA H' vs (ls.map lotD) := by
  have e : ls.map lotD = NestedKey.datas (ls.map lotK) := by
    rw [datas_map]
    exact List.map_congr_left fun x _ => (lotK_data x).symm
  rw [e] at h ⊢
  exact keys_keep kt _ _ h
def setD (p : Int × Int) : PyData := .tuple [.int p.1, .int p.2]
theorem sets_keep {H H' : Hp} (kt : KeepT H H') {vs : List V} {ps : Lot} (h : DqA H vs (ps.map setD)) : DqA H' vs (ps.map setD) := by
  have e : ps.map setD = NestedKey.datas (ps.map fun p => NestedKey.tup [.num p.1, .num p.2]) := by
    rw [datas_map]
    rfl
  rw [e] at h ⊢
  exact keys_keep kt _ _ h
/-! the mirror -/
def pickRow (r : List Int) (c : List Nat) : Lot := c.map fun (j : Nat) => ((j : Int), r.getD j 0)
def lotsOfRow (r : List Int) (k : Nat) : List Lot := (combs r.length k).map (pickRow r)
abbrev sLotsMet : Stmt := topS 51
theorem scLM : FnScope ["row", "size", "knobs", "knob"] ["row", "size"] (defScope sLotsMet) := ⟨rfl, rfl, rfl, by decide +kernel, rfl, by decide +kernel, by decide +kernel⟩
abbrev lmOut : Scope := { kind := .function, names := [(".0", .local), ("knobs", .local), ("tuple", .globalImplicit), ("row", .free)], isGenerator := false, isCoroutine := false }
abbrev lmIn : Scope := { kind := .function, names := [(".0", .local), ("knob", .local), ("row", .free)], isGenerator := false, isCoroutine := false }
theorem blkLM1 : blkC ["row", "size", "knobs", "knob"] (defScope sLotsMet) lmOut [("knobs", 2)] = true := by decide +kernel
theorem blkLM2 : blkC ["row", "size", "knobs", "knob"] (relS lmOut (defScope sLotsMet)) lmIn [("knob", 3)] = true := by decide +kernel
section
variable {P : Program} {w : World} {K : PySem.W.Frag} {mg : Str → Option Value} {base : Heap}
abbrev rTupOf (K : PySem.W.Frag) : List V → Hp → VK → Prop := fun xs H Q => ∃ p ys, xs = [V.ref p] ∧ ((SqL K H p ys ∧ ∀ l, H l = none → Q (.ref l) (upd H l (.tup ys))) ∨ (SqT K H p ys ∧ Q (.ref p) H))
abbrev teLM (K : PySem.W.Frag) : TE := tCB (rTupOf K) (tCons (tLc (iTup K (tVar 2)) (gName 3) tYes (tTup (tCons (tVar 3) (tCons (tOp (rIxT K) (tVar 0) (tVar 3)) tNil))) [3]) tNil)
/-- tuple([(knob, row[knob]) for knob in knobs]) -/
theorem rd_pick {σ : L2.St} {H : Hp} {Q : VK} {ra T : Addr} {r : List Int} {c : List Nat} {y1 y3 : Option V} (hs : σ = [some (.ref ra), y1, some (.ref T), y3]) (hra : H ra = some (.tup (r.map V.int))) (hT : H T = some (.tup (c.map fun j : Nat => V.int (j : Int)))) (hc : ∀ j ∈ c, j < r.length) (hc5 : c.length ≤ 5)
    (k : ∀ l H', Same H H' → H l = none → Dq H' (.ref l) (lotD (pickRow r c)) → Q (.ref l) H') : teLM K σ H Q := by
  subst hs
  refine ⟨.ref T, rfl, T, rfl, ⟨_, .inl (.inl hT)⟩, fun D nD => ?_⟩
  refine lc_it (walk_tup (xs := c.map fun j : Nat => V.int (j : Int))) (fun i Hh => ∃ xs, Hh D = some (.lst xs) ∧ Same H Hh ∧ xs.length = i ∧ DqA Hh xs (((pickRow r c).take i).map setD)) ⟨[], upd_same, same_upd nD, rfl, .nil⟩ (fun i Hh _ p => ?_) ?_ ?_
  · obtain ⟨_, _, S, _⟩ := p
    exact .inl (.inl (S _ _ hT))
  · rintro i x Hh H' hi ⟨xs, hD, S, hlen, hdq⟩ ⟨rfl, hx⟩
    have hi' : i < c.length := by simpa using hi
    obtain ⟨j, hj, rfl⟩ : ∃ j : Nat, c[i]? = some j ∧ x = V.int (j : Int) := by
      rw [List.getElem?_map, List.getElem?_eq_getElem hi'] at hx
      exact ⟨c[i], List.getElem?_eq_getElem hi', (Option.some.inj hx).symm⟩
    have hjr : j < r.length := hc j (List.mem_of_getElem? hj)
    have hat : atI (r.map V.int) (j : Int) = some (V.int (r.getD j 0)) := by
      refine L2.at_of (j := j) rfl ?_
      rw [List.getElem?_map, List.getElem?_eq_getElem hjr, List.getD_eq_getElem?_getD, List.getElem?_eq_getElem hjr]
      rfl
    refine ⟨rfl, iteR ?_⟩
    refine ⟨_, rfl, .ref ra, rfl, _, rfl, ra, _, (j : Int), _, rfl, rfl, .inl (.inl (S _ _ hra)), hat, by show 2 ≤ sizeLine; decide, fun t nt => ?_⟩
    have hDt : (upd H' t (.tup [.int (j : Int), .int (r.getD j 0)])) D = some (.lst xs) := same_upd nt _ _ hD
    refine ⟨xs, hDt, by rw [hlen, sizeLine_eq]; omega, xs ++ [.ref t], upd_same, same_upd2 nD (fun b o e => same_upd nt _ _ (S b o e)), by rw [List.length_append, hlen]; rfl, ?_⟩
    have e2 : (pickRow r c).take (i + 1) = (pickRow r c).take i ++ [((j : Int), r.getD j 0)] := by
      have hl : i < (pickRow r c).length := by
        unfold pickRow
        rw [List.length_map]
        exact hi'
      have e3 : (pickRow r c)[i] = ((j : Int), r.getD j 0) := by
        have z : (pickRow r c)[i]? = some ((j : Int), r.getD j 0) := by
          unfold pickRow
          rw [List.getElem?_map, hj]
          rfl
        rw [List.getElem?_eq_getElem hl] at z
        exact Option.some.inj z
      rw [List.take_succ_eq_append_getElem hl, e3]
    rw [e2, List.map_append]
    refine DqA.snoc (sets_keep (keepT_lst (same_upd nt) hD) hdq) ?_
    refine .tup ?_ (.cons (.int _) (.cons (.int _) .nil))
    rw [upd_ne (fun z => by rw [← z] at hDt; rw [upd_same] at hDt; cases hDt)]
    exact upd_same
  · rintro Hh ⟨xs, hD, S, hlen, hdq⟩
    have e : (pickRow r c).take (c.map fun j : Nat => V.int (j : Int)).length = pickRow r c := by
      unfold pickRow
      rw [List.length_map]
      conv => lhs; arg 1; rw [← List.length_map (as := c) (f := fun (j : Nat) => ((j : Int), r.getD j 0))]
      exact List.take_length
    rw [e] at hdq
    refine ⟨D, xs, rfl, .inl ⟨.inl (.inl hD), fun l nl => ?_⟩⟩
    refine k l _ (fun b o e => same_upd nl b o (S b o e)) ?_ (.tup upd_same (sets_keep (KeepT.of (same_upd nl)) hdq))
    cases hl : H l with
    | none => rfl
    | some o =>
      rw [S _ _ hl] at nl
      cases nl
def spLM : Sp := fun vs H Q _ => ∃ (ra : Addr) (r : List Int) (k : Nat), vs = [.ref ra, .int (k : Int)] ∧ H ra = some (.tup (r.map V.int)) ∧ r.length ≤ 5 ∧ k ≤ 5 ∧ ∀ H' l xs, Same H H' → H l = none → H' l = some (.lst xs) → DqA H' xs ((lotsOfRow r k).map lotD) → Q (.ref l) H'
theorem ok_lotsMet {f : Addr} {fd : FuncData} {k : Nat} (F : Fun K "lots_met" "lots_met" sLotsMet f fd) (gC : mg "combinations" = some (.type "itertools.combinations")) (zr : mg "range" = none) (zl : mg "len" = none) (zi : mg "int" = none) (zt : mg "tuple" = none) : FnOk P w K mg base CX0 (k + 1) f fd ["row", "size"] spLM := by
  refine F.ok scLM (fun vs H Q E h => ?_) (fun cdv A outer s H vs Q E hr h => ?_)
  · obtain ⟨ra, r, k, rfl, _⟩ := h
    rfl
  · obtain ⟨ra, r, k, rfl, hra, h5, hk5, q⟩ := h
    refine ⟨_, pss_one (ps_ret (pe_lc (te := teLM K) rfl scLM.nd (pi_comb (by rfl) gC rfl (pa_cons (pe_callTy cr_range1 (by rfl) zr (by decide +kernel) (pa_cons (pe_callB call_len_seq (by rfl) zl PySem.boot_len (pa_cons (pv 0) pa_nil)) pa_nil)) (pa_cons (pe_callTy call_int1 (by rfl) zi (by decide +kernel) (pa_cons (pv 1) pa_nil)) pa_nil)))
      (blkOk_by (own := [("knobs", 2)]) blkLM1) (fun s H C cl fp => pg_name (i := 2) scLM.nd rfl (.inl rfl)) (fun _ _ _ _ _ => pts_nil)
      (fun s H C cl fp => by
        refine pe_callTy call_tuple_of (by rfl) zt (by decide +kernel) (pa_cons ?_ pa_nil)
        refine pe_lc (own := [("knob", 3)]) rfl scLM.nd ?_ (blkOk_by (sc := relS lmOut (defScope sLotsMet)) (own := [("knob", 3)]) blkLM2) (fun s H C cl fp => ?_) (fun _ _ _ _ _ => pts_nil) (fun _ _ _ _ _ => ?_)
        · exact pi_tup (pv 2)
        · exact pg_name (i := 3) scLM.nd rfl (.inl rfl)
        · exact pe_tup (pa_cons (pv 3) (pa_cons (pe_ix ix_tup (pv 0) (pv 3) (fun _ _ => rfl)) pa_nil))))), ?_⟩
    refine ⟨.ref ra, rfl, ra, _, rfl, .inr (.inl (.inl hra)), _, rfl, fun g ng => ⟨_, rfl, .inl ⟨_, rfl, g, r.length, k, rfl, ?_, h5, hk5, fun D nD => ?_⟩⟩⟩
    · rw [upd_same, List.length_map]
    · have S0 : Same H (upd H g (.rng 0 ((r.map V.int).length : Int))) := same_upd ng
      generalize upd H g (.rng 0 ((r.map V.int).length : Int)) = H1 at S0 nD
      have hl10 := combs_len r.length k h5 hk5
      refine lc_it walk_comb (fun i Hh => ∃ xs, Hh D = some (.lst xs) ∧ Same H1 Hh ∧ xs.length = i ∧ DqA Hh xs (((lotsOfRow r k).take i).map lotD)) ⟨[], upd_same, same_upd nD, rfl, .nil⟩ (fun i Hh _ p => trivial) ?_ ?_
      · rintro i x Hh H' hi ⟨xs, hD, S, hlen, hdq⟩ ⟨T, c, rfl, nT, rfl, hc⟩
        obtain ⟨hcl, hcn⟩ := combs_in r.length k h5 hk5 c (List.mem_of_getElem? hc)
        have S1 : Same H (upd Hh T (.tup (c.map fun j : Nat => V.int (j : Int)))) := fun b o e => same_upd nT _ _ (S _ _ (S0 b o e))
        refine ⟨rfl, iteR ?_⟩
        refine rd_pick rfl (S1 _ _ hra) upd_same hcn (by omega) fun l H2 S2 nl hl => ?_
        have hD2 : H2 D = some (.lst xs) := S2 _ _ (same_upd nT _ _ hD)
        refine ⟨xs, hD2, by rw [hlen, sizeLine_eq]; omega, xs ++ [.ref l], upd_same, same_upd2 nD (fun b o e => S2 _ _ (same_upd nT _ _ (S b o e))), by rw [List.length_append, hlen]; rfl, ?_⟩
        have hll : i < (lotsOfRow r k).length := by
          unfold lotsOfRow
          rw [List.length_map]
          exact hi
        have e3 : (lotsOfRow r k)[i] = pickRow r c := by
          have z : (lotsOfRow r k)[i]? = some (pickRow r c) := by
            unfold lotsOfRow
            rw [List.getElem?_map, hc]
            rfl
          rw [List.getElem?_eq_getElem hll] at z
          exact Option.some.inj z
        rw [List.take_succ_eq_append_getElem hll, e3, List.map_append]
        have kt : KeepT Hh (upd H2 D (.lst (xs ++ [.ref l]))) := keepT_lst (fun b o e => S2 _ _ (same_upd nT _ _ e)) hD
        have kt2 : KeepT H2 (upd H2 D (.lst (xs ++ [.ref l]))) := keepT_lst (Same.refl _) hD2
        refine DqA.snoc (lots_keep kt hdq) ?_
        have z := hl
        rw [← lotK_data] at z ⊢
        exact key_keep kt2 _ _ z
      · rintro Hh ⟨xs, hD, S, hlen, hdq⟩
        have e : (lotsOfRow r k).take (combs r.length k).length = lotsOfRow r k := by
          unfold lotsOfRow
          conv => lhs; arg 1; rw [← List.length_map (as := combs r.length k) (f := pickRow r)]
          exact List.take_length
        rw [e] at hdq
        refine q Hh D xs (fun b o e => S _ _ (S0 b o e)) ?_ hD hdq
        cases hl : H D with
        | none => rfl
        | some o =>
          rw [S0 _ _ hl] at nD
          cases nD
end
end KN

set_option Elab.async false
set_option linter.all false
set_option maxRecDepth 100000
set_option maxHeartbeats 4000000
/-! ### lot_marks -/
namespace KN
open PySem PySem.Spec PyProof.Rows L2 KG K80 KT KR KC
/-! the mirror -/
def ival : V → Int | .int i => i | _ => 0
def stepLot (n : Nat) (kvs : List (NK × V)) (ps : Lot) : List (NK × V) := putK kvs (lotK ps) (.int (Builtin.bitOr (ival ((valV kvs (lotK ps)).getD (.int 0))) (1 * 2 ^ n)))
def stepRow (k : Nat) (kvs : List (NK × V)) (p : List Int × Nat) : List (NK × V) := (lotsOfRow p.1 k).foldl (stepLot p.2) kvs
def marksOf (k : Nat) (rows : List (List Int)) : List (NK × V) := rows.zipIdx.foldl (stepRow k) []
def Ints (kvs : List (NK × V)) : Prop := ∀ p ∈ kvs, ∃ i, p.2 = V.int i
theorem val_mem {kvs : List (NK × V)} {k : NK} {v : V} (h : valV kvs k = some v) : (k, v) ∈ kvs := by
  induction kvs with
  | nil => cases h
  | cons p r ih =>
    by_cases e : p.1 = k
    · rw [valV_pos e] at h
      cases h
      rw [← e]
      exact List.mem_cons_self
    · rw [valV_neg e] at h
      exact List.mem_cons_of_mem _ (ih h)
theorem ints_get {kvs : List (NK × V)} (h : Ints kvs) (k : NK) : (valV kvs k).getD (.int 0) = .int (ival ((valV kvs k).getD (.int 0))) := by
  cases e : valV kvs k with
  | none => rfl
  | some v =>
    obtain ⟨i, hi⟩ := h _ (val_mem e)
    have hi' : v = V.int i := hi
    rw [hi']
    rfl
theorem ints_put {kvs : List (NK × V)} (h : Ints kvs) (k : NK) (i : Int) : Ints (putK kvs k (.int i)) := by
  unfold putK
  split
  · intro p hp
    obtain ⟨q, hq, rfl⟩ := List.mem_map.mp hp
    by_cases e : q.1 = k
    · rw [if_pos e]
      exact ⟨i, rfl⟩
    · rw [if_neg e]
      exact h q hq
  · intro p hp
    rcases List.mem_append.mp hp with z | z
    · exact h p z
    · rw [List.mem_singleton.mp z]
      exact ⟨i, rfl⟩
theorem ints_step {n : Nat} : ∀ (ls : List Lot) {kvs : List (NK × V)}, Ints kvs → Ints (ls.foldl (stepLot n) kvs)
  | [], _, h => h
  | p :: ls, _, h => ints_step ls (ints_put h _ _)
theorem len_step {n : Nat} : ∀ (ls : List Lot) (kvs : List (NK × V)), (ls.foldl (stepLot n) kvs).length ≤ kvs.length + ls.length
  | [], _ => Nat.le_refl _
  | p :: ls, kvs => by
    have h1 := len_step (n := n) ls (stepLot n kvs p)
    have h2 : (stepLot n kvs p).length ≤ kvs.length + 1 := length_putK _ _ _
    rw [List.foldl_cons, List.length_cons]
    omega
theorem lotsOfRow_len {r : List Int} {k : Nat} (h5 : r.length ≤ 5) (hk : k ≤ 5) : (lotsOfRow r k).length ≤ 10 := by
  unfold lotsOfRow
  rw [List.length_map]
  exact combs_len _ _ h5 hk
abbrev sLotMarks : Stmt := topS 52
theorem scMk : FnScope ["rows", "size", "marks", "number", "row", "lot"] ["rows", "size"] (defScope sLotMarks) := ⟨rfl, rfl, rfl, by decide +kernel, rfl, by decide +kernel, by decide +kernel⟩
theorem keepT_ext {P : Program} {w : World} {H : Hp} {a : Addr} {xs ys : List (NK × Addr × Value)} (e : H a = some (dnO P w a xs)) : KeepT H (upd H a (dnO P w a ys)) := fun b zs h => by
  have hb : b ≠ a := fun z => by rw [z, e] at h; cases h
  rw [upd_ne hb]
  exact h
theorem enum_or2 {K : PySem.W.Frag} {H : Hp} {a : Addr} {xs : List V} {R : It → Hp → Prop} (hq : H a = some (.lst xs) ∨ H a = some (.tup xs)) (h : ∀ (J : It) (G : Hp → Prop), Walk J xs.length G (YPair (fun i => some (.int (i : Nat))) (fun i => xs[i]?)) → (∀ H', (∀ o, H a = some o → H' a = some o) → G H') → R J H) :
    EnumOr K a xs R H := by
  rcases hq with e | e
  · exact .inl ⟨.inl (.inl e), h _ _ walk_enum fun H' S => .inl (.inl (S _ e))⟩
  · exact .inr ⟨.inl (.inl e), h _ _ walk_enumT fun H' S => .inl (.inl (S _ e))⟩
theorem drop_cons {α : Type} {l : List α} {i : Nat} {x : α} (h : l[i]? = some x) : l.drop i = x :: l.drop (i + 1) := drop_at h
/-- all but the one at p stay -/
def KeepB (p : Addr) (H H' : Hp) : Prop := ∀ b o, b ≠ p → H b = some o → H' b = some o
theorem KeepB.same {p : Addr} {H0 H H' : Hp} (k : KeepB p H H') (S : Same H0 H) (n : H0 p = none) : Same H0 H' := fun b o e => k b o (ne_of_none e n) (S b o e)
section
variable {P : Program} {w : World} {K : PySem.W.Frag} {mg : Str → Option Value} {base : Heap}
def spMk (P : Program) (w : World) : Sp := fun vs H Q _ => ∃ (a : Addr) (xs : List V) (rows : List (List Int)) (k : Nat), vs = [.ref a, .int (k : Int)] ∧ (H a = some (.lst xs) ∨ H a = some (.tup xs)) ∧ RowsAt H xs rows ∧ (∀ r ∈ rows, r.length ≤ 5) ∧ rows.length ≤ 2000 ∧ k ≤ 5 ∧
  ∀ H' p, Same H H' → H p = none → ND P w H' p (marksOf k rows) → Q (.ref p) H'
theorem ok_lotMarks {f fL : Addr} {fd fdL : FuncData} {k : Nat} (F : Fun K "lot_marks" "lot_marks" sLotMarks f fd) (dL : Dfn K mg "lots_met" fL fdL ["row", "size"]) (GL : FnOk P w K mg base CX0 (k + 1) fL fdL ["row", "size"] spLM) (ze : mg "enumerate" = none) : FnOk P w K mg base CX0 (k + 2) f fd ["rows", "size"] (spMk P w) := by
  refine F.ok scMk (fun vs H Q E h => ?_) (fun cdv A outer s H vs Q E hr h => ?_)
  · obtain ⟨a, xs, rows, k, rfl, _⟩ := h
    rfl
  · obtain ⟨a, xs, rows, k, rfl, ha, hrows, h5, h2k, hk5, q⟩ := h
    refine ⟨_, pss_cons (ps_set (i := 2) scMk.nd rfl (.inl rfl) pe_ndnew)
      (pss_cons (ps_for PassesOwn.never rfl (pi_enumV (by rfl) ze (pv 0)) (pg_tup rfl (pgs_cons (pg_name (i := 3) scMk.nd rfl (.inl rfl)) (pgs_cons (pg_name (i := 4) scMk.nd rfl (.inl rfl)) pgs_nil)))
        (pss_one (ps_for PassesOwn.never rfl (pi_list (pe_call GL hr (by rfl) dL.gm dL.kp dL.bd .nil pass0 (pa_cons (pv 4) (pa_cons (pv 1) pa_nil)))) (pg_name (i := 5) scMk.nd rfl (.inl rfl))
          (pss_one (ps_nput hr.units (pv 2) (pv 5) (pe_op op_or (pe_nget2 hr.units (pv 2) (pv 5) pe_int ⟨rfl, rfl, rfl, rfl⟩) (pe_op op_shl pe_int (pv 3))))))))
      (pss_one (ps_ret (pv 2)))), ?_⟩
    intro p np
    generalize e0 : upd H p (dnO _ _ p []) = H1
    have Sp : Same H H1 := e0 ▸ same_upd np
    have hnd0 : ND P w H1 p [] := e0 ▸ nd_new
    clear e0
    have ha1 : H1 a = some (.lst xs) ∨ H1 a = some (.tup xs) := ha.imp (Sp _ _) (Sp _ _)
    refine ⟨a, xs, rfl, enum_or2 ha1 fun J G wk hG => for_it wk (fun i σ H' => ∃ (y3 y4 y5 : Option V) (kvs : List (NK × V)), σ = [some (.ref a), some (.int (k : Int)), some (.ref p), y3, y4, y5] ∧ Same H H' ∧ (∀ b o, H1 b = some o → b ≠ p → H' b = some o) ∧ ND P w H' p kvs ∧ Ints kvs ∧ kvs.length ≤ 10 * i ∧ (rows.zipIdx.drop i).foldl (stepRow k) kvs = marksOf k rows)
      ⟨none, none, none, [], rfl, Sp, fun _ _ e _ => e, hnd0, fun _ h => (nomatch h), Nat.zero_le _, rfl⟩ (fun i σ H' _ p' => ?_) ?_ ?_⟩
    · obtain ⟨_, _, _, _, _, S, _⟩ := p'
      exact hG H' fun o e => by
        rcases ha with z | z
        · rw [Sp _ _ z] at e
          cases e
          exact S _ _ z
        · rw [Sp _ _ z] at e
          cases e
          exact S _ _ z
    · rintro i x σ Hc H' hi ⟨y3, y4, y5, kvs, rfl, S, S1, hnd, hin, hlen, hm⟩ ⟨T, x', yy, rfl, nT, rfl, e1, e2⟩
      cases e1
      obtain ⟨r, hr', ra, rfl, hra⟩ := RowsAt.at hrows e2
      have hr5 := h5 r (List.mem_of_getElem? hr')
      have hi2 : i < 2000 := by
        have := (List.getElem?_eq_some_iff.mp hr').1
        omega
      have ST : Same Hc (upd Hc T (.tup [.int (i : Nat), .ref ra])) := same_upd nT
      have hndT : ND P w (upd Hc T (.tup [.int (i : Nat), .ref ra])) p kvs := hnd.same ST
      refine ⟨T, _, rfl, .inl (.inl upd_same), rfl, .int (i : Nat), [.ref ra], rfl, .ref ra, [], rfl, rfl, ?_⟩
      refine ⟨.ref ra, rfl, .int (k : Int), rfl, ra, r, k, rfl, ST _ _ (S _ _ hra), hr5, hk5, fun H2 L xs2 S2 nL hL hdq => ?_⟩
      have S02 : Same H H2 := fun b o e => S2 _ _ (ST _ _ (S b o e))
      have hnd2 := hndT.same S2
      have hlots := lotsOfRow_len hr5 hk5
      have hstep : (rows.zipIdx.drop (i + 1)).foldl (stepRow k) ((lotsOfRow r k).foldl (stepLot i) kvs) = marksOf k rows := by
        have hz : rows.zipIdx[i]? = some (r, i) := by
          rw [List.getElem?_zipIdx, hr']
          simp
        rw [drop_cons hz] at hm
        exact hm
      refine ⟨L, rfl, ⟨_, .inl (.inl hL)⟩, for_it (walk_list (xs := xs2)) (fun j σ H4 => ∃ (y5 : Option V) (kvs2 : List (NK × V)), σ = [some (.ref a), some (.int (k : Int)), some (.ref p), some (.int (i : Nat)), some (.ref ra), y5] ∧ KeepB p H2 H4 ∧ KeepT H2 H4 ∧ ND P w H4 p kvs2 ∧ Ints kvs2 ∧ kvs2.length ≤ 10 * i + j ∧ ((lotsOfRow r k).drop j).foldl (stepLot i) kvs2 = (lotsOfRow r k).foldl (stepLot i) kvs)
        ⟨y5, kvs, rfl, fun _ _ _ e => e, fun _ _ e => e, hnd2, hin, by omega, rfl⟩ (fun j σ H4 _ p4 => ?_) ?_ ?_⟩
      · obtain ⟨_, _, _, kb, _⟩ := p4
        refine .inl (.inl (kb _ _ (fun z => ?_) hL))
        obtain ⟨_, e, _⟩ := hnd2
        rw [z, e] at hL
        cases hL
      · rintro j x σ H4 H4' hj ⟨y5, kvs2, rfl, kb, kt, hnd4, hin4, hlen4, hm4⟩ ⟨rfl, hx⟩
        obtain ⟨dx, hdx, hqx⟩ := DqA.at hdq hx
        rw [List.getElem?_map] at hdx
        cases hps : (lotsOfRow r k)[j]? with
        | none =>
          rw [hps] at hdx
          cases hdx
        | some ps =>
          rw [hps] at hdx
          cases hdx
          have hj10 : j < 10 := by
            have := (List.getElem?_eq_some_iff.mp hps).1
            omega
          rw [← lotK_data] at hqx
          have hq4 := key_keep kt _ _ hqx
          obtain ⟨b, rfl⟩ : ∃ b, x = V.ref b := by
            have z : Dq H2 x (.tuple (NestedKey.datas _)) := hqx
            cases z
            exact ⟨_, rfl⟩
          have hlotD := lotK_depth ps
          refine ⟨.ref p, rfl, p, kvs2, rfl, hnd4, .ref b, rfl, valV kvs2 (lotK ps), ⟨kvs2, lotK ps, hnd4, ⟨b, rfl⟩, hq4, hlotD, rfl⟩, ?_⟩
          rw [ints_get hin4]
          refine ⟨_, rfl, _, _, rfl, rfl, ⟨by omega, by omega, by decide⟩, _, _, rfl, rfl, ?_⟩
          refine ⟨.ref p, rfl, .ref b, rfl, p, rfl, kvs2, lotK ps, hnd4, ⟨b, rfl⟩, hq4, hlotD, by rw [sizeLine_eq]; omega, fun xs' hnd5 => ?_⟩
          have he4 : ∃ ys, H4' p = some (dnO P w p ys) := by
            obtain ⟨ys, e, _⟩ := hnd4
            exact ⟨ys, e⟩
          obtain ⟨ys, he4⟩ := he4
          refine ⟨_, stepLot i kvs2 ps, rfl, fun b o hb e => ?_, fun b zs e => keepT_ext he4 _ _ (kt _ _ e), hnd5, ints_put hin4 _ _, ?_, ?_⟩
          · rw [upd_ne hb]
            exact kb _ _ hb e
          · have := length_putK kvs2 (lotK ps) (V.int (Builtin.bitOr (ival ((valV kvs2 (lotK ps)).getD (.int 0))) (1 * 2 ^ i)))
            show (putK _ _ _).length ≤ _
            omega
          · rw [drop_cons hps] at hm4
            exact hm4
      · rintro σ H4 ⟨y5, kvs2, rfl, kb, kt, hnd4, hin4, hlen4, hm4⟩
        have hxl : xs2.length = (lotsOfRow r k).length := by
          rw [DqA.len hdq, List.length_map]
        rw [hxl, List.drop_length] at hm4
        have hm5 : kvs2 = (lotsOfRow r k).foldl (stepLot i) kvs := hm4
        refine ⟨_, _, _, kvs2, rfl, kb.same S02 np, fun b o e hb => kb _ _ hb (S2 _ _ (ST _ _ (S1 _ _ e hb))), hnd4, hin4, by omega, ?_⟩
        rw [hm5]
        exact hstep
    · rintro σ H' ⟨y3, y4, y5, kvs, rfl, S, S1, hnd, hin, hlen, hm⟩
      have hxl : xs.length = rows.zipIdx.length := by
        rw [hrows.len, List.length_zipIdx]
      rw [hxl, List.drop_length] at hm
      have hm5 : kvs = marksOf k rows := hm
      refine ⟨.ref p, rfl, q H' p S np ?_⟩
      rw [← hm5]
      exact hnd
end
end KN

set_option Elab.async false
set_option linter.all false
set_option maxRecDepth 100000
set_option maxHeartbeats 4000000
/-! ### let_marks, need_faults of what is no tuple -/
namespace KN
open PySem PySem.Spec PyProof.Rows L2 KG K80 KT KR KC
abbrev sLetMarks : Stmt := topS 54
theorem scLetMk : FnScope ["rig", "shape", "size", "_"] ["rig", "shape"] (defScope sLetMarks) := ⟨rfl, rfl, rfl, by decide +kernel, rfl, by decide +kernel, by decide +kernel⟩
theorem none_of {H H' : Hp} {p : Addr} (S : Same H H') (n : H' p = none) : H p = none := by
  cases h : H p with
  | none => rfl
  | some o =>
    rw [S _ _ h] at n
    cases n
section
variable {P : Program} {w : World} {K : PySem.W.Frag} {mg : Str → Option Value} {base : Heap}
def marksRig (d dz : PyData) : List (NK × V) := marksOf (KR.sizeOf dz).toNat (letRows (valsOf d) (barsOf d))
def spLetMk (P : Program) (w : World) (CR CS : Addr) : Sp := fun vs H Q E => ∃ (v z : V) (d dz : PyData), vs = [v, z] ∧ Dq H v d ∧ Dq H z dz ∧ (∀ p, wrongRig d = some p → Told CR E H "path" p) ∧
  (wrongRig d = none → (isShape (valsOf d) dz = false → ToldV CS E H "value" z) ∧ (isShape (valsOf d) dz = true → ∀ H' p, Same H H' → H p = none → ND P w H' p (marksRig d dz) → Q (.ref p) H'))
theorem ok_letMarks {f fS fR fM CR CS : Addr} {fd fdS fdR fdM : FuncData} (F : Fun K "let_marks" "let_marks" sLetMarks f fd)
    (dS : Dfn K mg "need_shape" fS fdS ["rig", "shape"]) (GS : FnX P w K mg base 8 fS fdS ["rig", "shape"] (spNShape CR CS))
    (dR : Dfn K mg "let_rows" fR fdR ["rig"]) (GR : FnX P w K mg base 8 fR fdR ["rig"] (spLetRows CR))
    (dM : Dfn K mg "lot_marks" fM fdM ["rows", "size"]) (GM : FnOk P w K mg base CX0 2 fM fdM ["rows", "size"] (spMk P w)) : FnX P w K mg base 9 f fd ["rig", "shape"] (spLetMk P w CR CS) := by
  refine fnX_of F scLetMk (fun vs H Q E h => ?_) (fun cdv A outer s H vs Q E hgd hr h => ?_)
  · obtain ⟨v, z, d, dz, rfl, _⟩ := h
    rfl
  · obtain ⟨v, z, d, dz, rfl, hd, hz, qx, qn⟩ := h
    refine ⟨_, pss_cons (ps_asg (pe_callX GS hgd hr (by rfl) dS.gm dS.kp dS.bd (passes_call (takes_of rfl rfl rfl rfl) (fun _ _ _ _ h => h)) (pa_cons (pv 0) (pa_cons (pv 1) pa_nil))) (pg_tup rfl (pgs_cons (pg_name (i := 2) scLetMk.nd rfl (.inl rfl)) (pgs_cons (pg_name (i := 3) scLetMk.nd rfl (.inl rfl)) pgs_nil))))
      (pss_one (ps_ret (pe_call GM (hr.mono (by decide)) (by rfl) dM.gm dM.kp dM.bd .nil pass0 (pa_cons (pe_callX GR hgd hr (by rfl) dR.gm dR.kp dR.bd (passes_call (takes_of rfl rfl rfl rfl) (fun _ _ _ _ h => h)) (pa_cons (pv 0) pa_nil)) (pa_cons (pv 2) pa_nil))))), ?_⟩
    refine ⟨v, rfl, z, rfl, v, z, d, dz, rfl, hd, hz, qx, fun hn => ?_⟩
    obtain ⟨q1, q2⟩ := qn hn
    refine ⟨q1, fun hs H1 S1 => ?_⟩
    have q3 := q2 hs
    obtain ⟨ed, hns, hn1, hl5, hb6, hfit⟩ := rig_right hn
    obtain ⟨ez, hs1, hs3, hsl, hm1, hm2⟩ := shape_right hs
    have hz' := hz
    rw [ez] at hz'
    cases hz' with
    | tup e2 r2 =>
      cases r2 with
      | cons k1 r2 =>
        cases r2 with
        | cons k2 r2 =>
          cases r2
          cases k1
          cases k2
          rename_i a2
          refine ⟨a2, _, rfl, .inl (.inl (S1 _ _ e2)), rfl, _, _, rfl, _, _, rfl, rfl, ?_⟩
          refine ⟨v, rfl, v, d, rfl, Dq.same S1 d v hd, fun p hp => (qx p hp).of S1, fun _ H2 p xs S2 hp hrows => ?_⟩
          have hk : (KR.sizeOf dz) = (((KR.sizeOf dz).toNat : Nat) : Int) := by omega
          refine ⟨.int (KR.sizeOf dz), rfl, p, xs, letRows (valsOf d) (barsOf d), (KR.sizeOf dz).toNat, ?_, .inr hp, hrows, fun r hr => ?_, ?_, by omega, fun H3 p3 S3 n3 hnd => ?_⟩
          · rw [← hk]
            rfl
          · have := letRows_width hr
            omega
          · exact Nat.le_trans (letRows_len hns hl5) (by decide)
          · exact q3 H3 p3 (fun b o e => S3 _ _ (S2 _ _ (S1 _ _ e))) (none_of S1 (none_of S2 n3)) hnd
abbrev sNFaults' : Stmt := topS 44
/-- of what is no tuple of so many things -/
def spNFaults0 (CR CS CF : Addr) : Sp := fun vs H Q E => ∃ (v z x : V) (d dz dx : PyData), vs = [v, z, x] ∧ Dq H v d ∧ Dq H z dz ∧ Dq H x dx ∧ wrongRig d = none ∧ isShape (valsOf d) dz = true ∧ isTup dx 0 (mostOf dz) = false ∧ ToldV CF E H "value" x
theorem ok_nfaults0 {f fN fF fM CR CS CF : Addr} {fd fdN fdF fdM : FuncData} (F : Fun K "need_faults" "need_faults" sNFaults f fd) (O : Ow P w K mg base Any "BadFaults" "value" CF)
    (dN : Dfn K mg "need_shape" fN fdN ["rig", "shape"]) (GN : FnX P w K mg base 8 fN fdN ["rig", "shape"] (spNShape CR CS))
    (dM : Dfn K mg "let_marks" fM fdM ["rig", "shape"]) (GM : FnX P w K mg base 9 fM fdM ["rig", "shape"] (spLetMk P w CR CS))
    (dF : Dfn K mg "is_faults" fF fdF ["rig", "shape", "marks", "value"]) (GF : FnOk P w K mg base CX0 2 fF fdF ["rig", "shape", "marks", "value"] spIsFaults0) : FnX P w K mg base 10 f fd ["rig", "shape", "faults"] (spNFaults0 CR CS CF) := by
  obtain ⟨fI, fdI, iI, tI, F1, bI⟩ := O.ini
  refine fnX_of F scNFaults (fun vs H Q E h => ?_) (fun cdv A outer s H vs Q E hgd hr h => ?_)
  · obtain ⟨v, z, x, d, dz, dx, rfl, _⟩ := h
    rfl
  · obtain ⟨v, z, x, d, dz, dx, rfl, hd, hz, hx, hn, hs, hT, q⟩ := h
    refine ⟨_, pss_cons (ps_expr (pe_callX GN hgd (hr.mono (by decide)) (by rfl) dN.gm dN.kp dN.bd (passes_call (takes_of rfl rfl rfl rfl) (fun _ _ _ _ h => h)) (pa_cons (pv 0) (pa_cons (pv 1) pa_nil))))
      (pss_cons (ps_if (pt_not (pt_val (pe_call GF (hr.mono (by decide)) (by rfl) dF.gm dF.kp dF.bd .nil pass0 (pa_cons (pv 0) (pa_cons (pv 1) (pa_cons (pe_callX GM hgd hr (by rfl) dM.gm dM.kp dM.bd (passes_call (takes_of rfl rfl rfl rfl) (fun _ _ _ _ h => h)) (pa_cons (pv 0) (pa_cons (pv 1) pa_nil))) (pa_cons (pv 2) pa_nil)))))))
          (pss_one (ps_raise rfl (takes_of rfl rfl rfl rfl) (pmk_xG PySem.F.excBase_ValueError O.xb (raises_own O.sb O.ty) iI tI F1 hgd (hr.mono (by decide)) bI (by rfl) O.gm (pa_cons (pv 2) pa_nil)))) pss_nil)
      (pss_one ps_never)), ?_⟩
    have nr : ∀ {E' : XK} {H' : Hp} p, wrongRig d = some p → Told CR E' H' "path" p := fun p hp => by rw [hn] at hp; cases hp
    have ns : ∀ {E' : XK} {H' : Hp}, isShape (valsOf d) dz = false → ToldV CS E' H' "value" z := fun hp => by rw [hs] at hp; cases hp
    refine ⟨v, rfl, z, rfl, v, z, d, dz, rfl, hd, hz, nr, fun _ => ⟨ns, fun _ H1 S1 => ?_⟩⟩
    refine ⟨v, rfl, z, rfl, v, rfl, z, rfl, v, z, d, dz, rfl, Dq.same S1 d v hd, Dq.same S1 dz z hz, nr, fun _ => ⟨ns, fun _ H2 p S2 _ _ => ?_⟩⟩
    have S12 : Same H H2 := fun b o e => S2 b o (S1 b o e)
    refine ⟨x, rfl, v, z, .ref p, x, d, dz, dx, rfl, Dq.same S12 d v hd, Dq.same S12 dz z hz, Dq.same S12 dx x hx, hn, hs, hT, _, rfl, ?_⟩
    refine iteT ?_
    exact ⟨x, rfl, raise_end O stays_any trivial fun dx' H' S' y => q dx' H' (fun b o w => S' b o (S12 b o w)) y⟩
end
end KN

set_option Elab.async false
set_option linter.all false
set_option maxRecDepth 100000
set_option maxHeartbeats 4000000
/-! ### sorted of data, lots_that_can_fail -/
namespace KN
open PySem PySem.Spec PyProof.Rows L2 KG K80 KT KR KC
open PySem.W (AllAlike Sortable dataLe EachIs alike alikeAll)
/-- the datum's order -/
abbrev leD : PyData → PyData → Bool := dataLe false (fun d => d)
theorem dqa_each {X : Cx} {pins : List (Addr × Obj)} {σ : L2.St} {H : Hp} {s : Shared} (I : Inv X pins σ H s) : ∀ {xs : List V} {us : List Value} {ds : List PyData}, Vals xs us → DqA H xs ds →
    EachIs (fun v d => ∃ y, RelV y v ∧ Dq H y d) us ds ∧ EachIs (fun v d => ∃ as, Reads s.heap v d as) us ds := by
  intro xs us ds r
  induction r generalizing ds with
  | nil =>
    intro h
    cases h
    exact ⟨.nil, .nil⟩
  | cons r1 r2 ih =>
    intro h
    cases h with
    | cons h1 h2 =>
      obtain ⟨i1, i2⟩ := ih h2
      obtain ⟨as, h3, _⟩ := Dq.reads I _ _ _ h1 r1
      exact ⟨.cons ⟨_, r1, h1⟩ i1, .cons ⟨as, h3⟩ i2⟩
theorem each_back {H : Hp} : ∀ {us : List Value} {ds : List PyData}, EachIs (fun v d => ∃ y, RelV y v ∧ Dq H y d) us ds → ∃ ys, Vals ys us ∧ DqA H ys ds
  | _, _, .nil => ⟨[], .nil, .nil⟩
  | _, _, .cons ⟨y, h1, h2⟩ t => by
    obtain ⟨ys, r1, r2⟩ := each_back t
    exact ⟨y :: ys, .cons h1 r1, .cons h2 r2⟩
abbrev rSortD (K : PySem.W.Frag) : List V → Hp → VK → Prop := fun vs H Q => ∃ l xs ds, vs = [V.ref l] ∧ SqL K H l xs ∧ DqA H xs ds ∧ AllAlike ds ∧ Sortable ds ∧ (∀ d ∈ ds, d.depth ≤ 16) ∧ ∀ p ys, H p = none → DqA H ys (ds.mergeSort leD) → Q (.ref p) (upd H p (.lst ys))
theorem cr_sortD {X : Cx} (hu : X.A.units + 64 < cLine) : CallR X (.builtin "sorted") (rSortD X.K) := by
  intro pins s σ H vs us Q I r h
  obtain ⟨l, xs, ds, rfl, hs, hd, al, so, dp, q⟩ := h
  obtain ⟨its, rv, hl, hz⟩ := I.list hs
  obtain ⟨u, rfl, ru⟩ := Vals.one r
  obtain rfl : u = Value.ref l := ru
  obtain ⟨e1, e2⟩ := dqa_each I rv hd
  have hlen : its.length = ds.length := e1.length
  have em : ds.map (fun d => d) = ds := List.map_id' ds
  refine PySem.W.sorted_data (enc := fun d => d) hl.isList e1 e2 (by rw [em]; exact al) (by rw [em]; exact so) (by rw [← hlen, ← rv.length]; exact hz) (fun b hb => by have := dp b hb; omega) fun out ho he => ?_
  obtain ⟨ys, r1, r2⟩ := each_back he
  obtain ⟨e, hat⟩ := sortedAll_at s.heap its (List.toArray out)
  have hyl : ys.length ≤ sizeLine := by
    rw [r1.length, ho, ← hlen, ← rv.length]
    exact hz
  exact ⟨.ref (s.heap.objs.size + 1), upd H (s.heap.objs.size + 1) (.lst ys), I.laid (t' := s.toks) (fun b o z => sortedAll_old z) (Nat.le_succ _) ⟨hyl, out, e, r1, hat⟩, rfl, q _ ys (I.hok.fresh (Nat.le_succ _)) r2⟩
end KN

set_option Elab.async false
set_option linter.all false
set_option maxRecDepth 100000
set_option maxHeartbeats 4000000
/-! ### own errors over any base; lots_that_can_fail, count_faults, all_faults that are too many -/
namespace KN
open PySem PySem.Spec PyProof.Rows L2 KG K80 KT KR KC
open PySem.W (AllAlike Sortable dataLe EachIs alike alikeAll)
abbrev oeB : List Value := [.type "OverflowError", .type "ArithmeticError", .type "Exception", .type "BaseException", .type "object"]
/-- an __init__ that keeps one field; ok: what its text asks of the value -/
def spIniG (K : PySem.W.Frag) (newId : String) (bm : List Value) (ok : Hp → V → Prop) (f : Str) : Sp := fun vs H Q _ => ∃ (a C : Addr) (y : V), vs = [.ref a, y] ∧ XB K C newId bm ∧ PySem.W.takerIn K C f = some none ∧ H a = some (exo a C none) ∧ ok H y ∧
  ∀ dx, H dx = none → dx ≠ a → Q .non (upd (upd H dx (exd dx [(f, y)])) a (exo a C (some dx)))
/-- an own error with one field -/
structure OwG (P : Program) (w : World) (K : PySem.W.Frag) (mg : Str → Option Value) (base : Heap) (newId : String) (bm : List Value) (ok : Hp → V → Prop) (x f : Str) (C : Addr) : Prop where
  gm : mg x = some (.ref C)
  xb : XB K C newId bm
  ta : PySem.W.takerIn K C f = some none
  sb : PySem.W.subIn K (.ref C) (.type "BaseException") = some true
  ty : PySem.W.typeIn K (.ref C) = some (.type "type")
  ini : ∃ (fI : Addr) (fd : FuncData), PySem.W.findIn K (.ref C) "__init__" = some (some (.ref fI)) ∧ PySem.W.typeIn K (.ref fI) = some (.type "function") ∧ FnG P w K mg base 1 fI fd ["self", f] (spIniG K newId bm ok f) ∧ Binds K fd ["self", f] []
theorem OwG.ow {P : Program} {w : World} {K : PySem.W.Frag} {mg : Str → Option Value} {base : Heap} {ok : Hp → V → Prop} {x f : Str} {C : Addr} (O : OwG P w K mg base "ValueError.__new__" KR.ve ok x f C) : Ow P w K mg base ok x f C :=
  ⟨O.gm, O.xb, O.ta, O.sb, O.ty, O.ini⟩
section
variable {P : Program} {w : World} {K : PySem.W.Frag} {mg : Str → Option Value} {base : Heap} {x f : Str} {C : Addr} {ok : Hp → V → Prop} {E : XK} {newId : String} {bm : List Value}
theorem raise_endG (O : OwG P w K mg base newId bm ok x f C) (so : Stays ok) {H1 : Hp} {y : V} (h : ok H1 y) (q : ∀ dx H', Same H1 H' → H' dx = some (.xd [(f, y)]) → E (.ref C) (some dx) H') :
    [y].length ≤ 1000 ∧ ∀ a, H1 a = none → spIniG K newId bm ok f (.ref a :: [y]) (upd H1 a (exo a C none)) (fun v H2 => v = .non ∧ ∃ (d : Addr) (fs : List (Str × V)), H2 a = some (exo a C (some d)) ∧ H2 d = some (exd d fs) ∧ H1 d = none ∧ E (.ref C) (some d) (upd (del H2 a) d (.xd fs))) E0 := by
  refine ⟨by show 1 ≤ 1000; decide, fun a n => ⟨a, C, y, rfl, O.xb, O.ta, upd_same, so _ _ _ (same_upd n) h, fun dx n2 ne => ⟨rfl, dx, [(f, y)], upd_same, ?_, ?_, q dx _ (fun b o e => ?_) upd_same⟩⟩⟩
  · rw [upd_ne ne]
    exact upd_same
  · rw [upd_ne ne] at n2
    exact n2
  · have hb : b ≠ a := fun z => by rw [z, n] at e; cases e
    have n3 : H1 dx = none := by
      rw [upd_ne ne] at n2
      exact n2
    have hd : b ≠ dx := fun z => by rw [z, n3] at e; cases e
    rw [upd_ne hd, del_ne hb, upd_ne hb, upd_ne hd, upd_ne hb]
    exact e
end
/-! the keys of the marks -/
def LotKeys (k : Nat) (kvs : List (NK × V)) : Prop := ∀ p ∈ kvs, ∃ ps : Lot, p.1 = lotK ps ∧ ps.length = k
theorem putK_keys {kvs : List (NK × V)} {k : NK} {v : V} : ∀ p ∈ putK kvs k v, p.1 = k ∨ ∃ q ∈ kvs, p.1 = q.1 := by
  unfold putK
  split
  · intro p hp
    obtain ⟨q, hq, rfl⟩ := List.mem_map.mp hp
    by_cases e : q.1 = k
    · rw [if_pos e]
      exact .inl e
    · rw [if_neg e]
      exact .inr ⟨q, hq, rfl⟩
  · intro p hp
    rcases List.mem_append.mp hp with z | z
    · exact .inr ⟨p, z, rfl⟩
    · rw [List.mem_singleton.mp z]
      exact .inl rfl
theorem putK_has {kvs : List (NK × V)} {k : NK} {v : V} : k ∈ (putK kvs k v).map (·.1) ∧ ∀ k' ∈ kvs.map (·.1), k' ∈ (putK kvs k v).map (·.1) := by
  unfold putK
  split
  · rename_i h
    have e : (kvs.map fun kv => if kv.1 = k then (kv.1, v) else kv).map (·.1) = kvs.map (·.1) := by
      rw [List.map_map]
      refine List.map_congr_left fun p _ => ?_
      show (if p.1 = k then (p.1, v) else p).1 = p.1
      split <;> rfl
    rw [e]
    rw [List.any_eq_true] at h
    obtain ⟨p, hp, hk⟩ := h
    exact ⟨List.mem_map.mpr ⟨p, hp, of_decide_eq_true hk⟩, fun _ h => h⟩
  · rw [List.map_append]
    exact ⟨List.mem_append_right _ (List.mem_singleton.mpr rfl), fun k' h => List.mem_append_left _ h⟩
theorem putK_nodup {kvs : List (NK × V)} {k : NK} {v : V} (h : (kvs.map (·.1)).Nodup) : ((putK kvs k v).map (·.1)).Nodup := by
  unfold putK
  split
  · have e : (kvs.map fun kv => if kv.1 = k then (kv.1, v) else kv).map (·.1) = kvs.map (·.1) := by
      rw [List.map_map]
      refine List.map_congr_left fun p _ => ?_
      show (if p.1 = k then (p.1, v) else p).1 = p.1
      split <;> rfl
    rw [e]
    exact h
  · rename_i h2
    rw [List.map_append, List.nodup_append]
    refine ⟨h, by simp, fun a ha b hb => ?_⟩
    have eb : b = k := by simpa using hb
    subst eb
    intro e
    subst e
    obtain ⟨p, hp, hk⟩ := List.mem_map.mp ha
    exact h2 (List.any_eq_true.mpr ⟨p, hp, decide_eq_true hk⟩)
theorem step_keys {n : Nat} {kk : Nat} : ∀ (ls : List Lot) {kvs : List (NK × V)}, (∀ ps ∈ ls, ps.length = kk) → LotKeys kk kvs → LotKeys kk (ls.foldl (stepLot n) kvs)
  | [], _, _, h => h
  | ps :: ls, kvs, hl, h => step_keys ls (fun q hq => hl q (List.mem_cons_of_mem _ hq)) fun p hp => by
    rcases putK_keys p hp with e | ⟨q, hq, e⟩
    · exact ⟨ps, e, hl ps List.mem_cons_self⟩
    · rw [e]
      exact h q hq
theorem step_has {n : Nat} : ∀ (ls : List Lot) (kvs : List (NK × V)), (∀ ps ∈ ls, lotK ps ∈ (ls.foldl (stepLot n) kvs).map (·.1)) ∧ ∀ k ∈ kvs.map (·.1), k ∈ (ls.foldl (stepLot n) kvs).map (·.1)
  | [], kvs => ⟨fun _ h => (nomatch h), fun _ h => h⟩
  | p :: ls, kvs => by
    obtain ⟨i1, i2⟩ := step_has (n := n) ls (stepLot n kvs p)
    obtain ⟨h1, h2⟩ := putK_has (kvs := kvs) (k := lotK p) (v := V.int (Builtin.bitOr (ival ((valV kvs (lotK p)).getD (.int 0))) (1 * 2 ^ n)))
    refine ⟨fun ps hps => ?_, fun k hk => i2 _ (h2 _ hk)⟩
    rcases List.mem_cons.mp hps with e | e
    · rw [e]
      exact i2 _ h1
    · exact i1 ps e
theorem step_nodup {n : Nat} : ∀ (ls : List Lot) {kvs : List (NK × V)}, (kvs.map (·.1)).Nodup → ((ls.foldl (stepLot n) kvs).map (·.1)).Nodup
  | [], _, h => h
  | _ :: ls, _, h => step_nodup ls (putK_nodup h)
theorem pick_len {r : List Int} {c : List Nat} : (pickRow r c).length = c.length := List.length_map _
theorem lotsOfRow_size {r : List Int} {k : Nat} (h5 : r.length ≤ 5) (hk : k ≤ 5) : ∀ ps ∈ lotsOfRow r k, ps.length = k := fun ps hps => by
  obtain ⟨c, hc, rfl⟩ := List.mem_map.mp hps
  rw [pick_len]
  exact (combs_in _ _ h5 hk c hc).1
theorem rows_fold {k : Nat} (hk : k ≤ 5) : ∀ (l : List (List Int × Nat)) (kvs : List (NK × V)), (∀ p ∈ l, p.1.length ≤ 5) → LotKeys k kvs → (kvs.map (·.1)).Nodup →
    LotKeys k (l.foldl (stepRow k) kvs) ∧ ((l.foldl (stepRow k) kvs).map (·.1)).Nodup ∧ (∀ key ∈ kvs.map (·.1), key ∈ (l.foldl (stepRow k) kvs).map (·.1)) ∧ ∀ p ∈ l, ∀ ps ∈ lotsOfRow p.1 k, lotK ps ∈ (l.foldl (stepRow k) kvs).map (·.1)
  | [], kvs, _, h1, h2 => ⟨h1, h2, fun _ h => h, fun _ h => (nomatch h)⟩
  | p :: l, kvs, h5, h1, h2 => by
    have g1 : LotKeys k (stepRow k kvs p) := step_keys _ (lotsOfRow_size (h5 p List.mem_cons_self) hk) h1
    have g2 : ((stepRow k kvs p).map (·.1)).Nodup := step_nodup _ h2
    obtain ⟨g3, g4⟩ := step_has (n := p.2) (lotsOfRow p.1 k) kvs
    obtain ⟨i1, i2, i3, i4⟩ := rows_fold hk l (stepRow k kvs p) (fun q hq => h5 q (List.mem_cons_of_mem _ hq)) g1 g2
    refine ⟨i1, i2, fun key hkey => i3 _ (g4 _ hkey), fun q hq ps hps => ?_⟩
    rcases List.mem_cons.mp hq with e | e
    · rw [e] at hps
      exact i3 _ (g3 ps hps)
    · exact i4 q e ps hps
theorem marks_keys {k : Nat} (hk : k ≤ 5) {rows : List (List Int)} (h5 : ∀ r ∈ rows, r.length ≤ 5) : LotKeys k (marksOf k rows) ∧ ((marksOf k rows).map (·.1)).Nodup ∧ ∀ r ∈ rows, ∀ ps ∈ lotsOfRow r k, lotK ps ∈ (marksOf k rows).map (·.1) := by
  have h5' : ∀ p ∈ rows.zipIdx, p.1.length ≤ 5 := fun p hp => h5 _ (List.fst_mem_of_mem_zipIdx hp)
  obtain ⟨i1, i2, _, i4⟩ := rows_fold hk rows.zipIdx [] h5' (fun _ h => (nomatch h)) List.nodup_nil
  refine ⟨i1, i2, fun r hr ps hps => ?_⟩
  obtain ⟨i, hi⟩ := List.getElem?_of_mem hr
  have hz : (r, i) ∈ rows.zipIdx := by
    rw [List.mem_zipIdx_iff_getElem?]
    exact hi
  exact i4 _ hz ps hps
theorem alike_lots : ∀ ps qs : Lot, alike (lotD ps) (lotD qs) = true := by
  have h : ∀ ps qs : Lot, alikeAll (ps.map fun p => PyData.tuple [.int p.1, .int p.2]) (qs.map fun p => PyData.tuple [.int p.1, .int p.2]) = true := by
    intro ps
    induction ps with
    | nil => intro qs; simp [alikeAll]
    | cons p ps ih =>
      intro qs
      cases qs with
      | nil => simp [alikeAll]
      | cons q qs =>
        have z := ih qs
        simp only [List.map_cons, alikeAll, alike, Bool.and_true, Bool.and_self, Bool.true_and]
        exact z
  intro ps qs
  show alike (.tuple _) (.tuple _) = true
  rw [alike]
  exact h ps qs
theorem lotD_depth (ps : Lot) : (lotD ps).depth ≤ 16 := by
  have h : ∀ ps : Lot, PyData.depthAll (ps.map fun p => PyData.tuple [.int p.1, .int p.2]) ≤ 1 := by
    intro ps
    induction ps with
    | nil => exact Nat.zero_le _
    | cons p ps ih =>
      simp only [List.map_cons, PyData.depthAll, PyData.depth]
      omega
  show PyData.depth (.tuple _) ≤ 16
  simp only [PyData.depth]
  have := h ps
  omega
def canFail (d dz : PyData) : List PyData := ((marksRig d dz).map fun p => p.1.data).mergeSort leD
theorem canFail_len (d dz : PyData) : (canFail d dz).length = (marksRig d dz).length := by
  unfold canFail
  rw [List.length_mergeSort, List.length_map]
abbrev sCanFail : Stmt := topS 55
abbrev sCount : Stmt := topS 57
abbrev sAll : Stmt := topS 58
theorem scCan : FnScope ["rig", "shape"] ["rig", "shape"] (defScope sCanFail) := ⟨rfl, rfl, rfl, by decide +kernel, rfl, by decide +kernel, by decide +kernel⟩
theorem scCount : FnScope ["many_lots", "most"] ["many_lots", "most"] (defScope sCount) := ⟨rfl, rfl, rfl, by decide +kernel, rfl, by decide +kernel, by decide +kernel⟩
theorem scAll : FnScope ["rig", "shape", "lots", "_", "most", "found", "number", "lot"] ["rig", "shape"] (defScope sAll) := ⟨rfl, rfl, rfl, by decide +kernel, rfl, by decide +kernel, by decide +kernel⟩
def cnt (n m : Int) : Int := if m = 1 then 1 + n else 1 + n + n * (n - 1) / 2
section
variable {P : Program} {w : World} {K : PySem.W.Frag} {mg : Str → Option Value} {base : Heap}
def spCan (CR CS : Addr) : Sp := fun vs H Q E => ∃ (v z : V) (d dz : PyData), vs = [v, z] ∧ Dq H v d ∧ Dq H z dz ∧ (∀ p, wrongRig d = some p → Told CR E H "path" p) ∧
  (wrongRig d = none → (isShape (valsOf d) dz = false → ToldV CS E H "value" z) ∧ (isShape (valsOf d) dz = true → ∀ H' p ys, Same H H' → H' p = some (.tup ys) → DqA H' ys (canFail d dz) → Q (.ref p) H'))
theorem ok_can {f fM CR CS : Addr} {fd fdM : FuncData} (F : Fun K "lots_that_can_fail" "lots_that_can_fail" sCanFail f fd)
    (dM : Dfn K mg "let_marks" fM fdM ["rig", "shape"]) (GM : FnX P w K mg base 9 fM fdM ["rig", "shape"] (spLetMk P w CR CS)) (zt : mg "tuple" = none) (zs : mg "sorted" = none) (zl : mg "list" = none) : FnX P w K mg base 10 f fd ["rig", "shape"] (spCan CR CS) := by
  refine fnX_of F scCan (fun vs H Q E h => ?_) (fun cdv A outer s H vs Q E hgd hr h => ?_)
  · obtain ⟨v, z, d, dz, rfl, _⟩ := h
    rfl
  · obtain ⟨v, z, d, dz, rfl, hd, hz, qx, qn⟩ := h
    refine ⟨_, pss_one (ps_ret (pe_callTy call_tuple_of (by rfl) zt (by decide +kernel) (pa_cons (pe_callB (cr_sortD hr.units) (by rfl) zs (by decide +kernel) (pa_cons (pe_callTy (call_list_nd rfl) (by rfl) zl (by decide +kernel)
      (pa_cons (pe_callX GM hgd hr (by rfl) dM.gm dM.kp dM.bd (passes_call (takes_of rfl rfl rfl rfl) (fun _ _ _ _ h => h)) (pa_cons (pv 0) (pa_cons (pv 1) pa_nil))) pa_nil)) pa_nil)) pa_nil))), ?_⟩
    refine ⟨v, rfl, z, rfl, v, z, d, dz, rfl, hd, hz, qx, fun hn => ⟨(qn hn).1, fun hs H1 p S1 n1 hnd => ?_⟩⟩
    have q := (qn hn).2 hs
    obtain ⟨_, hns, _, hl5, _, _⟩ := rig_right hn
    obtain ⟨_, hs1, hs3, _, _, _⟩ := shape_right hs
    have hmk := marks_keys (k := (KR.sizeOf dz).toNat) (by omega) (rows := letRows (valsOf d) (barsOf d)) (fun r hr => by rw [letRows_width hr]; exact hl5)
    have key : ∀ x ∈ (marksRig d dz).map (fun p => p.1.data), ∃ ps : Lot, x = lotD ps ∧ ps.length = (KR.sizeOf dz).toNat := fun x hx => by
      obtain ⟨p, hp, rfl⟩ := List.mem_map.mp hx
      obtain ⟨ps, e, hl⟩ := hmk.1 p hp
      exact ⟨ps, by rw [e, lotK_data], hl⟩
    refine ⟨p, marksRig d dz, rfl, hnd, fun l xs nl hxs => ?_⟩
    have kt : KeepT H1 (upd H1 l (.lst xs)) := KeepT.of (same_upd nl)
    refine ⟨l, xs, _, rfl, .inl (.inl upd_same), DqA.same' (same_upd nl) hxs, fun a ha b hb => ?_, .inl fun a ha => ?_, fun a ha => ?_, fun p2 ys n2 hys => ?_⟩
    · obtain ⟨ps, rfl, _⟩ := key a ha
      obtain ⟨qs, rfl, _⟩ := key b hb
      exact alike_lots ps qs
    · obtain ⟨ps, rfl, hl⟩ := key a ha
      cases ps with
      | nil =>
        have : 0 = (KR.sizeOf dz).toNat := hl
        omega
      | cons p ps => exact ⟨_, _, rfl⟩
    · obtain ⟨ps, rfl, _⟩ := key a ha
      exact lotD_depth ps
    · refine ⟨p2, ys, rfl, .inl ⟨.inl (.inl upd_same), fun l2 n3 => ?_⟩⟩
      refine q _ l2 ys (fun b o e => same_upd n3 _ _ (same_upd n2 _ _ (same_upd nl _ _ (S1 b o e)))) upd_same ?_
      exact DqA.same' (same_upd n3) (DqA.same' (same_upd n2) hys)
def spCount : Sp := fun vs H Q _ => ∃ n m : Int, vs = [.int n, .int m] ∧ 0 ≤ n ∧ n < 1000000 ∧ Q (.int (cnt n m)) H
theorem ok_count {f : Addr} {fd : FuncData} {k : Nat} (F : Fun K "count_faults" "count_faults" sCount f fd) : FnOk P w K mg base CX0 (k + 1) f fd ["many_lots", "most"] spCount := by
  refine F.ok scCount (fun vs H Q E h => ?_) (fun cdv A outer s H vs Q E hr h => ?_)
  · obtain ⟨n, m, rfl, _⟩ := h
    rfl
  · obtain ⟨n, m, rfl, h0, h1, q⟩ := h
    refine ⟨_, pss_cons (ps_if (pt_cmpR op_eq (pv 1) pe_int (nomark _)) (pss_one (ps_ret (pe_op op_add pe_int (pv 0)))) pss_nil)
      (pss_one (ps_ret (pe_op op_add (pe_op op_add pe_int (pv 0)) (pe_op op_fdiv (pe_op op_mul (pv 0) (pe_op op_sub (pv 0) pe_int)) pe_int)))), ?_⟩
    refine ⟨_, rfl, rfl, _, rfl, ?_⟩
    refine ite2 (fun h => ?_) (fun h => ?_)
    · have hm : m = 1 := by simpa using h
      refine ⟨_, rfl, _, _, rfl, rfl, ?_⟩
      unfold cnt at q
      rw [if_pos hm] at q
      exact q
    · have hm : ¬ m = 1 := by simpa using h
      refine ⟨_, rfl, _, _, rfl, rfl, _, rfl, _, rfl, _, _, rfl, rfl, _, _, rfl, rfl, .inl (by constructor <;> omega), _, _, rfl, rfl, ⟨by decide, by decide⟩, _, _, rfl, rfl, ?_⟩
      unfold cnt at q
      rw [if_neg hm] at q
      exact q
/-- of a rig and a shape with too many faults -/
def spAll0 (CG : Addr) : Sp := fun vs H Q E => ∃ (v z : V) (d dz : PyData), vs = [v, z] ∧ Dq H v d ∧ Dq H z dz ∧ wrongRig d = none ∧ isShape (valsOf d) dz = true ∧ (marksRig d dz).length < 1000000 ∧ 2000 < cnt ((marksRig d dz).length : Int) (mostOf dz) ∧
  ∀ (dx : Addr) (H' : Hp), Same H H' → H' dx = some (.xd [("most", .int 2000)]) → E (.ref CG) (some dx) H'
theorem shw_2000 : Shw (.int 2000) := ⟨by decide +kernel, by decide +kernel, by decide +kernel, fun y e => nomatch e⟩
theorem ok_all0 {f fC fN CR CS CG : Addr} {fd fdC fdN : FuncData} {tk : Tok} (F : Fun K "all_faults" "all_faults" sAll f fd) (O : OwG P w K mg base "OverflowError.__new__" oeB Okd "TooGreat" "most" CG)
    (dC : Dfn K mg "lots_that_can_fail" fC fdC ["rig", "shape"]) (GC : FnX P w K mg base 10 fC fdC ["rig", "shape"] (spCan CR CS))
    (dN : Dfn K mg "count_faults" fN fdN ["many_lots", "most"]) (GN : FnOk P w K mg base CX0 1 fN fdN ["many_lots", "most"] spCount) (gM : mg "MOST_FAULTS" = some (.int 2000 tk)) (zl : mg "len" = none) : FnX P w K mg base 11 f fd ["rig", "shape"] (spAll0 CG) := by
  obtain ⟨fI, fdI, iI, tI, F1, bI⟩ := O.ini
  refine fnX_of F scAll (fun vs H Q E h => ?_) (fun cdv A outer s H vs Q E hgd hr h => ?_)
  · obtain ⟨v, z, d, dz, rfl, _⟩ := h
    rfl
  · obtain ⟨v, z, d, dz, rfl, hd, hz, hn, hs, hm, h2, q⟩ := h
    refine ⟨_, pss_cons (ps_set (i := 2) scAll.nd rfl (.inl rfl) (pe_callX GC hgd hr (by rfl) dC.gm dC.kp dC.bd (passes_call (takes_of rfl rfl rfl rfl) (fun _ _ _ _ h => h)) (pa_cons (pv 0) (pa_cons (pv 1) pa_nil))))
      (pss_cons (ps_asg (pv 1) (pg_tup rfl (pgs_cons (pg_name (i := 3) scAll.nd rfl (.inl rfl)) (pgs_cons (pg_name (i := 4) scAll.nd rfl (.inl rfl)) pgs_nil))))
      (pss_cons (ps_if (pt_cmpR op_gt (pe_call GN (hr.mono (by decide)) (by rfl) dN.gm dN.kp dN.bd .nil pass0 (pa_cons (pe_callB call_len_seq (by rfl) zl PySem.boot_len (pa_cons (pv 2) pa_nil)) (pa_cons (pv 4) pa_nil))) (pe_glob rfl gM (v := .int 2000) ⟨_, rfl⟩) (nomark _))
          (pss_one (ps_raise rfl (takes_of rfl rfl rfl rfl) (pmk_xG PySem.F.excBase_OverflowError O.xb (raises_own O.sb O.ty) iI tI F1 hgd (hr.mono (by decide)) bI (by rfl) O.gm (pa_cons (pe_glob rfl gM (v := .int 2000) ⟨_, rfl⟩) pa_nil)))) pss_nil)
      (pss_cons ps_never (pss_cons ps_never (pss_one ps_never))))), ?_⟩
    have nr : ∀ {E' : XK} {H' : Hp} p, wrongRig d = some p → Told CR E' H' "path" p := fun p hp => by rw [hn] at hp; cases hp
    have ns : ∀ {E' : XK} {H' : Hp}, isShape (valsOf d) dz = false → ToldV CS E' H' "value" z := fun hp => by rw [hs] at hp; cases hp
    refine ⟨v, rfl, z, rfl, v, z, d, dz, rfl, hd, hz, nr, fun _ => ⟨ns, fun _ H1 p ys S1 hp hys => ?_⟩⟩
    obtain ⟨ez, _⟩ := shape_right hs
    have hz1 := Dq.same S1 dz z hz
    rw [ez] at hz1
    cases hz1 with
    | tup e2 r2 =>
      cases r2 with
      | cons k1 r2 =>
        cases r2 with
        | cons k2 r2 =>
          cases r2
          cases k1
          cases k2
          rename_i a2
          have hyl : ys.length = (marksRig d dz).length := by rw [DqA.len hys, canFail_len]
          refine ⟨.ref a2, rfl, a2, _, rfl, .inl (.inl e2), rfl, _, _, rfl, _, _, rfl, rfl, ?_⟩
          refine ⟨.ref p, rfl, p, ys, rfl, .inr (.inl (.inl hp)), .int (mostOf dz), rfl, (ys.length : Int), mostOf dz, rfl, by omega, by omega, _, _, rfl, rfl, _, rfl, ?_⟩
          rw [hyl]
          have hd2 : decide ((2000 : Int) < cnt ((marksRig d dz).length : Int) (mostOf dz)) = true := decide_eq_true h2
          rw [hd2]
          refine iteT ?_
          exact raise_endG O stays_okd ⟨.int 2000, .int 2000, shw_2000⟩ fun dx H' S' y => q dx H' (fun b o e => S' b o (S1 b o e)) y
end
end KN

set_option Elab.async false
set_option linter.all false
set_option maxRecDepth 100000
set_option maxHeartbeats 4000000
/-! ### the program's calls that raise -/
namespace KN
open PySem PySem.Spec PyProof.Rows L2 KG K80 KT KR KC
abbrev sNNum : Stmt := topS 19
abbrev sNRows : Stmt := topS 46
abbrev sIsOut : Stmt := topS 48
abbrev sNHeard : Stmt := topS 49
abbrev sNWrong : Stmt := topS 50
abbrev sFail : Stmt := topS 61
abbrev sLeast : Stmt := topS 68
abbrev sForm : Stmt := topS 70
abbrev sNames : Stmt := topS 75
abbrev sBears : Stmt := topS 76
abbrev sCheck : Stmt := topS 79
theorem scNNum : FnScope ["value", "least", "most"] ["value", "least", "most"] (defScope sNNum) := ⟨rfl, rfl, rfl, by decide +kernel, rfl, by decide +kernel, by decide +kernel⟩
theorem scNRows : FnScope ["rig", "shape", "suite"] ["rig", "shape", "suite"] (defScope sNRows) := ⟨rfl, rfl, rfl, by decide +kernel, rfl, by decide +kernel, by decide +kernel⟩
theorem scIsOut : FnScope ["suite", "value", "outcome"] ["suite", "value"] (defScope sIsOut) := ⟨rfl, rfl, rfl, by decide +kernel, rfl, by decide +kernel, by decide +kernel⟩
theorem scNHeard : FnScope ["suite", "heard"] ["suite", "heard"] (defScope sNHeard) := ⟨rfl, rfl, rfl, by decide +kernel, rfl, by decide +kernel, by decide +kernel⟩
theorem scNWrong : FnScope ["wrong"] ["wrong"] (defScope sNWrong) := ⟨rfl, rfl, rfl, by decide +kernel, rfl, by decide +kernel, by decide +kernel⟩
theorem scFail : FnScope ["rig", "shape", "faults", "row"] ["rig", "shape", "faults"] (defScope sFail) := ⟨rfl, rfl, rfl, by decide +kernel, rfl, by decide +kernel, by decide +kernel⟩
theorem scLeast : FnScope ["rig", "shape", "suite", "heard", "missed", "rows"] ["rig", "shape", "suite", "heard"] (defScope sLeast) := ⟨rfl, rfl, rfl, by decide +kernel, rfl, by decide +kernel, by decide +kernel⟩
theorem scForm : FnScope ["paper", "word", "many"] ["paper", "word", "many"] (defScope sForm) := ⟨rfl, rfl, rfl, by decide +kernel, rfl, by decide +kernel, by decide +kernel⟩
theorem scNames : FnScope ["rig", "shape", "suite", "signs"] ["rig", "shape", "suite"] (defScope sNames) := ⟨rfl, rfl, rfl, by decide +kernel, rfl, by decide +kernel, by decide +kernel⟩
theorem scBears : FnScope ["rig", "shape", "suite", "wrong"] ["rig", "shape", "suite", "wrong"] (defScope sBears) := ⟨rfl, rfl, rfl, by decide +kernel, rfl, by decide +kernel, by decide +kernel⟩
theorem scCheck : FnScope ["rig", "shape", "suite", "wrong", "paper"] ["rig", "shape", "suite", "wrong", "paper"] (defScope sCheck) := ⟨rfl, rfl, rfl, by decide +kernel, rfl, by decide +kernel, by decide +kernel⟩
section
variable {P : Program} {w : World} {K : PySem.W.Frag} {mg : Str → Option Value} {base : Heap}
def spNNum (CN : Addr) : Sp := fun vs H Q E => ∃ (x : V) (d : PyData) (lo hi : Int), vs = [x, .int lo, .int hi] ∧ Dq H x d ∧ (isNum d lo hi = false → ToldV CN E H "value" x) ∧ (isNum d lo hi = true → Q x H)
theorem ok_nnum {f fN CN : Addr} {fd fdN : FuncData} (F : Fun K "need_number" "need_number" sNNum f fd) (O : Ow P w K mg base Any "BadNumber" "value" CN)
    (dN : Dfn K mg "is_number" fN fdN ["value", "least", "most"]) (GN : FnOk P w K mg base CX0 1 fN fdN ["value", "least", "most"] spNum) : FnX P w K mg base 3 f fd ["value", "least", "most"] (spNNum CN) := by
  obtain ⟨fI, fdI, iI, tI, F1, bI⟩ := O.ini
  refine fnX_of F scNNum (fun vs H Q E h => ?_) (fun cdv A outer s H vs Q E hgd hr h => ?_)
  · obtain ⟨x, d, lo, hi, rfl, _⟩ := h
    rfl
  · obtain ⟨x, d, lo, hi, rfl, hd, q1, q2⟩ := h
    refine ⟨_, pss_cons (ps_if (pt_not (pt_val (pe_call GN (hr.mono (by decide)) (by rfl) dN.gm dN.kp dN.bd .nil pass0 (pa_cons (pv 0) (pa_cons (pv 1) (pa_cons (pv 2) pa_nil)))))) (pss_one (ps_raise rfl (takes_of rfl rfl rfl rfl) (pmk_xG PySem.F.excBase_ValueError O.xb (raises_own O.sb O.ty) iI tI F1 hgd (hr.mono (by decide)) bI (by rfl) O.gm (pa_cons (pv 0) pa_nil)))) pss_nil)
      (pss_one (ps_ret (pv 0))), ?_⟩
    refine ⟨x, rfl, _, rfl, _, rfl, x, d, lo, hi, rfl, hd, _, rfl, ?_⟩
    cases hN : isNum d lo hi with
    | false =>
      refine iteT ?_
      exact ⟨x, rfl, raise_end O stays_any trivial fun dx' H' S' y => q1 hN dx' H' S' y⟩
    | true =>
      refine iteF ?_
      exact ⟨x, rfl, q2 hN⟩
def spNWrong (CN : Addr) : Sp := fun vs H Q E => ∃ (x : V) (d : PyData), vs = [x] ∧ Dq H x d ∧ (isNum d 0 5 = false → ToldV CN E H "value" x) ∧ (isNum d 0 5 = true → Q x H)
theorem ok_nwrong {f fN CN : Addr} {fd fdN : FuncData} {tk : Tok} (F : Fun K "need_wrong" "need_wrong" sNWrong f fd)
    (dN : Dfn K mg "need_number" fN fdN ["value", "least", "most"]) (GN : FnX P w K mg base 3 fN fdN ["value", "least", "most"] (spNNum CN)) (gM : mg "MOST_WRONG" = some (.int 5 tk)) : FnX P w K mg base 4 f fd ["wrong"] (spNWrong CN) := by
  refine fnX_of F scNWrong (fun vs H Q E h => ?_) (fun cdv A outer s H vs Q E hgd hr h => ?_)
  · obtain ⟨x, d, rfl, _⟩ := h
    rfl
  · obtain ⟨x, d, rfl, hd, q1, q2⟩ := h
    refine ⟨_, pss_one (ps_ret (pe_callX GN hgd hr (by rfl) dN.gm dN.kp dN.bd (passes_call (takes_of rfl rfl rfl rfl) (fun _ _ _ _ h => h)) (pa_cons (pv 0) (pa_cons pe_int (pa_cons (pe_glob rfl gM (v := .int 5) ⟨_, rfl⟩) pa_nil))))), ?_⟩
    exact ⟨x, rfl, x, d, 0, 5, rfl, hd, q1, q2⟩
def spNRows (CR CS CU : Addr) : Sp := fun vs H Q E => ∃ (v z x : V) (d dz dx : PyData), vs = [v, z, x] ∧ Dq H v d ∧ Dq H z dz ∧ Dq H x dx ∧ (∀ p, wrongRig d = some p → Told CR E H "path" p) ∧
  (wrongRig d = none → (isShape (valsOf d) dz = false → ToldV CS E H "value" z) ∧ (isShape (valsOf d) dz = true → (∀ p, wrongSuite d dx = some p → Told CU E H "place" p) ∧ (wrongSuite d dx = none → ∀ H', Same H H' → Q x H')))
theorem ok_nrows {f fS fU CR CS CU : Addr} {fd fdS fdU : FuncData} (F : Fun K "need_rows" "need_rows" sNRows f fd)
    (dS : Dfn K mg "need_shape" fS fdS ["rig", "shape"]) (GS : FnX P w K mg base 8 fS fdS ["rig", "shape"] (spNShape CR CS))
    (dU : Dfn K mg "need_suite" fU fdU ["rig", "suite"]) (GU : FnX P w K mg base 9 fU fdU ["rig", "suite"] (spNSuite CR CU)) : FnX P w K mg base 10 f fd ["rig", "shape", "suite"] (spNRows CR CS CU) := by
  refine fnX_of F scNRows (fun vs H Q E h => ?_) (fun cdv A outer s H vs Q E hgd hr h => ?_)
  · obtain ⟨v, z, x, d, dz, dx, rfl, _⟩ := h
    rfl
  · obtain ⟨v, z, x, d, dz, dx, rfl, hd, hz, hx, qx, qn⟩ := h
    refine ⟨_, pss_cons (ps_expr (pe_callX GS hgd (hr.mono (by decide)) (by rfl) dS.gm dS.kp dS.bd (passes_call (takes_of rfl rfl rfl rfl) (fun _ _ _ _ h => h)) (pa_cons (pv 0) (pa_cons (pv 1) pa_nil))))
      (pss_one (ps_ret (pe_callX GU hgd hr (by rfl) dU.gm dU.kp dU.bd (passes_call (takes_of rfl rfl rfl rfl) (fun _ _ _ _ h => h)) (pa_cons (pv 0) (pa_cons (pv 2) pa_nil))))), ?_⟩
    refine ⟨v, rfl, z, rfl, v, z, d, dz, rfl, hd, hz, qx, fun hn => ⟨(qn hn).1, fun hs H1 S1 => ?_⟩⟩
    obtain ⟨q1, q2⟩ := (qn hn).2 hs
    refine ⟨v, rfl, x, rfl, v, x, d, dx, rfl, Dq.same S1 d v hd, Dq.same S1 dx x hx, fun p hp => (qx p hp).of S1, fun _ => ⟨fun p hp => (q1 p hp).of S1, fun hw H2 S2 => q2 hw H2 fun b o e => S2 b o (S1 b o e)⟩⟩
/-- of what is no tuple of so many -/
def spIsOut0 : Sp := fun vs H Q _ => ∃ (a : Addr) (xs : List V) (x : V) (d : PyData), vs = [.ref a, x] ∧ (H a = some (.lst xs) ∨ H a = some (.tup xs)) ∧ Dq H x d ∧ isTup d xs.length xs.length = false ∧ Q (.bl false) H
theorem ok_isOut0 {f fT : Addr} {fd fdT : FuncData} (F : Fun K "is_outcomes" "is_outcomes" sIsOut f fd)
    (dT : Dfn K mg "is_tuple" fT fdT ["value", "least", "most"]) (GT : FnOk P w K mg base CX0 1 fT fdT ["value", "least", "most"] spTup) (zl : mg "len" = none) : FnOk P w K mg base CX0 2 f fd ["suite", "value"] spIsOut0 := by
  refine F.ok scIsOut (fun vs H Q E h => ?_) (fun cdv A outer s H vs Q E hr h => ?_)
  · obtain ⟨a, xs, x, d, rfl, _⟩ := h
    rfl
  · obtain ⟨a, xs, x, d, rfl, ha, hd, hT, q⟩ := h
    refine ⟨_, pss_cons (ps_if (pt_not (pt_val (pe_call GT hr (by rfl) dT.gm dT.kp dT.bd .nil pass0 (pa_cons (pv 1) (pa_cons (pe_callB call_len_seq (by rfl) zl PySem.boot_len (pa_cons (pv 0) pa_nil)) (pa_cons (pe_callB call_len_seq (by rfl) zl PySem.boot_len (pa_cons (pv 0) pa_nil)) pa_nil)))))) (pss_one (ps_ret pe_bl)) pss_nil) (pss_one ps_never), ?_⟩
    have hl : SqL K H a xs ∨ SqT K H a xs := ha.imp (fun e => .inl (.inl e)) (fun e => .inl (.inl e))
    refine ⟨x, rfl, .ref a, rfl, a, xs, rfl, hl, .ref a, rfl, a, xs, rfl, hl, x, d, _, _, rfl, hd, _, rfl, ?_⟩
    rw [hT]
    exact iteT q
def spNHeard0 (CO : Addr) : Sp := fun vs H Q E => ∃ (a : Addr) (xs : List V) (x : V) (d : PyData), vs = [.ref a, x] ∧ (H a = some (.lst xs) ∨ H a = some (.tup xs)) ∧ Dq H x d ∧ isTup d xs.length xs.length = false ∧ ToldV CO E H "value" x
theorem ok_nheard0 {f fN CO : Addr} {fd fdN : FuncData} (F : Fun K "need_heard" "need_heard" sNHeard f fd) (O : Ow P w K mg base Any "BadOutcomes" "value" CO)
    (dN : Dfn K mg "is_outcomes" fN fdN ["suite", "value"]) (GN : FnOk P w K mg base CX0 2 fN fdN ["suite", "value"] spIsOut0) : FnX P w K mg base 4 f fd ["suite", "heard"] (spNHeard0 CO) := by
  obtain ⟨fI, fdI, iI, tI, F1, bI⟩ := O.ini
  refine fnX_of F scNHeard (fun vs H Q E h => ?_) (fun cdv A outer s H vs Q E hgd hr h => ?_)
  · obtain ⟨a, xs, x, d, rfl, _⟩ := h
    rfl
  · obtain ⟨a, xs, x, d, rfl, ha, hd, hT, q⟩ := h
    refine ⟨_, pss_cons (ps_if (pt_not (pt_val (pe_call GN (hr.mono (by decide)) (by rfl) dN.gm dN.kp dN.bd .nil pass0 (pa_cons (pv 0) (pa_cons (pv 1) pa_nil))))) (pss_one (ps_raise rfl (takes_of rfl rfl rfl rfl) (pmk_xG PySem.F.excBase_ValueError O.xb (raises_own O.sb O.ty) iI tI F1 hgd (hr.mono (by decide)) bI (by rfl) O.gm (pa_cons (pv 1) pa_nil)))) pss_nil)
      (pss_one ps_never), ?_⟩
    refine ⟨.ref a, rfl, x, rfl, a, xs, x, d, rfl, ha, hd, hT, _, rfl, ?_⟩
    refine iteT ?_
    exact ⟨x, rfl, raise_end O stays_any trivial fun dx' H' S' y => q dx' H' S' y⟩
def spForm0 : Sp := fun vs H Q _ => ∃ (x : V) (y : V) (d : PyData) (n : Int), vs = [x, y, .int n] ∧ Dq H x d ∧ isTup d n n = false ∧ Q (.bl false) H
theorem ok_form0 {f fT : Addr} {fd fdT : FuncData} (F : Fun K "has_form" "has_form" sForm f fd)
    (dT : Dfn K mg "is_tuple" fT fdT ["value", "least", "most"]) (GT : FnOk P w K mg base CX0 1 fT fdT ["value", "least", "most"] spTup) : FnOk P w K mg base CX0 2 f fd ["paper", "word", "many"] spForm0 := by
  refine F.ok scForm (fun vs H Q E h => ?_) (fun cdv A outer s H vs Q E hr h => ?_)
  · obtain ⟨x, y, d, n, rfl, _⟩ := h
    rfl
  · obtain ⟨x, y, d, n, rfl, hd, hT, q⟩ := h
    refine ⟨_, pss_one (ps_ret (pe_and (pe_call GT hr (by rfl) dT.gm dT.kp dT.bd .nil pass0 (pa_cons (pv 0) (pa_cons (pv 2) (pa_cons (pv 2) pa_nil)))) (pe_one pe_never))), ?_⟩
    refine ⟨x, rfl, _, rfl, _, rfl, x, d, n, n, rfl, hd, _, rfl, ?_⟩
    rw [hT]
    exact iteF q
/-! the calls -/
def spFail0 (CF : Addr) : Sp := fun vs H Q E => ∃ (v z x : V) (d dz dx : PyData), vs = [v, z, x] ∧ Dq H v d ∧ Dq H z dz ∧ Dq H x dx ∧ wrongRig d = none ∧ isShape (valsOf d) dz = true ∧ isTup dx 0 (mostOf dz) = false ∧ ToldV CF E H "value" x
theorem ok_fail0 {f fN CR CS CF : Addr} {fd fdN : FuncData} (F : Fun K "failing_rows" "failing_rows" sFail f fd)
    (dN : Dfn K mg "need_faults" fN fdN ["rig", "shape", "faults"]) (GN : FnX P w K mg base 10 fN fdN ["rig", "shape", "faults"] (spNFaults0 CR CS CF)) : FnX P w K mg base 11 f fd ["rig", "shape", "faults"] (spFail0 CF) := by
  refine fnX_of F scFail (fun vs H Q E h => ?_) (fun cdv A outer s H vs Q E hgd hr h => ?_)
  · obtain ⟨v, z, x, d, dz, dx, rfl, _⟩ := h
    rfl
  · obtain ⟨v, z, x, d, dz, dx, rfl, hd, hz, hx, hn, hs, hT, q⟩ := h
    refine ⟨_, pss_cons (ps_expr (pe_callX GN hgd hr (by rfl) dN.gm dN.kp dN.bd (passes_call (takes_of rfl rfl rfl rfl) (fun _ _ _ _ h => h)) (pa_cons (pv 0) (pa_cons (pv 1) (pa_cons (pv 2) pa_nil))))) (pss_one ps_never), ?_⟩
    exact ⟨v, rfl, z, rfl, x, rfl, v, z, x, d, dz, dx, rfl, hd, hz, hx, hn, hs, hT, q⟩
def spNames0 (CU : Addr) : Sp := fun vs H Q E => ∃ (v z x : V) (d dz dx p : PyData), vs = [v, z, x] ∧ Dq H v d ∧ Dq H z dz ∧ Dq H x dx ∧ wrongRig d = none ∧ isShape (valsOf d) dz = true ∧ wrongSuite d dx = some p ∧ Told CU E H "place" p
theorem ok_names0 {f fN CR CS CU : Addr} {fd fdN : FuncData} (F : Fun K "names" "names" sNames f fd)
    (dN : Dfn K mg "need_rows" fN fdN ["rig", "shape", "suite"]) (GN : FnX P w K mg base 10 fN fdN ["rig", "shape", "suite"] (spNRows CR CS CU)) : FnX P w K mg base 11 f fd ["rig", "shape", "suite"] (spNames0 CU) := by
  refine fnX_of F scNames (fun vs H Q E h => ?_) (fun cdv A outer s H vs Q E hgd hr h => ?_)
  · obtain ⟨v, z, x, d, dz, dx, p, rfl, _⟩ := h
    rfl
  · obtain ⟨v, z, x, d, dz, dx, p, rfl, hd, hz, hx, hn, hs, hw, q⟩ := h
    refine ⟨_, pss_cons (ps_expr (pe_callX GN hgd hr (by rfl) dN.gm dN.kp dN.bd (passes_call (takes_of rfl rfl rfl rfl) (fun _ _ _ _ h => h)) (pa_cons (pv 0) (pa_cons (pv 1) (pa_cons (pv 2) pa_nil))))) (pss_cons ps_never (pss_one ps_never)), ?_⟩
    have nr : ∀ {E' : XK} {H' : Hp} p, wrongRig d = some p → Told CR E' H' "path" p := fun p hp => by rw [hn] at hp; cases hp
    have ns : ∀ {E' : XK} {H' : Hp}, isShape (valsOf d) dz = false → ToldV CS E' H' "value" z := fun hp => by rw [hs] at hp; cases hp
    exact ⟨v, rfl, z, rfl, x, rfl, v, z, x, d, dz, dx, rfl, hd, hz, hx, nr, fun _ => ⟨ns, fun _ => ⟨fun p' hp => by rw [hw] at hp; cases hp; exact q, fun hp => by rw [hw] at hp; cases hp⟩⟩⟩
def spLeast0 (CO : Addr) : Sp := fun vs H Q E => ∃ (v z y : V) (a : Addr) (xs : List V) (d dz dx dy : PyData), vs = [v, z, .ref a, y] ∧ Dq H v d ∧ Dq H z dz ∧ Dq H (.ref a) dx ∧ Dq H y dy ∧ wrongRig d = none ∧ isShape (valsOf d) dz = true ∧ wrongSuite d dx = none ∧ (H a = some (.lst xs) ∨ H a = some (.tup xs)) ∧ isTup dy xs.length xs.length = false ∧ ToldV CO E H "value" y
theorem ok_least0 {f fN fW CR CS CU CO : Addr} {fd fdN fdW : FuncData} (F : Fun K "least_wrong" "least_wrong" sLeast f fd)
    (dN : Dfn K mg "need_rows" fN fdN ["rig", "shape", "suite"]) (GN : FnX P w K mg base 10 fN fdN ["rig", "shape", "suite"] (spNRows CR CS CU))
    (dW : Dfn K mg "need_heard" fW fdW ["suite", "heard"]) (GW : FnX P w K mg base 4 fW fdW ["suite", "heard"] (spNHeard0 CO)) : FnX P w K mg base 11 f fd ["rig", "shape", "suite", "heard"] (spLeast0 CO) := by
  refine fnX_of F scLeast (fun vs H Q E h => ?_) (fun cdv A outer s H vs Q E hgd hr h => ?_)
  · obtain ⟨v, z, y, a, xs, d, dz, dx, dy, rfl, _⟩ := h
    rfl
  · obtain ⟨v, z, y, a, xs, d, dz, dx, dy, rfl, hd, hz, hx, hy, hn, hs, hw, ha, hT, q⟩ := h
    refine ⟨_, pss_cons (ps_expr (pe_callX GN hgd hr (by rfl) dN.gm dN.kp dN.bd (passes_call (takes_of rfl rfl rfl rfl) (fun _ _ _ _ h => h)) (pa_cons (pv 0) (pa_cons (pv 1) (pa_cons (pv 2) pa_nil))))) (pss_cons (ps_expr (pe_callX GW hgd (hr.mono (by decide)) (by rfl) dW.gm dW.kp dW.bd (passes_call (takes_of rfl rfl rfl rfl) (fun _ _ _ _ h => h)) (pa_cons (pv 2) (pa_cons (pv 3) pa_nil)))) (pss_cons ps_never (pss_one ps_never))), ?_⟩
    have nr : ∀ {E' : XK} {H' : Hp} p, wrongRig d = some p → Told CR E' H' "path" p := fun p hp => by rw [hn] at hp; cases hp
    have ns : ∀ {E' : XK} {H' : Hp}, isShape (valsOf d) dz = false → ToldV CS E' H' "value" z := fun hp => by rw [hs] at hp; cases hp
    refine ⟨v, rfl, z, rfl, .ref a, rfl, v, z, .ref a, d, dz, dx, rfl, hd, hz, hx, nr, fun _ => ⟨ns, fun _ => ⟨fun p' hp => (by rw [hw] at hp; cases hp), fun _ H1 S1 => ?_⟩⟩⟩
    exact ⟨.ref a, rfl, y, rfl, a, xs, y, dy, rfl, ha.imp (S1 _ _) (S1 _ _), Dq.same S1 dy y hy, hT, fun dx' H' S' e => q dx' H' (fun b o u => S' b o (S1 b o u)) e⟩
def spBears0 (CN : Addr) : Sp := fun vs H Q E => ∃ (v z x y : V) (d dz dx dy : PyData), vs = [v, z, x, y] ∧ Dq H v d ∧ Dq H z dz ∧ Dq H x dx ∧ Dq H y dy ∧ wrongRig d = none ∧ isShape (valsOf d) dz = true ∧ wrongSuite d dx = none ∧ isNum dy 0 5 = false ∧ ToldV CN E H "value" y
theorem ok_bears0 {f fN fW CR CS CU CN : Addr} {fd fdN fdW : FuncData} (F : Fun K "bears" "bears" sBears f fd)
    (dN : Dfn K mg "need_rows" fN fdN ["rig", "shape", "suite"]) (GN : FnX P w K mg base 10 fN fdN ["rig", "shape", "suite"] (spNRows CR CS CU))
    (dW : Dfn K mg "need_wrong" fW fdW ["wrong"]) (GW : FnX P w K mg base 4 fW fdW ["wrong"] (spNWrong CN)) : FnX P w K mg base 11 f fd ["rig", "shape", "suite", "wrong"] (spBears0 CN) := by
  refine fnX_of F scBears (fun vs H Q E h => ?_) (fun cdv A outer s H vs Q E hgd hr h => ?_)
  · obtain ⟨v, z, x, y, d, dz, dx, dy, rfl, _⟩ := h
    rfl
  · obtain ⟨v, z, x, y, d, dz, dx, dy, rfl, hd, hz, hx, hy, hn, hs, hw, hT, q⟩ := h
    refine ⟨_, pss_cons (ps_expr (pe_callX GN hgd hr (by rfl) dN.gm dN.kp dN.bd (passes_call (takes_of rfl rfl rfl rfl) (fun _ _ _ _ h => h)) (pa_cons (pv 0) (pa_cons (pv 1) (pa_cons (pv 2) pa_nil))))) (pss_cons (ps_expr (pe_callX GW hgd (hr.mono (by decide)) (by rfl) dW.gm dW.kp dW.bd (passes_call (takes_of rfl rfl rfl rfl) (fun _ _ _ _ h => h)) (pa_cons (pv 3) pa_nil))) (pss_one ps_never)), ?_⟩
    have nr : ∀ {E' : XK} {H' : Hp} p, wrongRig d = some p → Told CR E' H' "path" p := fun p hp => by rw [hn] at hp; cases hp
    have ns : ∀ {E' : XK} {H' : Hp}, isShape (valsOf d) dz = false → ToldV CS E' H' "value" z := fun hp => by rw [hs] at hp; cases hp
    refine ⟨v, rfl, z, rfl, x, rfl, v, z, x, d, dz, dx, rfl, hd, hz, hx, nr, fun _ => ⟨ns, fun _ => ⟨fun p' hp => (by rw [hw] at hp; cases hp), fun _ H1 S1 => ?_⟩⟩⟩
    exact ⟨y, rfl, y, dy, rfl, Dq.same S1 dy y hy, fun _ dx' H' S' e => q dx' H' (fun b o u => S' b o (S1 b o u)) e, fun hp => by rw [hT] at hp; cases hp⟩
def spCheck0 (CP : Addr) : Sp := fun vs H Q E => ∃ (v z x y t : V) (d dz dx dy dt : PyData), vs = [v, z, x, y, t] ∧ Dq H v d ∧ Dq H z dz ∧ Dq H x dx ∧ Dq H y dy ∧ Dq H t dt ∧ wrongRig d = none ∧ isShape (valsOf d) dz = true ∧ wrongSuite d dx = none ∧ isNum dy 0 5 = true ∧ isTup dt 2 2 = false ∧ isTup dt 4 4 = false ∧ ToldV CP E H "word" (.str "form")
theorem shw_form : Shw (.str "form") := ⟨by decide +kernel, by decide +kernel, by decide +kernel, fun y e => by cases e; decide⟩
theorem ok_check0 {f fN fW fM CR CS CU CN CP : Addr} {fd fdN fdW fdM : FuncData} (F : Fun K "check_names" "check_names" sCheck f fd) (O : Ow P w K mg base Okd "BadPaper" "word" CP)
    (dN : Dfn K mg "need_rows" fN fdN ["rig", "shape", "suite"]) (GN : FnX P w K mg base 10 fN fdN ["rig", "shape", "suite"] (spNRows CR CS CU))
    (dW : Dfn K mg "need_wrong" fW fdW ["wrong"]) (GW : FnX P w K mg base 4 fW fdW ["wrong"] (spNWrong CN))
    (dM : Dfn K mg "has_form" fM fdM ["paper", "word", "many"]) (GM : FnOk P w K mg base CX0 2 fM fdM ["paper", "word", "many"] spForm0) : FnX P w K mg base 11 f fd ["rig", "shape", "suite", "wrong", "paper"] (spCheck0 CP) := by
  obtain ⟨fI, fdI, iI, tI, F1, bI⟩ := O.ini
  refine fnX_of F scCheck (fun vs H Q E h => ?_) (fun cdv A outer s H vs Q E hgd hr h => ?_)
  · obtain ⟨v, z, x, y, t, d, dz, dx, dy, dt, rfl, _⟩ := h
    rfl
  · obtain ⟨v, z, x, y, t, d, dz, dx, dy, dt, rfl, hd, hz, hx, hy, ht, hn, hs, hw, hN, h2, h4, q⟩ := h
    refine ⟨_, pss_cons (ps_expr (pe_callX GN hgd hr (by rfl) dN.gm dN.kp dN.bd (passes_call (takes_of rfl rfl rfl rfl) (fun _ _ _ _ h => h)) (pa_cons (pv 0) (pa_cons (pv 1) (pa_cons (pv 2) pa_nil))))) (pss_cons (ps_expr (pe_callX GW hgd (hr.mono (by decide)) (by rfl) dW.gm dW.kp dW.bd (passes_call (takes_of rfl rfl rfl rfl) (fun _ _ _ _ h => h)) (pa_cons (pv 3) pa_nil)))
      (pss_cons (ps_if (pt_val (pe_call GM (hr.mono (by decide)) (by rfl) dM.gm dM.kp dM.bd .nil pass0 (pa_cons (pv 4) (pa_cons pe_str (pa_cons pe_int pa_nil))))) (pss_one ps_never) pss_nil)
      (pss_cons (ps_if (pt_val (pe_call GM (hr.mono (by decide)) (by rfl) dM.gm dM.kp dM.bd .nil pass0 (pa_cons (pv 4) (pa_cons pe_str (pa_cons pe_int pa_nil))))) (pss_one ps_never) pss_nil)
      (pss_one (ps_raise rfl (takes_of rfl rfl rfl rfl) (pmk_xG PySem.F.excBase_ValueError O.xb (raises_own O.sb O.ty) iI tI F1 hgd (hr.mono (by decide)) bI (by rfl) O.gm (pa_cons pe_str pa_nil))))))), ?_⟩
    have nr : ∀ {E' : XK} {H' : Hp} p, wrongRig d = some p → Told CR E' H' "path" p := fun p hp => by rw [hn] at hp; cases hp
    have ns : ∀ {E' : XK} {H' : Hp}, isShape (valsOf d) dz = false → ToldV CS E' H' "value" z := fun hp => by rw [hs] at hp; cases hp
    refine ⟨v, rfl, z, rfl, x, rfl, v, z, x, d, dz, dx, rfl, hd, hz, hx, nr, fun _ => ⟨ns, fun _ => ⟨fun p' hp => (by rw [hw] at hp; cases hp), fun _ H1 S1 => ?_⟩⟩⟩
    refine ⟨y, rfl, y, dy, rfl, Dq.same S1 dy y hy, fun hp => (by rw [hN] at hp; cases hp), fun _ => ?_⟩
    refine ⟨t, rfl, t, _, dt, _, rfl, Dq.same S1 dt t ht, h2, _, rfl, iteF ?_⟩
    refine ⟨t, rfl, t, _, dt, _, rfl, Dq.same S1 dt t ht, h4, _, rfl, iteF ?_⟩
    exact raise_end O stays_okd ⟨.str "form", .str _, shw_form⟩ fun dx' H' S' e => q dx' H' (fun b o u => S' b o (S1 b o u)) e
end
end KN

set_option Elab.async false
set_option linter.all false
set_option maxRecDepth 100000
set_option maxHeartbeats 4000000
/-! ### the marks of an error: lists of what isinstance says, of a value or of what an except suite holds -/
namespace KG
open PySem PySem.Spec PyProof.Rows L2
/-- a def that is called in an except suite, its promise told of the exception that is held -/
structure FnP (P : Program) (w : World) (K : PySem.W.Frag) (mg : Str → Option Value) (base : Heap) (k : Nat) (f : Addr) (fd : FuncData) (ps : List Str) (sp : Addr → Value → Option Addr → Sp) : Prop where
  len : ∀ a cls d vs H Q E, sp a cls d vs H Q E → vs.length = ps.length
  run : ∀ (A : Around) (outer : List Env) (s : Shared) (H : Hp) (args : Args) (us : List Value) (vs : List V) (Q : VK) (E : XK) (a : Addr) (oe : Obj) (cls : Value) (d : Option Addr), L2H.RoomH k A → L2H.PinOk outer H s (a, oe) → Zc cls d oe → (∃ vs, oe.data = .fields vs) → Env0 P w K mg base A outer s H →
    BindsTo s fd args (ps.zip us) → Vals vs us → sp a cls d vs H Q E → codeAny (model P w) A (.call (.ref f) args) (CR CX0 outer P w H s Q E) s
section
variable {P : Program} {w : World} {K : PySem.W.Frag} {mg : Str → Option Value} {base : Heap}
theorem fnP_of {k : Nat} {f : Addr} {x qual : Str} {st : Stmt} {fd : FuncData} {N ps : List Str} {sp : Addr → Value → Option Addr → Sp} (F : Fun K x qual st f fd) (S : FnScope N ps (defScope st))
    (len : ∀ a cls d vs H Q E, sp a cls d vs H Q E → vs.length = ps.length)
    (hbody : ∀ (cdv : Value) (A : Around) (outer : List Env) (s : Shared) (H : Hp) (vs : List V) (Q : VK) (E : XK) (a : Addr) (oe : Obj) (cls : Value) (d : Option Addr), Zc cls d oe → (∃ vs, oe.data = .fields vs) → sp a cls d vs H Q E →
      ∃ t, PSs (L2H.cxH CX0 P w K mg base N qual (defScope st) f cdv A outer s H E (a, oe)) (defBody st) t ∧ t { nx := fun _ H' => Q .non H', rt := Q } (start N vs) H) : FnP P w K mg base (k + 1) f fd ps sp := by
  obtain ⟨oc, od, kV, doc, pm, an, cdv, ct, osl, rfl, lk, hcd⟩ := F.ex
  refine ⟨len, fun A outer s H args us vs Q E a oe cls d hr hp hz hv e0 hb r hsp => ?_⟩
  have old : ∀ b o, base.get? b = some o → s.heap.get? b = some o := fun b o e => (e0.bs b o e).1
  have kinds : ∀ y ∈ ps.zip us, (defScope st).names.lookup y.1 = some .local ∨ ((defScope st).names.lookup y.1 = some .cell ∧ ((cellsFrom (s.heap.objs.size + 1) (defScope st).names []).lookup y.1).isSome = true) := fun y hy => by
    obtain ⟨n, v⟩ := y
    exact (S.par n (List.of_mem_zip hy).1).imp id fun q => ⟨q, PySem.W.cellsFrom_some _ _ _ (.inl q)⟩
  have KX : K.In s.heap := e0.mod.kin.keeps old
  refine codeAny_call_function hr.depth (KX _ _ lk) rfl S.co S.gen rfl (PySem.W.codeRec_of KX hcd) (hb _ _ _ _ ?_)
  refine wpAny_newFunctionEnv_cells S.kind kinds fun env he s1 x => ?_
  subst he
  refine ⟨(e0.mod.nolimit.keeps old).keeps x.toInCall.keep, codeAny_func ?_⟩
  obtain ⟨t, ht, hq⟩ := hbody cdv A outer s H vs Q E a oe cls d hz hv hsp
  have I := L2H.inv_startH (CX := CX0) (E := E) S hp e0 (len _ _ _ _ _ _ _ hsp) r x
  refine wpAny_mono (ht.run [] s1 (start N vs) H _ I hq) (fun fl s' hs => ?_) fun e s' hs => hs
  cases fl with
  | ret u => exact let ⟨v, σ', H', J, rv, q⟩ := hs; ⟨v, H', J.os, J.bare, J.base, J.hok, rv, q⟩
  | next => exact let ⟨σ', H', J, q⟩ := hs; ⟨V.non, H', J.os, J.bare, J.base, J.hok, rfl, q⟩
  | brk => exact let ⟨_, _, _, q⟩ := hs; q.elim
  | cont => exact let ⟨_, _, _, q⟩ := hs; q.elim
end
section
variable {X : Cx} {k : Nat} {f a : Addr} {oe : Obj} {cls : Value} {d : Option Addr} {fd : FuncData} {ps : List Str} {sp : Addr → Value → Option Addr → Sp} {x : Str} {e : Expr} {es : List Expr} {t : TA} {p pos : Pos}
theorem pe_callP (F : FnP X.prog X.w X.K X.mg X.base k f fd ps sp) (hr : L2H.RoomH k X.A) (hp : (a, oe) ∈ X.pn) (hz : Zc cls d oe) (hv : ∃ vs, oe.data = .fields vs) (hg : Gl X x) (hm : X.mg x = some (.ref f)) (hk : PySem.W.keepIn X.K (.ref f) = true) (hb : Binds X.K fd ps []) (ha : PA X (e :: es) t)
    (hdb : (x == ("__debug__" : Str)) = false := by decide) (he : starEach (e :: es) X.env = (false, eval e X.env) :: starEach es X.env := by rfl) (hpl : (backTo pos (starEach es X.env)).any (·.1) = false := by rfl) :
    PE X (.Call (.Name x p) (e :: es) [] pos) (tCall (sp a cls d) [] E0 t) := by
  refine ⟨fun pins s σ H Q I h => wpAny_Call_Name_kw (ld_glob I hg hm ?_ hdb)⟩
  refine PySem.W.callWith_K (h₀ := X.base) I.ok.mod.kin hk (thn (ha.run pos pins s σ H _ I h) fun us s1 ⟨vs, H1, I1, r, q⟩ => ⟨I1.kIn, ?_⟩) he hpl
  have r2 : Vals (vs ++ []) (us ++ []) := r.append .nil
  have hl : (us ++ []).length = ps.length := r2.length.symm.trans (F.len _ _ _ _ _ _ _ q)
  have P1 := I1.pin (a, oe) (List.mem_append_left _ hp)
  have hpin : L2H.PinOk X.stack H1 s1 (a, oe) := ⟨P1.1, P1.2.1, fun hm => (List.mem_cons.mp (I1.stkSub a hm)).elim P1.2.2.1 P1.2.2.2.1, P1.2.2.2.2⟩
  refine wpAny_call (codeAny_mono (F.run X.A X.stack s1 H1 ⟨us, []⟩ (us ++ []) (vs ++ []) Q E0 a oe cls d hr hpin hz hv I1.env0 (hb s1 us I1.kIn hl) r2 q) fun r s' hq => ?_)
  cases r with
  | error e => exact pass0 pins σ H1 s1 e s' I1 hq
  | ok fl => cases fl with
    | ret u => exact I1.after hq
    | next => exact hq.elim
    | brk => exact hq.elim
    | cont => exact hq.elim
/-- isinstance of the exception that is held -/
def rIsP (K : PySem.W.Frag) (a C d : Addr) : List V → Hp → VK → Prop := fun xs H Q => ∃ (fs : List (Str × V)) (c : V) (cv : Value) (b : Bool), xs = [.ref a, c] ∧ H d = some (.xd fs) ∧ ExcC K C ∧ ClsV c cv ∧ PySem.W.kitOne K (.ref C) cv = some b ∧ Q (.bl b) H
theorem call_isP {C d : Addr} (hp : (a, oe) ∈ X.pn) (hz : Zc (.ref C) (some d) oe) (hv : ∃ vs, oe.data = .fields vs) : CallR X (.builtin "isinstance") (rIsP X.K a C d) := by
  intro pins s σ H xs us Q I r h
  obtain ⟨fs, c, cv, b, rfl, ed, T, k, e, q⟩ := h
  obtain ⟨u1, u2, rfl, r1, r2⟩ := vals2 r
  have e2 := k.eq r2
  subst e2
  obtain rfl : u1 = Value.ref a := r1
  obtain ⟨hget, _⟩ := I.pin (a, oe) (List.mem_append_left _ hp)
  obtain ⟨vs, hv⟩ := hv
  obtain ⟨od, hod⟩ : ∃ od, s.heap.get? d = some od := by
    have z := I.hok d _ ed
    obtain ⟨mA, hns, _⟩ := z
    obtain ⟨od, hod, _⟩ := lookIn_ns hns
    exact ⟨od, hod⟩
  have J : PySem.W.InstAt s.heap a oe C (some od) := by
    obtain ⟨oc, odd, oda, osl⟩ := oe
    obtain ⟨h1, h2⟩ := hz
    dsimp only at h1 h2 hv
    subst h1 h2 hv
    exact ⟨hget, rfl, rfl, hod⟩
  have cl : (PySem.W.clsIn X.K C).isSome = true := by
    obtain ⟨cd, hc, _⟩ := PySem.W.any_some T.hd
    rw [hc]
    rfl
  exact PySem.W.kia_one (PySem.W.kitx_exc cl T.hg T.hk T.hs T.ha T.hn T.ht T.hm) I.kIn J e (fun z => nomatch z) fun tk => ⟨.bl b, H, I.kept (t' := tk) fun _ _ z => z, rfl, q⟩
/-- isinstance of an own exception without a dict -/
def rIs0 (K : PySem.W.Frag) : List V → Hp → VK → Prop := fun xs H Q => ∃ (a C : Addr) (c : V) (cv : Value) (b : Bool), xs = [.ref a, c] ∧ H a = some (ExO (.ref C) a) ∧ ExcC K C ∧ ClsV c cv ∧ PySem.W.kitOne K (.ref C) cv = some b ∧ Q (.bl b) H
theorem call_is0 : CallR X (.builtin "isinstance") (rIs0 X.K) := by
  intro pins s σ H xs us Q I r h
  obtain ⟨a, C, c, cv, b, rfl, ea, T, k, e, q⟩ := h
  obtain ⟨u1, u2, rfl, r1, r2⟩ := vals2 r
  have e2 := k.eq r2
  subst e2
  obtain rfl : u1 = Value.ref a := r1
  obtain ⟨⟨oe, vs, he, hz, hv, _, _, _⟩, _, _⟩ := I.hok a _ ea
  have J : PySem.W.InstAt s.heap a oe C none := by
    obtain ⟨oc, odd, oda, osl⟩ := oe
    obtain ⟨h1, h2⟩ := hz
    dsimp only at h1 h2 hv
    subst h1 h2 hv
    exact ⟨he, rfl, rfl, trivial⟩
  exact PySem.W.kia_one (PySem.W.handS_kitx_exc T.hg T.hk T.hs T.hd T.ha T.hn T.ht T.hm) I.kIn J e (fun z => nomatch z) fun tk => ⟨.bl b, H, I.kept (t' := tk) fun _ _ z => z, rfl, q⟩
/-- isinstance of an own exception that is held as a value -/
def rIsX (K : PySem.W.Frag) : List V → Hp → VK → Prop := fun xs H Q => ∃ (a C d : Addr) (fs : List (Str × V)) (c : V) (cv : Value) (b : Bool), xs = [.ref a, c] ∧ H a = some (exo a C (some d)) ∧ H d = some (exd d fs) ∧ ExcC K C ∧ ClsV c cv ∧ PySem.W.kitOne K (.ref C) cv = some b ∧ Q (.bl b) H
def rIsV (K : PySem.W.Frag) : List V → Hp → VK → Prop := fun xs H Q => rIsX K xs H Q ∨ rIs0 K xs H Q
theorem call_isV : CallR X (.builtin "isinstance") (rIsV X.K) := fun pins s σ H xs us Q I r h => h.elim (call_isX pins s σ H xs us Q I r) (call_is0 pins s σ H xs us Q I r)
end
end KG
namespace K17
open PySem PySem.Spec PyProof.Rows L2 KG K80
abbrev sMarks : Stmt := topS 88
abbrev sAbove : Stmt := topS 89
/-- an own exception stands at a, of the class at C -/
def Err (K : PySem.W.Frag) (H : Hp) (a C : Addr) (fs : List (Str × V)) : Prop := ExcC K C ∧ ∃ d, H a = some (exo a C (some d)) ∧ H d = some (exd d fs)
theorem Err.same {K : PySem.W.Frag} {H H' : Hp} {a C : Addr} {fs : List (Str × V)} (h : Err K H a C fs) (s : Same H H') : Err K H' a C fs := by
  obtain ⟨x, d, e1, e2⟩ := h
  exact ⟨x, d, s _ _ e1, s _ _ e2⟩
theorem seq_asg {te : TE} {g : TG} {t : TS} {D : Ends} {σ : L2.St} {H : Hp} (h : te σ H fun x H1 => g x σ H1 (t D)) : tSeq (tAsg te g) t D σ H := h
/-- what isinstance says -/
def Is (r : List V → Hp → VK → Prop) (H : Hp) (a : Addr) (c : V) (b : Bool) : Prop := ∀ H' Q, Same H H' → Q (.bl b) H' → r [.ref a, c] H' Q
theorem rd_is3 {σ : L2.St} {H0 H : Hp} {Q : VK} {r : List V → Hp → VK → Prop} {a : Addr} {c1 c2 c3 : V} {b1 b2 b3 : Bool} (h0 : σ[0]? = some (some (.ref a))) (s : Same H0 H) (i1 : Is r H0 a c1 b1) (i2 : Is r H0 a c2 b2) (i3 : Is r H0 a c3 b3)
    (q : ∀ p, H p = none → Q (.ref p) (upd H p (.lst [.bl b1, .bl b2, .bl b3]))) :
    tLst (tCons (tCB r (tCons (tVar 0) (tCons (tC c1) tNil))) (tCons (tCB r (tCons (tVar 0) (tCons (tC c2) tNil))) (tCons (tCB r (tCons (tVar 0) (tCons (tC c3) tNil))) tNil))) σ H Q :=
  ⟨_, h0, i1 _ _ s ⟨_, h0, i2 _ _ s ⟨_, h0, i3 _ _ s ⟨(by show 3 ≤ sizeLine; decide), q⟩⟩⟩⟩
/-- the names of the classes in the module -/
structure Nms (mg : Str → Option Value) (c : Nat → Addr) : Prop where
  g0 : mg "BadRig" = some (.ref (c 0))
  g1 : mg "BadShape" = some (.ref (c 1))
  g2 : mg "BadLot" = some (.ref (c 2))
  g3 : mg "BadFaults" = some (.ref (c 3))
  g4 : mg "BadSuite" = some (.ref (c 4))
  g5 : mg "BadOutcomes" = some (.ref (c 5))
  g6 : mg "BadNumber" = some (.ref (c 6))
  g7 : mg "BadPaper" = some (.ref (c 7))
  g8 : mg "TooGreat" = some (.ref (c 8))
  g9 : mg "FaultError" = some (.ref (c 9))
  zv : mg "ValueError" = none
  zo : mg "OverflowError" = none
  zl : mg "LookupError" = none
  zr : mg "RuntimeError" = none
  zt : mg "TypeError" = none
/-- of which of them the error at a is -/
structure Ans9 (r : List V → Hp → VK → Prop) (c : Nat → Addr) (H : Hp) (a : Addr) (b : Nat → Bool) : Prop where
  i0 : Is r H a (.ref (c 0)) (b 0)
  i1 : Is r H a (.ref (c 1)) (b 1)
  i2 : Is r H a (.ref (c 2)) (b 2)
  i3 : Is r H a (.ref (c 3)) (b 3)
  i4 : Is r H a (.ref (c 4)) (b 4)
  i5 : Is r H a (.ref (c 5)) (b 5)
  i6 : Is r H a (.ref (c 6)) (b 6)
  i7 : Is r H a (.ref (c 7)) (b 7)
  i8 : Is r H a (.ref (c 8)) (b 8)
/-- under what it stands -/
structure Ans6 (r : List V → Hp → VK → Prop) (c : Nat → Addr) (H : Hp) (a : Addr) (b : Nat → Bool) : Prop where
  i0 : Is r H a (.ref (c 9)) (b 0)
  i1 : Is r H a (.ty "ValueError") (b 1)
  i2 : Is r H a (.ty "OverflowError") (b 2)
  i3 : Is r H a (.ty "LookupError") (b 3)
  i4 : Is r H a (.ty "RuntimeError") (b 4)
  i5 : Is r H a (.ty "TypeError") (b 5)
def mk9 (b : Nat → Bool) : List V := [.bl (b 0), .bl (b 1), .bl (b 2), .bl (b 3), .bl (b 4), .bl (b 5), .bl (b 6), .bl (b 7), .bl (b 8)]
def mk6 (b : Nat → Bool) : List V := [.bl (b 0), .bl (b 1), .bl (b 2), .bl (b 3), .bl (b 4), .bl (b 5)]
abbrev cxY (P : Program) (w : World) (K : PySem.W.Frag) (mg : Str → Option Value) (base : Heap) (N : List Str) (qual : Str) (st : Stmt) (f : Addr) (cdv : Value) (A : Around) (outer : List Env) (s : Shared) (H : Hp) (E : XK) (calm : Bool) (pn : List (Addr × Obj)) (xe : Value → Shared → Prop) : Cx :=
  { cxOf CX0 P w K mg base N qual (defScope st) f cdv A outer s H E with calm := calm, pn := pn, xe := xe }
section
variable {P : Program} {w : World} {K : PySem.W.Frag} {mg : Str → Option Value} {base : Heap} {c : Nat → Addr} {f : Addr} {cdv : Value} {A : Around} {outer : List Env} {s : Shared} {H0 : Hp} {E : XK} {calm : Bool} {pn : List (Addr × Obj)} {xe : Value → Shared → Prop} {r : List V → Hp → VK → Prop}
theorem scMarks : FnScope ["error", "found"] ["error"] (defScope sMarks) := ⟨rfl, rfl, rfl, by decide +kernel, rfl, by decide +kernel, by decide +kernel⟩
theorem scAbove : FnScope ["error", "found"] ["error"] (defScope sAbove) := ⟨rfl, rfl, rfl, by decide +kernel, rfl, by decide +kernel, by decide +kernel⟩
theorem marks_pss (hc : CallR (cxY P w K mg base ["error", "found"] "_law_marks" sMarks f cdv A outer s H0 E calm pn xe) (.builtin "isinstance") r) (N : Nms mg c) (zi : mg "isinstance" = none) :
    ∃ t, PSs (cxY P w K mg base ["error", "found"] "_law_marks" sMarks f cdv A outer s H0 E calm pn xe) (defBody sMarks) t ∧ ∀ (H : Hp) (a : Addr) (b : Nat → Bool) (Q : VK), Ans9 r c H a b → (∀ p H', Same H H' → H p = none → H' p = some (.lst (mk9 b)) → Q (.ref p) H') →
      t { nx := fun _ H' => Q .non H', rt := Q } (start ["error", "found"] [.ref a]) H := by
  refine ⟨_, pss_cons (ps_set (i := 1) scMarks.nd rfl (.inl rfl) (pe_lst (pa_cons (pe_callB hc (by rfl) zi PyProof.Rows.boot_isinstance (pa_cons (pv 0) (pa_cons (pe_glob rfl N.g0 (v := .ref (c 0)) rfl) pa_nil))) (pa_cons (pe_callB hc (by rfl) zi PyProof.Rows.boot_isinstance (pa_cons (pv 0) (pa_cons (pe_glob rfl N.g1 (v := .ref (c 1)) rfl) pa_nil))) (pa_cons (pe_callB hc (by rfl) zi PyProof.Rows.boot_isinstance (pa_cons (pv 0) (pa_cons (pe_glob rfl N.g2 (v := .ref (c 2)) rfl) pa_nil))) pa_nil)))))
    (pss_cons (ps_set (i := 1) scMarks.nd rfl (.inl rfl) (pe_op op_cat (pv 1) (pe_lst (pa_cons (pe_callB hc (by rfl) zi PyProof.Rows.boot_isinstance (pa_cons (pv 0) (pa_cons (pe_glob rfl N.g3 (v := .ref (c 3)) rfl) pa_nil))) (pa_cons (pe_callB hc (by rfl) zi PyProof.Rows.boot_isinstance (pa_cons (pv 0) (pa_cons (pe_glob rfl N.g4 (v := .ref (c 4)) rfl) pa_nil))) (pa_cons (pe_callB hc (by rfl) zi PyProof.Rows.boot_isinstance (pa_cons (pv 0) (pa_cons (pe_glob rfl N.g5 (v := .ref (c 5)) rfl) pa_nil))) pa_nil))))))
    (pss_one (ps_ret (pe_op op_cat (pv 1) (pe_lst (pa_cons (pe_callB hc (by rfl) zi PyProof.Rows.boot_isinstance (pa_cons (pv 0) (pa_cons (pe_glob rfl N.g6 (v := .ref (c 6)) rfl) pa_nil))) (pa_cons (pe_callB hc (by rfl) zi PyProof.Rows.boot_isinstance (pa_cons (pv 0) (pa_cons (pe_glob rfl N.g7 (v := .ref (c 7)) rfl) pa_nil))) (pa_cons (pe_callB hc (by rfl) zi PyProof.Rows.boot_isinstance (pa_cons (pv 0) (pa_cons (pe_glob rfl N.g8 (v := .ref (c 8)) rfl) pa_nil))) pa_nil)))))))), fun H a b Q an q => ?_⟩
  refine seq_asg (rd_is3 rfl (Same.refl _) an.i0 an.i1 an.i2 fun p1 n1 => ?_)
  have s1 := same_upd (o := .lst [.bl (b 0), .bl (b 1), .bl (b 2)]) n1
  refine seq_asg ⟨_, rfl, rd_is3 rfl s1 an.i3 an.i4 an.i5 fun p2 n2 => ⟨p1, p2, _, _, rfl, rfl, same_upd n2 _ _ upd_same, upd_same, by show 6 ≤ sizeLine; decide, fun p3 n3 => ?_⟩⟩
  have s2 := (s1.trans (same_upd (o := .lst [.bl (b 3), .bl (b 4), .bl (b 5)]) n2)).trans (same_upd (o := .lst ([.bl (b 0), .bl (b 1), .bl (b 2)] ++ [.bl (b 3), .bl (b 4), .bl (b 5)])) n3)
  refine ⟨_, rfl, rd_is3 rfl s2 an.i6 an.i7 an.i8 fun p4 n4 => ⟨p3, p4, _, _, rfl, rfl, same_upd n4 _ _ upd_same, upd_same, by show 9 ≤ sizeLine; decide, fun p5 n5 => ?_⟩⟩
  have s3 := s2.trans (same_upd (o := .lst [.bl (b 6), .bl (b 7), .bl (b 8)]) n4)
  exact q p5 _ (s3.trans (same_upd n5)) (s3.free n5) upd_same
theorem above_pss (hc : CallR (cxY P w K mg base ["error", "found"] "_law_above" sAbove f cdv A outer s H0 E calm pn xe) (.builtin "isinstance") r) (N : Nms mg c) (zi : mg "isinstance" = none) :
    ∃ t, PSs (cxY P w K mg base ["error", "found"] "_law_above" sAbove f cdv A outer s H0 E calm pn xe) (defBody sAbove) t ∧ ∀ (H : Hp) (a : Addr) (b : Nat → Bool) (Q : VK), Ans6 r c H a b → (∀ p H', Same H H' → H p = none → H' p = some (.lst (mk6 b)) → Q (.ref p) H') →
      t { nx := fun _ H' => Q .non H', rt := Q } (start ["error", "found"] [.ref a]) H := by
  refine ⟨_, pss_cons (ps_set (i := 1) scAbove.nd rfl (.inl rfl) (pe_lst (pa_cons (pe_callB hc (by rfl) zi PyProof.Rows.boot_isinstance (pa_cons (pv 0) (pa_cons (pe_glob rfl N.g9 (v := .ref (c 9)) rfl) pa_nil))) (pa_cons (pe_callB hc (by rfl) zi PyProof.Rows.boot_isinstance (pa_cons (pv 0) (pa_cons (pe_bltn rfl N.zv (by decide +kernel) (show RelV (.ty "ValueError") (.type "ValueError") from rfl)) pa_nil))) (pa_cons (pe_callB hc (by rfl) zi PyProof.Rows.boot_isinstance (pa_cons (pv 0) (pa_cons (pe_bltn rfl N.zo (by decide +kernel) (show RelV (.ty "OverflowError") (.type "OverflowError") from rfl)) pa_nil))) pa_nil)))))
    (pss_one (ps_ret (pe_op op_cat (pv 1) (pe_lst (pa_cons (pe_callB hc (by rfl) zi PyProof.Rows.boot_isinstance (pa_cons (pv 0) (pa_cons (pe_bltn rfl N.zl (by decide +kernel) (show RelV (.ty "LookupError") (.type "LookupError") from rfl)) pa_nil))) (pa_cons (pe_callB hc (by rfl) zi PyProof.Rows.boot_isinstance (pa_cons (pv 0) (pa_cons (pe_bltn rfl N.zr (by decide +kernel) (show RelV (.ty "RuntimeError") (.type "RuntimeError") from rfl)) pa_nil))) (pa_cons (pe_callB hc (by rfl) zi PyProof.Rows.boot_isinstance (pa_cons (pv 0) (pa_cons (pe_bltn rfl N.zt (by decide +kernel) (show RelV (.ty "TypeError") (.type "TypeError") from rfl)) pa_nil))) pa_nil))))))), fun H a b Q an q => ?_⟩
  refine seq_asg (rd_is3 rfl (Same.refl _) an.i0 an.i1 an.i2 fun p1 n1 => ?_)
  have s1 := same_upd (o := .lst [.bl (b 0), .bl (b 1), .bl (b 2)]) n1
  refine ⟨_, rfl, rd_is3 rfl s1 an.i3 an.i4 an.i5 fun p2 n2 => ⟨p1, p2, _, _, rfl, rfl, same_upd n2 _ _ upd_same, upd_same, by show 6 ≤ sizeLine; decide, fun p3 n3 => ?_⟩⟩
  have s2 := s1.trans (same_upd (o := .lst [.bl (b 3), .bl (b 4), .bl (b 5)]) n2)
  exact q p3 _ (s2.trans (same_upd n3)) (s2.free n3) upd_same
/-- of a value -/
def spMarks (K : PySem.W.Frag) (c : Nat → Addr) : Sp := fun vs H Q _ => ∃ (a : Addr) (b : Nat → Bool), vs = [.ref a] ∧ Ans9 (rIsV K) c H a b ∧ ∀ p H', Same H H' → H p = none → H' p = some (.lst (mk9 b)) → Q (.ref p) H'
def spAbove (K : PySem.W.Frag) (c : Nat → Addr) : Sp := fun vs H Q _ => ∃ (a : Addr) (b : Nat → Bool), vs = [.ref a] ∧ Ans6 (rIsV K) c H a b ∧ ∀ p H', Same H H' → H p = none → H' p = some (.lst (mk6 b)) → Q (.ref p) H'
/-- of what a suite holds -/
def spMarksP (K : PySem.W.Frag) (c : Nat → Addr) : Addr → Value → Option Addr → Sp := fun a cls d vs H Q _ => ∃ (C x : Addr) (b : Nat → Bool), cls = .ref C ∧ d = some x ∧ vs = [.ref a] ∧ Ans9 (rIsP K a C x) c H a b ∧ ∀ p H', Same H H' → H p = none → H' p = some (.lst (mk9 b)) → Q (.ref p) H'
theorem ok_marks {f : Addr} {fd : FuncData} {k : Nat} (F : Fun K "_law_marks" "_law_marks" sMarks f fd) (N : Nms mg c) (zi : mg "isinstance" = none) : FnG P w K mg base (k + 1) f fd ["error"] (spMarks K c) := by
  refine fnG_of F scMarks (fun vs H Q E h => ?_) (fun cdv A outer s H vs Q E hgd hr h => ?_)
  · obtain ⟨a, b, rfl, _⟩ := h
    rfl
  · obtain ⟨a, b, rfl, an, q⟩ := h
    obtain ⟨t, ht, rd⟩ := marks_pss (P := P) (w := w) (base := base) (f := f) (cdv := cdv) (A := A) (outer := outer) (s := s) (H0 := H) (E := E) (calm := true) (pn := []) (xe := fun _ _ => False) call_isV N zi
    exact ⟨t, ht, rd H a b Q an q⟩
theorem ok_above {f : Addr} {fd : FuncData} {k : Nat} (F : Fun K "_law_above" "_law_above" sAbove f fd) (N : Nms mg c) (zi : mg "isinstance" = none) : FnG P w K mg base (k + 1) f fd ["error"] (spAbove K c) := by
  refine fnG_of F scAbove (fun vs H Q E h => ?_) (fun cdv A outer s H vs Q E hgd hr h => ?_)
  · obtain ⟨a, b, rfl, _⟩ := h
    rfl
  · obtain ⟨a, b, rfl, an, q⟩ := h
    obtain ⟨t, ht, rd⟩ := above_pss (P := P) (w := w) (base := base) (f := f) (cdv := cdv) (A := A) (outer := outer) (s := s) (H0 := H) (E := E) (calm := true) (pn := []) (xe := fun _ _ => False) call_isV N zi
    exact ⟨t, ht, rd H a b Q an q⟩
theorem ok_marksP {f : Addr} {fd : FuncData} {k : Nat} (F : Fun K "_law_marks" "_law_marks" sMarks f fd) (N : Nms mg c) (zi : mg "isinstance" = none) : FnP P w K mg base (k + 1) f fd ["error"] (spMarksP K c) := by
  refine fnP_of F scMarks (fun a cls d vs H Q E h => ?_) (fun cdv A outer s H vs Q E a oe cls d hz hv h => ?_)
  · obtain ⟨C, x, b, _, _, rfl, _⟩ := h
    rfl
  · obtain ⟨C, x, b, rfl, rfl, rfl, an, q⟩ := h
    obtain ⟨t, ht, rd⟩ := marks_pss (P := P) (w := w) (base := base) (f := f) (cdv := cdv) (A := A) (outer := outer) (s := s) (H0 := H) (E := E) (calm := false) (pn := [(a, oe)]) (xe := _) (call_isP (List.mem_singleton.mpr rfl) hz hv) N zi
    exact ⟨t, ht, rd H a b Q an q⟩
end
end K17

set_option Elab.async false
set_option linter.all false
set_option maxRecDepth 100000
set_option maxHeartbeats 4000000
/-! ### _law_raised(call): the marks of the error of a call -/
namespace K17
open PySem PySem.Spec PyProof.Rows L2 KG K80 LamX
abbrev sRaised : Stmt := topS 91
abbrev nRaised : List Str := ["call", "found", "error"]
theorem scRaised : FnScope nRaised ["call"] (defScope sRaised) := ⟨rfl, rfl, rfl, by decide +kernel, rfl, by decide +kernel, by decide +kernel⟩
/-- what is wished of the error: it is one of the package, and what is told of it -/
structure Caught (K : PySem.W.Frag) (c : Nat → Addr) (C : Addr) (b : Nat → Bool) : Prop where
  ec : ExcC K C
  kit : ∀ i, i < 9 → PySem.W.kitOne K (.ref C) (.ref (c i)) = some (b i)
def TRaised (K : PySem.W.Frag) (c : Nat → Addr) : (XK → Hp → VK → Prop) → Hp → VK → Prop := fun tl H Q => ∀ (H1 : Hp) (R : VK), Same H H1 →
  tl (fun cls d H' => ∃ (C x : Addr) (fs : List (Str × V)) (b : Nat → Bool) (bf : Bool), cls = .ref C ∧ d = some x ∧ H' x = some (.xd fs) ∧ Caught K c C b ∧ PySem.W.exmOne K (.ref C) (.ref (c 9)) = some bf ∧ PySem.W.exmOne K (.ref C) (.ref (c 8)) = some (!bf) ∧
    ∀ p H'', Same H' H'' → H' p = none → H'' p = some (.lst (.str (if bf then "fault" else "great") :: mk9 b)) → Q (.ref p) H'') H1 R
theorem up_of {H : Hp} {b p : Addr} {o u : HO} (n : H p = none) (e : H b = some o) : (upd H p u) b = some o := same_upd n _ _ e
theorem ans_of {K : PySem.W.Frag} {c : Nat → Addr} {C x a : Addr} {fs : List (Str × V)} {b : Nat → Bool} {H : Hp} (T : Caught K c C b) (e : H x = some (.xd fs)) : Ans9 (rIsP K a C x) c H a b := by
  have one : ∀ i, i < 9 → Is (rIsP K a C x) H a (.ref (c i)) (b i) := fun i hi H' Q s q => ⟨fs, .ref (c i), .ref (c i), b i, rfl, s _ _ e, T.ec, .own _, T.kit i hi, q⟩
  exact ⟨one 0 (by decide), one 1 (by decide), one 2 (by decide), one 3 (by decide), one 4 (by decide), one 5 (by decide), one 6 (by decide), one 7 (by decide), one 8 (by decide)⟩
section
variable {X : Cx} {c : Nat → Addr}
theorem raised_gives {q : Str} {g fM : Addr} {fdM : FuncData} {cdg : Value} {k : Nat} (N : Nms X.mg c) (FM : FnP X.prog X.w X.K X.mg X.base k fM fdM ["error"] (spMarksP X.K c)) (gM : X.mg "_law_marks" = some (.ref fM)) (kM : PySem.W.keepIn X.K (.ref fM) = true) (bM : Binds X.K fdM ["error"] []) (hr : Room (k + 1) X.A) :
    GivesAt X nRaised "_law_raised" (defScope sRaised) g cdg (defBody sRaised) "call" q (TRaised X.K c) := by
  intro f c' s H Q tl act hc h
  let Y : Cx := (cxOf C8.CX0 X.prog X.w X.K X.mg X.base nRaised "_law_raised" (defScope sRaised) g cdg X.A X.stack s H C8.E0).nox
  have rm : ∀ a : Addr, L2H.RoomH k (Y.A.mark (some (.ref a))) := fun a => ⟨by have := hr.dp; show X.A.depth + 1 + 3 * k + 5 < _; omega, by have := hr.un; show X.A.units + 3 + 16 * k + 200 < _; omega⟩
  refine ⟨_, pss_cons (ps_set (i := 1) scRaised.nd rfl (.inl rfl) (pe_lst pa_nil))
    (pss_cons (ps_try_each (X := Y) (n := "error") (i := 2) (Wout := fun _ _ _ _ => False)
      (tb := fun W D σ H => ∃ Ech : XK, σ[0]? = some (some (.ref f)) ∧ H c' = some (CodeO c' q) ∧ (∀ cls d G, Ech cls d G → W cls d σ G) ∧ tl Ech H fun _ H' => D.nx σ H')
      rfl rfl scRaised.nd rfl rfl takes0 (fun W pn xe tk _ => ?_)
      (.cons (.one (c := .ref (c 9)) ⟨rfl, by decide, .inl N.g9⟩) (fun a oe cls d pn hz hv => pss_one (ps_set (i := 1) scRaised.nd rfl (.inl rfl) (pe_op op_cat (pe_lst (pa_cons pe_str pa_nil)) (pe_callP FM (rm a) List.mem_cons_self hz hv (by rfl) gM kM bM (pa_cons (pv 2) pa_nil)))))
      (.cons (.one (c := .ref (c 8)) ⟨rfl, by decide, .inl N.g8⟩) (fun a oe cls d pn hz hv => pss_one (ps_set (i := 1) scRaised.nd rfl (.inl rfl) (pe_op op_cat (pe_lst (pa_cons pe_str pa_nil)) (pe_callP FM (rm a) List.mem_cons_self hz hv (by rfl) gM kM bM (pa_cons (pv 2) pa_nil))))) .nil)))
    (pss_one (ps_ret (pv 1)))), ?_⟩
  · refine ⟨fun pins s' σ H' D I h' => ?_⟩
    obtain ⟨Ech, h1, h2, h3, h4⟩ := h'
    exact (pss_one (ps_expr (act W pn xe Ech _ _ tk))).run pins s' σ H' D I ⟨h1, h2, h3, h4⟩
  · refine seq_asg ⟨Nat.zero_le _, fun l nl => ?_⟩
    refine ⟨_, rfl, up_of nl hc, ?_, h _ _ (same_upd (o := .lst []) nl)⟩
    rintro cls d G ⟨C, x, fs, b, bf, rfl, rfl, hx, T, e9, e8, q⟩
    refine ⟨bf, e9, fun hb a na => ?_, fun hb => ⟨!bf, e8, fun _ a na => ?_, fun z => ?_⟩⟩
    · subst hb
      refine ⟨(by show 1 ≤ sizeLine; decide), fun p1 n1 => ⟨.ref a, rfl, C, x, b, rfl, rfl, rfl, ans_of T (up_of n1 hx), fun p2 G2 s2 n2 h2 => ⟨p1, p2, _, _, rfl, rfl, s2 _ _ upd_same, h2, (by show 10 ≤ sizeLine; decide), fun p3 n3 => ⟨_, rfl, ?_⟩⟩⟩⟩
      have s3 := (same_upd (o := .lst [.str "fault"]) n1).trans s2
      exact q p3 _ (s3.trans (same_upd n3)) (s3.free n3) upd_same
    · subst hb
      refine ⟨(by show 1 ≤ sizeLine; decide), fun p1 n1 => ⟨.ref a, rfl, C, x, b, rfl, rfl, rfl, ans_of T (up_of n1 hx), fun p2 G2 s2 n2 h2 => ⟨p1, p2, _, _, rfl, rfl, s2 _ _ upd_same, h2, (by show 10 ≤ sizeLine; decide), fun p3 n3 => ⟨_, rfl, ?_⟩⟩⟩⟩
      have s3 := (same_upd (o := .lst [.str "great"]) n1).trans s2
      exact q p3 _ (s3.trans (same_upd n3)) (s3.free n3) upd_same
    · subst hb
      cases z
end
end K17

set_option Elab.async false
set_option linter.all false
set_option maxRecDepth 100000
set_option maxHeartbeats 4000000
/-! ### the rigs of the law, looked at -/
namespace K17
open PySem PySem.Spec PyProof.Rows L2 KG K80 KT KR KC KN
abbrev dTool : PyData := .tuple [.tuple [.int 2, .int 2], .tuple []]
abbrev dWide : PyData := .tuple [.tuple [.int 4, .int 4, .int 4, .int 4, .int 4], .tuple []]
abbrev dOne : PyData := .tuple [.int 1, .int 1]
abbrev dTwo : PyData := .tuple [.int 2, .int 2]
theorem tool_right : wrongRig dTool = none := by decide +kernel
theorem wide_right : wrongRig dWide = none := by decide +kernel
theorem one_shape : isShape (valsOf dTool) dOne = true := by decide +kernel
theorem two_shape : isShape (valsOf dWide) dTwo = true := by decide +kernel
theorem none_shape : isShape (valsOf dTool) .none = false := by decide +kernel
theorem none_lot : isLot (valsOf dTool) .none = false := by decide +kernel
theorem none_tup (a b : Int) : isTup .none a b = false := rfl
theorem none_num : isNum .none 0 5 = false := by decide +kernel
theorem zero_num : isNum (.int 0) 0 5 = true := by decide +kernel
theorem suite_right : wrongSuite dTool (.tuple []) = none := by decide +kernel
theorem suite_none : wrongSuite dTool .none = some .none := rfl
theorem rig_none : ∃ p, wrongRig .none = some p := ⟨_, rfl⟩
theorem len_row {k : Nat} (hk : k ≤ 5) {p : List Int × Nat} {kvs : List (NK × V)} (h : p.1.length ≤ 5) : (stepRow k kvs p).length ≤ kvs.length + 10 :=
  Nat.le_trans (len_step _ _) (Nat.add_le_add_left (lotsOfRow_len h hk) _)
theorem len_rows {k : Nat} (hk : k ≤ 5) : ∀ (l : List (List Int × Nat)) (kvs : List (NK × V)), (∀ p ∈ l, p.1.length ≤ 5) → (l.foldl (stepRow k) kvs).length ≤ kvs.length + 10 * l.length
  | [], kvs, _ => Nat.le_add_right _ _
  | p :: l, kvs, h => by
    have a := len_rows hk l (stepRow k kvs p) fun q hq => h q (List.mem_cons_of_mem _ hq)
    have b := len_row (kvs := kvs) hk (h p List.mem_cons_self)
    rw [List.foldl_cons, List.length_cons]
    omega
def wideRows : List (List Int) := letRows [4, 4, 4, 4, 4] []
def pairLots (i j : Int) : List Lot := [0, 1, 2, 3].flatMap fun a => [0, 1, 2, 3].map fun b => [(i, a), (j, b)]
def someLots : List Lot := pairLots 2 3 ++ (pairLots 2 4 ++ (pairLots 3 4 ++ pairLots 1 2))
theorem some_nodup : someLots.Nodup := by decide +kernel
theorem some_met : (someLots.all fun ps => (wideRows.take 256).any fun r => (lotsOfRow r 2).contains ps) = true := by decide +kernel
theorem wide_rows : wideRows.length = 1024 ∧ (wideRows.all fun r => decide (r.length = 5)) = true := by decide +kernel
theorem nodup_len {α : Type} [DecidableEq α] : ∀ (l m : List α), l.Nodup → (∀ x ∈ l, x ∈ m) → l.length ≤ m.length
  | [], _, _, _ => Nat.zero_le _
  | x :: l, m, nd, h => by
    obtain ⟨h1, h2⟩ := List.nodup_cons.mp nd
    have hx := h x List.mem_cons_self
    have a := nodup_len l (m.erase x) h2 fun y hy => (List.mem_erase_of_ne (fun z : y = x => h1 (by rw [← z]; exact hy))).mpr (h y (List.mem_cons_of_mem _ hy))
    rw [List.length_erase_of_mem hx] at a
    have b := List.length_pos_of_mem hx
    rw [List.length_cons]
    omega
theorem someK_nodup : (someLots.map lotK).Nodup := by decide +kernel
theorem wide_marks : marksRig dWide dTwo = marksOf 2 wideRows := by rfl
theorem wide_len : (marksRig dWide dTwo).length < 1000000 ∧ 64 ≤ (marksRig dWide dTwo).length := by
  rw [wide_marks]
  obtain ⟨w1, w2⟩ := wide_rows
  have w5 : ∀ r ∈ wideRows, r.length ≤ 5 := fun r hr => Nat.le_of_eq (of_decide_eq_true (List.all_eq_true.mp w2 r hr))
  constructor
  · have a := len_rows (k := 2) (by decide) wideRows.zipIdx [] fun p hp => w5 _ (List.fst_mem_of_mem_zipIdx hp)
    rw [List.length_zipIdx, w1] at a
    exact Nat.lt_of_le_of_lt a (by decide)
  · obtain ⟨_, _, hk⟩ := marks_keys (k := 2) (by decide) w5
    have a := nodup_len (someLots.map lotK) ((marksOf 2 wideRows).map (·.1)) someK_nodup fun x hx => by
      obtain ⟨ps, hps, rfl⟩ := List.mem_map.mp hx
      obtain ⟨r, hr, hc⟩ := List.any_eq_true.mp (List.all_eq_true.mp some_met ps hps)
      exact hk r (List.mem_of_mem_take hr) ps (List.contains_iff_mem.mp hc)
    rw [List.length_map, List.length_map] at a
    exact a
theorem wide_many : 2000 < KN.cnt ((marksRig dWide dTwo).length : Int) (mostOf dTwo) := by
  have h := wide_len.2
  have e : mostOf dTwo = 2 := rfl
  rw [e]
  unfold KN.cnt
  rw [if_neg (by decide)]
  have h' : (64 : Int) ≤ ((marksRig dWide dTwo).length : Int) := Int.ofNat_le.mpr h
  generalize ((marksRig dWide dTwo).length : Int) = n at h'
  have a : 64 * 63 ≤ n * (n - 1) := Int.mul_le_mul h' (by omega) (by decide) (by omega)
  have b : 64 * 63 / 2 ≤ n * (n - 1) / 2 := Int.ediv_le_ediv (by decide) a
  omega
end K17

set_option Elab.async false
set_option linter.all false
set_option maxRecDepth 100000
set_option maxHeartbeats 4000000
/-! ### [k == e for k in range(9)]; calls of defs without arguments -/
namespace K17
open PySem PySem.Spec PyProof.Rows L2 KG K80 KT KR KC KN
def katB (n : Int) : List Bool := (List.range 9).map fun k : Nat => decide ((k : Int) = n)
abbrev teKat (i : Nat) (te : TE) : TE := tLc (iRng1 (tCons (tC (V.int 9)) tNil)) (gName i) tYes (tOp rEq (tVar i) te) [i]
theorem rd_kat {σ : L2.St} {H : Hp} {Q : VK} {i : Nat} {te : TE} {n : Int} (hw : ∀ v, wipe ((wipe σ [i]).set i (some v)) [i] = wipe σ [i]) (hv : ∀ v, ((wipe σ [i]).set i (some v))[i]? = some (some v))
    (hte : ∀ (v : V) (H' : Hp) (R : VK), Same H H' → R (.int n) H' → te ((wipe σ [i]).set i (some v)) H' R) (k : ∀ D H', Same H H' → H D = none → H' D = some (.lst ((katB n).map V.bl)) → Q (.ref D) H') : teKat i te σ H Q := by
  refine ⟨9, rfl, by decide, by decide, fun D nD => ?_⟩
  refine lc_bl (walk_range (lo := 0) (n := 9)) (katB n) rfl (by decide) nD (fun _ _ => trivial) ?_ fun H' S hD => k D H' S nD hD
  rintro j x Hh H' b hb S ⟨rfl, hx⟩ R R2 hq
  have hx' : x = V.int (0 + (j : Int)) := hx
  subst hx'
  have eb : b = decide ((0 + (j : Int)) = n) := by
    unfold katB at hb
    rw [List.getElem?_map] at hb
    have hj : j < 9 := by
      by_cases h : j < 9
      · exact h
      · rw [List.getElem?_eq_none (by rw [List.length_range]; omega)] at hb
        cases hb
    rw [List.getElem?_range hj] at hb
    have e := (Option.some.inj hb).symm
    rw [e, Int.zero_add]
  refine ⟨hw _, iteR ?_⟩
  refine ⟨_, hv _, hte _ _ _ S ⟨rfl, ?_⟩⟩
  rw [show decide (V.int (0 + (j : Int)) = V.int n) = decide ((0 + (j : Int)) = n) from by simp, ← eb]
  exact hq _ (Same.refl _)
section
variable {X : Cx} {k : Nat} {f : Addr} {fd : FuncData} {sp : Sp} {x : Str} {p pos : Pos}
/-- f() -/
theorem pe_callG0 (F : FnG X.prog X.w X.K X.mg X.base k f fd [] sp) (hgd : X.A.guards = some []) (hr : Room k X.A) (hg : Gl X x) (hm : X.mg x = some (.ref f)) (hk : PySem.W.keepIn X.K (.ref f) = true) (hb : Binds X.K fd [] [])
    (hdb : (x == ("__debug__" : Str)) = false := by decide) : PE X (.Call (.Name x p) [] [] pos) (tCall sp [] E0 tNil) := by
  refine ⟨fun pins s σ H Q I h => wpAny_Call_Name_kw (ld_glob I hg hm ?_ hdb)⟩
  have q : sp [] H Q E0 := h
  refine PySem.W.callWith_K0 I.kIn hk ?_
  have b := hb s [] I.kIn rfl
  refine wpAny_call (codeAny_mono (F.run X.A X.stack s H ⟨[], []⟩ [] [] Q E0 hgd hr I.env0 b .nil q) fun r s' hq => ?_)
  cases r with
  | error e => exact pass0 pins σ H s e s' I hq
  | ok fl => cases fl with
    | ret u => exact I.after hq
    | next => exact hq.elim
    | brk => exact hq.elim
    | cont => exact hq.elim
end
end K17

set_option Elab.async false
set_option linter.all false
set_option maxRecDepth 100000
set_option maxHeartbeats 8000000
/-! ### rows of marks, the two rigs in the heap, what a lambda's call tells -/
namespace K17
open PySem PySem.Spec PyProof.Rows L2 KG K80 KT KR KC KN LamX
def IsRow (H : Hp) (s : Str) (n : Nat) (v : V) : Prop := ∃ p, v = .ref p ∧ H p = some (.lst (.str s :: (katB (n : Int)).map V.bl))
def rowP (s : Str) (n : Nat) : PyData := .list (.str s :: (katB (n : Int)).map .bool)
theorem bls_dp {K : PySem.W.Frag} {H : Hp} : ∀ bs : List Bool, DpAll K H (bs.map V.bl) (bs.map .bool)
  | [] => .nil
  | b :: bs => .cons (.bl b) (bls_dp bs)
theorem IsRow.dp {K : PySem.W.Frag} {H : Hp} {s : Str} {n : Nat} {v : V} (h : IsRow H s n v) : Dp K H v (rowP s n) := by
  obtain ⟨p, rfl, e⟩ := h
  exact .lst (.inl (.inl e)) (.cons (.str s) (bls_dp _))
theorem IsRow.ext {H H' : Hp} {s : Str} {n : Nat} {v : V} (h : IsRow H s n v) (x : ExtN H H') : IsRow H' s n v := by
  obtain ⟨p, rfl, e⟩ := h
  exact ⟨p, rfl, x _ _ e fun _ z => nomatch z⟩
theorem IsRow.put {H : Hp} {s : Str} {n : Nat} {v : V} {l : Addr} {ys : List V} {o : HO} (h : IsRow H s n v) (hl : H l = some (.lst ys)) (hy : ∀ x, ys[0]? ≠ some (V.str x)) : IsRow (upd H l o) s n v := by
  obtain ⟨p, rfl, e⟩ := h
  refine ⟨p, rfl, ?_⟩
  rw [upd_ne (fun z => ?_)]
  · exact e
  · rw [z, hl] at e
    cases e
    exact hy _ rfl
theorem rows_dp {K : PySem.W.Frag} {H : Hp} {s : Str} : ∀ (xs : List V) (m : Nat), (∀ j v, xs[j]? = some v → IsRow H s (m + j) v) → DpAll K H xs ((List.range' m xs.length).map (rowP s))
  | [], _, _ => .nil
  | x :: xs, m, h => .cons (h 0 x rfl).dp (rows_dp xs (m + 1) fun j v e => by
    have z := h (j + 1) v e
    rwa [show m + (j + 1) = m + 1 + j from by omega] at z)
/-- the two rigs -/
def Rigs (H : Hp) (t w : Addr) : Prop := ∃ t1 t2 w1 w2, H t = some (.tup [.ref t1, .ref t2]) ∧ H t1 = some (.tup [.int 2, .int 2]) ∧ H t2 = some (.tup []) ∧ H w = some (.tup [.ref w1, .ref w2]) ∧ H w1 = some (.tup [.int 4, .int 4, .int 4, .int 4, .int 4]) ∧ H w2 = some (.tup [])
theorem Rigs.mk {H : Hp} {t w t1 t2 w1 w2 : Addr} (h1 : H t = some (.tup [.ref t1, .ref t2])) (h2 : H t1 = some (.tup [.int 2, .int 2])) (h3 : H t2 = some (.tup [])) (h4 : H w = some (.tup [.ref w1, .ref w2])) (h5 : H w1 = some (.tup [.int 4, .int 4, .int 4, .int 4, .int 4])) (h6 : H w2 = some (.tup [])) : Rigs H t w := ⟨t1, t2, w1, w2, h1, h2, h3, h4, h5, h6⟩
theorem Rigs.ext {H H' : Hp} {t w : Addr} (h : Rigs H t w) (x : ExtN H H') : Rigs H' t w := by
  obtain ⟨t1, t2, w1, w2, h1, h2, h3, h4, h5, h6⟩ := h
  have g : ∀ {b : Addr} {xs : List V}, H b = some (.tup xs) → H' b = some (.tup xs) := fun e => x _ _ e fun _ z => nomatch z
  exact ⟨t1, t2, w1, w2, g h1, g h2, g h3, g h4, g h5, g h6⟩
theorem Rigs.put {H : Hp} {t w l : Addr} {ys : List V} {o : HO} (h : Rigs H t w) (hl : H l = some (.lst ys)) : Rigs (upd H l o) t w := by
  obtain ⟨t1, t2, w1, w2, h1, h2, h3, h4, h5, h6⟩ := h
  have g : ∀ {b : Addr} {xs : List V}, H b = some (.tup xs) → (upd H l o) b = some (.tup xs) := fun e => by
    rw [upd_ne (fun z => by rw [z, hl] at e; cases e)]
    exact e
  exact ⟨t1, t2, w1, w2, g h1, g h2, g h3, g h4, g h5, g h6⟩
theorem Rigs.tool {H : Hp} {t w : Addr} (h : Rigs H t w) : Dq H (.ref t) dTool := by
  obtain ⟨t1, t2, w1, w2, h1, h2, h3, h4, h5, h6⟩ := h
  exact .tup h1 (.cons (.tup h2 (.cons (.int 2) (.cons (.int 2) .nil))) (.cons (.tup h3 .nil) .nil))
theorem Rigs.wide {H : Hp} {t w : Addr} (h : Rigs H t w) : Dq H (.ref w) dWide := by
  obtain ⟨t1, t2, w1, w2, h1, h2, h3, h4, h5, h6⟩ := h
  exact .tup h4 (.cons (.tup h5 (.cons (.int 4) (.cons (.int 4) (.cons (.int 4) (.cons (.int 4) (.cons (.int 4) .nil)))))) (.cons (.tup h6 .nil) .nil))
theorem tabS_put {H : Hp} {P l : Addr} {q : Str} {ys : List V} {zs : List V} (t : TabS H P q) (hl : H l = some (.lst ys)) : TabS (upd H l (.lst zs)) P q := by
  obtain ⟨ps, h1, h2, h3⟩ := t
  refine ⟨ps, ?_, h2, fun pos cv hc => ?_⟩
  · rw [upd_ne (fun z => by rw [z, hl] at h1; cases h1)]
    exact h1
  · obtain ⟨c, e1, e2⟩ := h3 pos cv hc
    refine ⟨c, e1, ?_⟩
    rw [upd_ne (fun z => by rw [z, hl] at e2; unfold CodeO at e2; cases e2)]
    exact e2
theorem tabs_put {T : List (Addr × Str)} {H : Hp} {l : Addr} {ys zs : List V} (t : Tabs T H) (hl : H l = some (.lst ys)) : Tabs T (upd H l (.lst zs)) := fun p hp => tabS_put (t p hp) hl
/-- of which classes the error of the class at c n is -/
def bAt (n : Nat) : Nat → Bool := fun i => decide (i = n)
theorem mk9_at {n : Nat} : mk9 (bAt n) = (katB (n : Int)).map V.bl := by
  have z : ∀ i : Nat, decide ((i : Int) = (n : Int)) = decide (i = n) := fun i => decide_eq_decide.mpr Int.ofNat_inj
  unfold katB mk9 bAt
  simp only [List.map_map, List.range, List.range.loop, List.map_cons, List.map_nil, Function.comp, z]
structure Kits (K : PySem.W.Frag) (c : Nat → Addr) : Prop where
  all : ∀ n, n < 9 → Caught K c (c n) (bAt n)
  f9 : ∀ n, n < 9 → PySem.W.exmOne K (.ref (c n)) (.ref (c 9)) = some (decide (n < 8))
  f8 : ∀ n, n < 9 → PySem.W.exmOne K (.ref (c n)) (.ref (c 8)) = some (!decide (n < 8))
theorem rd_lam {K : PySem.W.Frag} {c : Nat → Addr} {T : List (Addr × Str)} {t : XK → TE} {σ : L2.St} {H : Hp} {Q : VK} (n : Nat) (hn : n < 9) (KS : Kits K c) (hT : Tabs T H)
    (ht : ∀ (E : XK) (H1 : Hp) (R : VK), ExtN H H1 → (∀ (dx : Addr) (H' : Hp) (fs : List (Str × V)), Same H1 H' → H' dx = some (.xd fs) → E (.ref (c n)) (some dx) H') → t E σ H1 R)
    (q : ∀ p H', ExtN H H' → Tabs T H' → IsRow H' (if decide (n < 8) then "fault" else "great") n (.ref p) → Q (.ref p) H') : tLam T (TRaised K c) t σ H Q :=
  ⟨hT, fun H1 x1 t1 H2 R s2 => ht _ _ _ (x1.trans (.of s2)) fun dx H' fs s3 hd => ⟨c n, dx, fs, bAt n, decide (n < 8), rfl, rfl, hd, KS.all n hn, KS.f9 n hn, KS.f8 n hn, fun p H'' s4 np hp => by
    rw [mk9_at] at hp
    exact q p H'' (((x1.trans (.of s2)).trans (.of s3)).trans (.of s4)) (((t1.ext s2).ext s3).ext s4) ⟨p, rfl, hp⟩⟩⟩
/-- the rows that are due -/
abbrev dRows : PyData := .list ((List.range' 0 8).map (rowP "fault"))
theorem rows_shaped : SeqAt.shaped dRows = true := by decide +kernel
theorem rows_eqv : PyData.eqv dRows dRows = true := by decide +kernel
theorem great_shaped : SeqAt.shaped (rowP "great" 8) = true := by decide +kernel
theorem great_eqv : PyData.eqv (rowP "great" 8) (rowP "great" 8) = true := by decide +kernel
end K17

set_option Elab.async false
set_option linter.all false
set_option maxRecDepth 100000
set_option maxHeartbeats 8000000
/-! ### _law_raised_right() -/
namespace K17
open PySem PySem.Spec PyProof.Rows L2 KG K80 KT KR KC KN LamX
abbrev sRR : Stmt := topS 92
abbrev nRR : List Str := ["told", "tool", "wide", "at", "k"]
theorem scRR : FnScope nRR [] (defScope sRR) := ⟨rfl, rfl, rfl, by decide +kernel, rfl, by decide +kernel, by decide +kernel⟩
/-- a def whose code object is known -/
theorem fnG_ofC {P : Program} {w : World} {K : PySem.W.Frag} {mg : Str → Option Value} {base : Heap} {k : Nat} {f cA : Addr} {x qual : Str} {st : Stmt} {oc kV doc pm ct : Value} {od an : Option Addr} {osl : Array (Option Value)} {N ps : List Str} {sp : Sp}
    (lk : K.lookup f = some ⟨oc, od, .func (PySem.W.fnOf x qual (defArgs st) (defBody st) (defScope st) .none kV doc pm an (.ref cA) ct), osl⟩) (hcd : PySem.W.codeIn K (.ref cA) qual = true) (S : FnScope N ps (defScope st)) (len : ∀ vs H Q E, sp vs H Q E → vs.length = ps.length)
    (hbody : ∀ (A : Around) (outer : List Env) (s : Shared) (H : Hp) (vs : List V) (Q : VK) (E : XK), (A.deeper (envOfC qual (defScope st) s.heap.objs.size f (.ref cA))).guards = some [] → Room k (A.deeper (envOfC qual (defScope st) s.heap.objs.size f (.ref cA))) → sp vs H Q E →
      ∃ t, PSs (cxOf CX0 P w K mg base N qual (defScope st) f (.ref cA) A outer s H E).nox (defBody st) t ∧ t { nx := fun _ H' => Q .non H', rt := Q } (start N vs) H) : FnG P w K mg base (k + 1) f (PySem.W.fnOf x qual (defArgs st) (defBody st) (defScope st) .none kV doc pm an (.ref cA) ct) ps sp := by
  refine ⟨len, fun A outer s H args us vs Q E hgd hr e0 hb r hsp => ?_⟩
  have old : ∀ b o, base.get? b = some o → s.heap.get? b = some o := fun b o e => (e0.bs b o e).1
  have kinds : ∀ y ∈ ps.zip us, (defScope st).names.lookup y.1 = some .local ∨ ((defScope st).names.lookup y.1 = some .cell ∧ ((cellsFrom (s.heap.objs.size + 1) (defScope st).names []).lookup y.1).isSome = true) := fun y hy => by
    obtain ⟨n, v⟩ := y
    exact (S.par n (List.of_mem_zip hy).1).imp id fun q => ⟨q, PySem.W.cellsFrom_some _ _ _ (.inl q)⟩
  have KX : K.In s.heap := e0.mod.kin.keeps old
  refine codeAny_call_function hr.depth (KX _ _ lk) rfl S.co S.gen rfl (PySem.W.codeRec_of KX hcd) (hb _ _ _ _ ?_)
  refine wpAny_newFunctionEnv_cells S.kind kinds fun env he s1 x => ?_
  subst he
  refine ⟨(e0.mod.nolimit.keeps old).keeps x.toInCall.keep, codeAny_func ?_⟩
  obtain ⟨t, ht, hq⟩ := hbody A outer s H vs Q E hgd (hr.deeper _) hsp
  have I := inv_start (CX := CX0) (E := E) S hr.hd e0 (len _ _ _ _ hsp) r x
  refine wpAny_mono (ht.nox.run [] s1 (start N vs) H _ I hq) (fun fl s' hs => ?_) fun e s' hs => hs
  cases fl with
  | ret u => exact let ⟨v, σ', H', J, rv, q⟩ := hs; ⟨v, H', J.os, J.bare, J.base, J.hok, rv, q⟩
  | next => exact let ⟨σ', H', J, q⟩ := hs; ⟨V.non, H', J.os, J.bare, J.base, J.hok, rfl, q⟩
  | brk => exact let ⟨_, _, _, q⟩ := hs; q.elim
  | cont => exact let ⟨_, _, _, q⟩ := hs; q.elim
abbrev rrOut : Scope := { kind := .function, names := [(".0", .local), ("at", .cell), ("range", .globalImplicit)], isGenerator := false, isCoroutine := false }
abbrev rrIn : Scope := { kind := .function, names := [(".0", .local), ("k", .local), ("at", .free)], isGenerator := false, isCoroutine := false }
abbrev rrOne : Scope := { kind := .function, names := [(".0", .local), ("k", .local)], isGenerator := false, isCoroutine := false }
theorem blkRR1 : blkC nRR (defScope sRR) rrOut [("at", 3)] = true := by decide +kernel
theorem blkRR2 : blkC nRR (relS rrOut (defScope sRR)) rrIn [("k", 4)] = true := by decide +kernel
theorem blkRR3 : blkC nRR (defScope sRR) rrOne [("k", 4)] = true := by decide +kernel
abbrev qLam : Str := "_law_raised_right.<locals>.<lambda>"
/-- the program's calls that raise -/
structure Calls (P : Program) (w : World) (K : PySem.W.Frag) (mg : Str → Option Value) (base : Heap) (c : Nat → Addr) : Prop where
  rig : ∃ f fd, Dfn K mg "need_rig" f fd ["rig"] ∧ FnX P w K mg base 7 f fd ["rig"] (spRig (c 0))
  shape : ∃ f fd, Dfn K mg "need_shape" f fd ["rig", "shape"] ∧ FnX P w K mg base 8 f fd ["rig", "shape"] (spNShape (c 0) (c 1))
  met : ∃ f fd, Dfn K mg "is_met" f fd ["rig", "lot"] ∧ FnX P w K mg base 10 f fd ["rig", "lot"] (spIsMet (c 0) (c 2))
  fail : ∃ f fd, Dfn K mg "failing_rows" f fd ["rig", "shape", "faults"] ∧ FnX P w K mg base 11 f fd ["rig", "shape", "faults"] (spFail0 (c 3))
  names : ∃ f fd, Dfn K mg "names" f fd ["rig", "shape", "suite"] ∧ FnX P w K mg base 11 f fd ["rig", "shape", "suite"] (spNames0 (c 4))
  least : ∃ f fd, Dfn K mg "least_wrong" f fd ["rig", "shape", "suite", "heard"] ∧ FnX P w K mg base 11 f fd ["rig", "shape", "suite", "heard"] (spLeast0 (c 5))
  bears : ∃ f fd, Dfn K mg "bears" f fd ["rig", "shape", "suite", "wrong"] ∧ FnX P w K mg base 11 f fd ["rig", "shape", "suite", "wrong"] (spBears0 (c 6))
  check : ∃ f fd, Dfn K mg "check_names" f fd ["rig", "shape", "suite", "wrong", "paper"] ∧ FnX P w K mg base 11 f fd ["rig", "shape", "suite", "wrong", "paper"] (spCheck0 (c 7))
  all : ∃ f fd, Dfn K mg "all_faults" f fd ["rig", "shape"] ∧ FnX P w K mg base 11 f fd ["rig", "shape"] (spAll0 (c 8))
section
variable {P : Program} {w : World} {K : PySem.W.Frag} {mg : Str → Option Value} {base : Heap} {c : Nat → Addr}
def spRR (T : List (Addr × Str)) : Sp := fun vs H Q _ => vs = [] ∧ Tabs T H ∧ ∀ H', Q (.bl true) H'
theorem ok_RR {f cA tA fR fM : Addr} {oc kV doc pm ct ocR kVR docR pmR cdR ctR : Value} {od an odR anR : Option Addr} {osl oslR : Array (Option Value)} {fdM : FuncData} {T : List (Addr × Str)}
    (lk : K.lookup f = some ⟨oc, od, .func (PySem.W.fnOf "_law_raised_right" "_law_raised_right" (defArgs sRR) (defBody sRR) (defScope sRR) .none kV doc pm an (.ref cA) ct), osl⟩) (hcd : PySem.W.codeIn K (.ref cA) "_law_raised_right" = true)
    (lkR : K.lookup fR = some ⟨ocR, odR, .func (PySem.W.fnOf "_law_raised" "_law_raised" (defArgs sRaised) (defBody sRaised) (defScope sRaised) .none kVR docR pmR anR cdR ctR), oslR⟩) (hcR : PySem.W.codeIn K cdR "_law_raised" = true)
    (gR : mg "_law_raised" = some (.ref fR)) (kR : PySem.W.keepIn K (.ref fR) = true) (bR : L2.Binds K (PySem.W.fnOf "_law_raised" "_law_raised" (defArgs sRaised) (defBody sRaised) (defScope sRaised) .none kVR docR pmR anR cdR ctR) ["call"] [])
    (N : Nms mg c) (FM : FnP P w K mg base 1 fM fdM ["error"] (spMarksP K c)) (gM : mg "_law_marks" = some (.ref fM)) (kM : PySem.W.keepIn K (.ref fM) = true) (bM : Binds K fdM ["error"] []) (CS : Calls P w K mg base c) (KS : Kits K c) (zr : mg "range" = none)
    (TB : TabB base mg cA tA) (hmT : (tA, qLam) ∈ T) (hu : ∀ p ∈ T, p.1 = tA → p.2 = qLam) :
    FnG P w K mg base 14 f (PySem.W.fnOf "_law_raised_right" "_law_raised_right" (defArgs sRR) (defBody sRR) (defScope sRR) .none kV doc pm an (.ref cA) ct) [] (spRR T) := by
  refine fnG_ofC lk hcd scRR (fun vs H Q E h => ?_) (fun A outer s H vs Q E hgd hr h => ?_)
  · rw [h.1]
    rfl
  obtain ⟨rfl, hT, q⟩ := h
  obtain ⟨fA, fdA, dA, GA⟩ := CS.rig
  obtain ⟨fB, fdB, dB, GB⟩ := CS.shape
  obtain ⟨fC, fdC, dC, GC⟩ := CS.met
  obtain ⟨fD, fdD, dD, GD⟩ := CS.fail
  obtain ⟨fE, fdE, dE, GE⟩ := CS.names
  obtain ⟨fF, fdF, dF, GF⟩ := CS.least
  obtain ⟨fG, fdG, dG, GG⟩ := CS.bears
  obtain ⟨fH, fdH, dH, GH⟩ := CS.check
  obtain ⟨fI, fdI, dI, GI⟩ := CS.all
  let Y : Cx := (cxOf CX0 P w K mg base nRR "_law_raised_right" (defScope sRR) f (.ref cA) A outer s H E).nox
  have hq : Y.env.qual ++ "<lambda>" = qLam := by rfl
  have gives : GivesAt Y nRaised "_law_raised" (defScope sRaised) fR cdR (defBody sRaised) "call" (Y.env.qual ++ "<lambda>") (TRaised K c) := raised_gives (X := Y) N FM gM kM bM (hr.mono (by decide))
  have lam : ∀ {params : Arguments} {body : Expr} {scope : Scope} {t : XK → TE} {p lpos pos : Pos}, lamSB (defScope sRR) scope = true → defaultsOf params Y.env = ([], []) → (∀ (q : Str) (cl : List (Str × Addr)) (pm cv ctv : Value), bindArgs (PySem.W.kla_fn "<lambda>" q params body scope cl pm cv ctv) ⟨[], []⟩ = pure []) →
      (∀ (A : Around) (outer : List Env) (s : Shared) (H : Hp) (E : XK) (f c' : Addr), (A.deeper (lamEnv Y scope s.heap.objs.size f c')).guards = some [] → Room 11 (A.deeper (lamEnv Y scope s.heap.objs.size f c')) → PE (lamCx Y A outer s H E scope f c') body (t E)) →
      PE Y (.Call (.Name "_law_raised" p) [.Lambda params body scope lpos] [] pos) (tLam T (TRaised K c) t) := fun L nod nob hbody =>
    pe_lamG (X := Y) (k := 11) hgd (by rfl) gR kR lkR hcR bR scRaised rfl (.inl rfl) gives TB rfl hmT hu hr (lamS_by L) nod nob hbody
  have lamD : ∀ {params : Arguments} {body : Expr} {scope : Scope} {t : XK → TE} {e : Expr} {n : Int} {y : Str} {p lpos pos : Pos}, lamDB (defScope sRR) scope y = true → y ∉ nRR → params.defaults = [e] → params.kw_defaults = [] → PE Y e (tC (.int n)) →
      (∀ (q : Str) (cl : List (Str × Addr)) (t : Addr) (doc pm cv ctv v : Value) (s : Shared), s.heap.get? t = some (PySem.W.kdv_tup [v]) → BindsTo s (PySem.W.kdv_fn "<lambda>" q params (.expr body) scope cl (.ref t) doc pm cv ctv) ⟨[], []⟩ [(y, v)]) →
      (∀ (A : Around) (outer : List Env) (s : Shared) (H : Hp) (E : XK) (f c' : Addr), (A.deeper (lamEnv Y scope s.heap.objs.size f c')).guards = some [] → Room 11 (A.deeper (lamEnv Y scope s.heap.objs.size f c')) → PE (lamCx Y A outer s H E scope f c') body (t E)) →
      PE Y (.Call (.Name "_law_raised" p) [.Lambda params body scope lpos] [] pos) (tLam T (TRaised K c) t) := fun L hy h1 h2 he nob hbody =>
    pe_lamD (X := Y) (k := 11) hgd (by rfl) gR kR lkR hcR bR scRaised rfl (.inl rfl) gives TB rfl hmT hu hr (lamD_by L) hy h1 h2 he nob hbody
  refine ⟨_, pss_cons (ps_asg (g := gTup K 2 (gCons (gName 1) (gCons (gName 2) gNil))) (pe_tup (pa_cons (pe_tup (pa_cons (pe_tup (pa_cons pe_int (pa_cons pe_int pa_nil))) (pa_cons (pe_tup pa_nil) pa_nil))) (pa_cons (pe_tup (pa_cons (pe_op op_repT (pe_tup (pa_cons pe_int pa_nil)) pe_int) (pa_cons (pe_tup pa_nil) pa_nil))) pa_nil))) (pg_tup (n := 2) rfl (pgs_cons (pg_name (i := 1) scRR.nd rfl (.inr rfl) (.inl rfl)) (pgs_cons (pg_name (i := 2) scRR.nd rfl (.inr rfl) (.inl rfl)) pgs_nil))))
    (pss_cons (ps_set (i := 0) scRR.nd rfl (.inl rfl) (pe_lst (pa_cons (lam (by decide +kernel) rfl (fun _ _ _ _ _ => rfl) (fun A outer s H E f c' g1 g2 => pe_callX GA g1 (g2.mono (by decide)) (by rfl) dA.gm dA.kp dA.bd (passes_call (takes_of rfl rfl rfl rfl) (fun _ _ _ _ h => h)) (pa_cons pe_non pa_nil))) (pa_cons (lamD (by decide +kernel) (by decide +kernel) rfl rfl pe_int (fun q cl t doc pm cv ctv v s ht => BindsTo.of_defaults rfl ht rfl rfl rfl) (fun A outer s H E f c' g1 g2 => pe_callX GB g1 (g2.mono (by decide)) (by rfl) dB.gm dB.kp dB.bd (passes_call (takes_of rfl rfl rfl rfl) (fun _ _ _ _ h => h)) (pa_cons (pv 1) (pa_cons pe_non pa_nil)))) pa_nil))))
    (pss_cons (ps_set (i := 0) scRR.nd rfl (.inl rfl) (pe_op op_cat (pv 0) (pe_lst (pa_cons (lam (by decide +kernel) rfl (fun _ _ _ _ _ => rfl) (fun A outer s H E f c' g1 g2 => pe_callX GC g1 (g2.mono (by decide)) (by rfl) dC.gm dC.kp dC.bd (passes_call (takes_of rfl rfl rfl rfl) (fun _ _ _ _ h => h)) (pa_cons (pv 1) (pa_cons pe_non pa_nil)))) (pa_cons (lamD (by decide +kernel) (by decide +kernel) rfl rfl pe_int (fun q cl t doc pm cv ctv v s ht => BindsTo.of_defaults rfl ht rfl rfl rfl) (fun A outer s H E f c' g1 g2 => pe_callX GD g1 (g2.mono (by decide)) (by rfl) dD.gm dD.kp dD.bd (passes_call (takes_of rfl rfl rfl rfl) (fun _ _ _ _ h => h)) (pa_cons (pv 1) (pa_cons (pe_tup (pa_cons pe_int (pa_cons pe_int pa_nil))) (pa_cons pe_non pa_nil))))) pa_nil)))))
    (pss_cons (ps_expr (pe_bm PySem.F.plainAttrs_list PySem.F.slot_list_append PySem.F.type_list_append mt_append (pv 0) (pa_cons (lam (by decide +kernel) rfl (fun _ _ _ _ _ => rfl) (fun A outer s H E f c' g1 g2 => pe_callX GE g1 (g2.mono (by decide)) (by rfl) dE.gm dE.kp dE.bd (passes_call (takes_of rfl rfl rfl rfl) (fun _ _ _ _ h => h)) (pa_cons (pv 1) (pa_cons (pe_tup (pa_cons pe_int (pa_cons pe_int pa_nil))) (pa_cons pe_non pa_nil))))) pa_nil)))
    (pss_cons (ps_expr (pe_bm PySem.F.plainAttrs_list PySem.F.slot_list_append PySem.F.type_list_append mt_append (pv 0) (pa_cons (lam (by decide +kernel) rfl (fun _ _ _ _ _ => rfl) (fun A outer s H E f c' g1 g2 => pe_callX GF g1 (g2.mono (by decide)) (by rfl) dF.gm dF.kp dF.bd (passes_call (takes_of rfl rfl rfl rfl) (fun _ _ _ _ h => h)) (pa_cons (pv 1) (pa_cons (pe_tup (pa_cons pe_int (pa_cons pe_int pa_nil))) (pa_cons (pe_tup pa_nil) (pa_cons pe_non pa_nil)))))) pa_nil)))
    (pss_cons (ps_set (i := 0) scRR.nd rfl (.inl rfl) (pe_op op_cat (pv 0) (pe_lst (pa_cons (lam (by decide +kernel) rfl (fun _ _ _ _ _ => rfl) (fun A outer s H E f c' g1 g2 => pe_callX GG g1 (g2.mono (by decide)) (by rfl) dG.gm dG.kp dG.bd (passes_call (takes_of rfl rfl rfl rfl) (fun _ _ _ _ h => h)) (pa_cons (pv 1) (pa_cons (pe_tup (pa_cons pe_int (pa_cons pe_int pa_nil))) (pa_cons (pe_tup pa_nil) (pa_cons pe_non pa_nil)))))) pa_nil))))
    (pss_cons (ps_expr (pe_bm PySem.F.plainAttrs_list PySem.F.slot_list_append PySem.F.type_list_append mt_append (pv 0) (pa_cons (lam (by decide +kernel) rfl (fun _ _ _ _ _ => rfl) (fun A outer s H E f c' g1 g2 => pe_callX GH g1 (g2.mono (by decide)) (by rfl) dH.gm dH.kp dH.bd (passes_call (takes_of rfl rfl rfl rfl) (fun _ _ _ _ h => h)) (pa_cons (pv 1) (pa_cons (pe_tup (pa_cons pe_int (pa_cons pe_int pa_nil))) (pa_cons (pe_tup pa_nil) (pa_cons pe_int (pa_cons pe_non pa_nil))))))) pa_nil)))
    (pss_cons (ps_if (pt_cmpR (op_neD hr.units) (pv 0) (pe_lc (own := [("at", 3)]) (te := tOp rCat (tLst (tCons (tC (.str "fault")) tNil)) (teKat 4 (tVar 3))) rfl scRR.nd (pi_range1 (by rfl) zr (pa_cons pe_int pa_nil)) (blkOk_by (own := [("at", 3)]) blkRR1) (fun s H C cl fp => pg_name (i := 3) scRR.nd rfl (.inr rfl)) (fun _ _ _ _ _ => pts_nil)
      (fun s H C cl fp => by
        refine pe_op op_cat (pe_lst (pa_cons pe_str pa_nil)) ?_
        refine pe_lc (own := [("k", 4)]) rfl scRR.nd ?_ (blkOk_by (sc := relS rrOut (defScope sRR)) (own := [("k", 4)]) blkRR2) (fun s H C cl fp => ?_) (fun _ _ _ _ _ => pts_nil) (fun _ _ _ _ _ => ?_)
        · exact pi_range1 (by rfl) zr (pa_cons pe_int pa_nil)
        · exact pg_name (i := 4) scRR.nd rfl (.inl rfl)
        · exact pe_cmpR op_eq (pv 4) (pv 3) (nomark _))) (nomark _)) (pss_one (ps_ret pe_bl)) pss_nil)
    (pss_one (ps_ret (pe_cmpR (op_eqD hr.units) (lam (by decide +kernel) rfl (fun _ _ _ _ _ => rfl) (fun A outer s H E f c' g1 g2 => pe_callX GI g1 (g2.mono (by decide)) (by rfl) dI.gm dI.kp dI.bd (passes_call (takes_of rfl rfl rfl rfl) (fun _ _ _ _ h => h)) (pa_cons (pv 2) (pa_cons (pe_tup (pa_cons pe_int (pa_cons pe_int pa_nil))) pa_nil)))) (pe_op op_cat (pe_lst (pa_cons pe_str pa_nil)) (pe_lc (own := [("k", 4)]) (te := tOp rEq (tVar 4) (tC (V.int 8))) rfl scRR.nd (pi_range1 (by rfl) zr (pa_cons pe_int pa_nil)) (blkOk_by (own := [("k", 4)]) blkRR3) (fun s H C cl fp => pg_name (i := 4) scRR.nd rfl (.inl rfl)) (fun _ _ _ _ _ => pts_nil) (fun _ _ _ _ _ => pe_cmpR op_eq (pv 4) pe_int (nomark _)))) (nomark _))))))))))), ?_⟩
  -- tool, wide = ((2, 2), ()), ((4,) * 5, ())
  refine seq_asg ⟨(by show 2 ≤ sizeLine; decide), fun t1 n1 => ⟨Nat.zero_le _, fun t2 n2 => ⟨(by show 2 ≤ sizeLine; decide), fun t n3 => ?_⟩⟩⟩
  refine ⟨(by show 1 ≤ sizeLine; decide), fun w0 n4 => ⟨w0, 5, [V.int 4], rfl, rfl, .inl (.inl upd_same), by simp, by decide, by decide, by decide, fun w1 n5 => ⟨Nat.zero_le _, fun w2 n6 => ⟨(by show 2 ≤ sizeLine; decide), fun wd n7 => ⟨(by show 2 ≤ sizeLine; decide), fun pr n8 => ?_⟩⟩⟩⟩⟩
  refine ⟨pr, _, rfl, .inl (.inl upd_same), rfl, _, _, rfl, _, _, rfl, rfl, ?_⟩
  have S1 := (((((((same_upd n1).trans (same_upd n2)).trans (same_upd n3)).trans (same_upd n4)).trans (same_upd n5)).trans (same_upd n6)).trans (same_upd n7)).trans (same_upd (o := .tup [.ref t, .ref wd]) n8)
  have RG : Rigs (upd _ pr (.tup [.ref t, .ref wd])) t wd := Rigs.mk (up_of n8 (up_of n7 (up_of n6 (up_of n5 (up_of n4 upd_same))))) (up_of n8 (up_of n7 (up_of n6 (up_of n5 (up_of n4 (up_of n3 (up_of n2 upd_same))))))) (up_of n8 (up_of n7 (up_of n6 (up_of n5 (up_of n4 (up_of n3 upd_same)))))) (up_of n8 upd_same) (up_of n8 (up_of n7 (up_of n6 upd_same))) (up_of n8 (up_of n7 upd_same))
  have T1 := hT.ext S1
  clear S1
  revert RG T1
  generalize upd _ pr _ = H1
  intro RG T1
  have shp : ∀ {E : XK} {H : Hp} {n : Nat} (_ : ∀ (dx : Addr) (H' : Hp) (fs : List (Str × V)), Same H H' → H' dx = some (.xd fs) → E (.ref (c n)) (some dx) H') (f : Str) (x : V), ToldV (c n) E H f x := fun hE f x dx H' S e => hE dx H' _ S e
  have shq : ∀ {E : XK} {H : Hp} {n : Nat} (_ : ∀ (dx : Addr) (H' : Hp) (fs : List (Str × V)), Same H H' → H' dx = some (.xd fs) → E (.ref (c n)) (some dx) H') (f : Str) (p : PyData), Told (c n) E H f p := fun hE f p dx pv H' S e1 e2 => hE dx H' _ S e2
  have nr : ∀ {E : XK} {H : Hp} p, wrongRig dTool = some p → Told (c 0) E H "path" p := fun p hp => by rw [tool_right] at hp; cases hp
  -- told = [.., ..]
  refine seq_asg (rd_lam 0 (by decide) KS T1 (fun E G R x hE => ⟨.non, .none, rfl, .non, fun p _ => shq hE _ _, fun hn => by obtain ⟨p, hp⟩ := rig_none; rw [hp] at hn; cases hn⟩) fun p1 H2 x2 T2 r1 => ?_)
  refine rd_lam 1 (by decide) KS T2 (fun E G R x hE => ⟨_, rfl, _, .non, dTool, .none, rfl, (RG.ext (x2.trans x)).tool, .non, nr, fun _ => ⟨fun _ => shp hE _ _, fun z => by rw [none_shape] at z; cases z⟩⟩) fun p2 H3 x3 T3 r2 => ⟨(by show 2 ≤ sizeLine; decide), fun l4 n4 => ?_⟩
  have e4 : ExtN H3 (upd H3 l4 (.lst [.ref p1, .ref p2])) := .of (same_upd n4)
  have RG4 := RG.ext ((x2.trans x3).trans e4)
  have T4 := T3.ext (same_upd (o := .lst [.ref p1, .ref p2]) n4)
  have r1_4 := r1.ext (x3.trans e4)
  have r2_4 := r2.ext e4
  have h4 : (upd H3 l4 (.lst [.ref p1, .ref p2])) l4 = some (.lst [.ref p1, .ref p2]) := upd_same
  generalize upd H3 l4 (.lst [.ref p1, .ref p2]) = H4 at RG4 T4 r1_4 r2_4 h4 ⊢
  -- told = told + [.., ..]
  refine seq_asg ⟨_, rfl, rd_lam 2 (by decide) KS T4 (fun E G R x hE => ⟨_, rfl, _, .non, dTool, .none, rfl, (RG4.ext x).tool, .non, nr, fun _ => ⟨fun _ => shp hE _ _, fun z => by rw [none_lot] at z; cases z⟩⟩) fun p3 H5 x5 T5 r3 => ?_⟩
  refine rd_lam 3 (by decide) KS T5 (fun E G R x hE => ⟨_, rfl, (by show 2 ≤ sizeLine; decide), fun o1 no1 => ⟨_, _, .non, dTool, dOne, .none, rfl, (Dq.same (same_upd no1) _ _ (RG4.ext (x5.trans x)).tool), .tup upd_same (.cons (.int 1) (.cons (.int 1) .nil)), .non, tool_right, one_shape, none_tup _ _, shp (fun dx H' fs S e => hE dx H' fs ((same_upd no1).trans S) e) _ _⟩⟩) fun p4 H6 x6 T6 r4 => ⟨(by show 2 ≤ sizeLine; decide), fun m7 n7 => ?_⟩
  refine ⟨l4, m7, _, _, rfl, rfl, up_of n7 (x6 _ _ (x5 _ _ h4 fun _ z => nomatch z) fun _ z => nomatch z), upd_same, (by show 4 ≤ sizeLine; decide), fun l8 n8 => ?_⟩
  have e8 : ExtN H6 (upd (upd H6 m7 (.lst [.ref p3, .ref p4])) l8 (.lst ([.ref p1, .ref p2] ++ [.ref p3, .ref p4]))) := .of ((same_upd n7).trans (same_upd n8))
  have RG8 := RG4.ext ((x5.trans x6).trans e8)
  have T8 := (T6.ext (same_upd (o := .lst [.ref p3, .ref p4]) n7)).ext (same_upd (o := .lst ([.ref p1, .ref p2] ++ [.ref p3, .ref p4])) n8)
  have r1_8 := r1_4.ext ((x5.trans x6).trans e8)
  have r2_8 := r2_4.ext ((x5.trans x6).trans e8)
  have r3_8 := r3.ext (x6.trans e8)
  have r4_8 := r4.ext e8
  have h8 : (upd (upd H6 m7 (.lst [.ref p3, .ref p4])) l8 (.lst ([.ref p1, .ref p2] ++ [.ref p3, .ref p4]))) l8 = some (.lst [.ref p1, .ref p2, .ref p3, .ref p4]) := upd_same
  clear e8
  generalize upd (upd H6 m7 (.lst [.ref p3, .ref p4])) l8 (.lst ([.ref p1, .ref p2] ++ [.ref p3, .ref p4])) = H8 at RG8 T8 r1_8 r2_8 r3_8 r4_8 h8 ⊢
  -- told.append(..)
  refine ⟨.ref l8, rfl, .inl ⟨rfl, _, .inl (.inl h8)⟩, rd_lam 4 (by decide) KS T8 (fun E G R x hE => ⟨_, rfl, (by show 2 ≤ sizeLine; decide), fun o1 no1 => ⟨_, _, .non, dTool, dOne, .none, .none, rfl, (Dq.same (same_upd no1) _ _ (RG8.ext x).tool), .tup upd_same (.cons (.int 1) (.cons (.int 1) .nil)), .non, tool_right, one_shape, suite_none, shq (fun dx H' fs S e => hE dx H' fs ((same_upd no1).trans S) e) _ _⟩⟩) fun p5 H9 x9 T9 r5 => ?_⟩
  have h9 := x9 _ _ h8 fun _ z => nomatch z
  refine ⟨l8, _, _, rfl, rfl, h9, (by show 4 < sizeLine; decide), ?_⟩
  have hy : ∀ {p : Addr} {r : List V} (x : Str), (V.ref p :: r)[0]? ≠ some (V.str x) := fun x z => nomatch (show some (V.ref _) = some (V.str x) from z)
  have RG10 := (RG8.ext x9).put (o := .lst ([.ref p1, .ref p2, .ref p3, .ref p4] ++ [.ref p5])) h9
  have T10 := tabs_put (zs := [.ref p1, .ref p2, .ref p3, .ref p4] ++ [.ref p5]) T9 h9
  have r1_10 := (r1_8.ext x9).put (o := .lst ([.ref p1, .ref p2, .ref p3, .ref p4] ++ [.ref p5])) h9 hy
  have r2_10 := (r2_8.ext x9).put (o := .lst ([.ref p1, .ref p2, .ref p3, .ref p4] ++ [.ref p5])) h9 hy
  have r3_10 := (r3_8.ext x9).put (o := .lst ([.ref p1, .ref p2, .ref p3, .ref p4] ++ [.ref p5])) h9 hy
  have r4_10 := (r4_8.ext x9).put (o := .lst ([.ref p1, .ref p2, .ref p3, .ref p4] ++ [.ref p5])) h9 hy
  have r5_10 := r5.put (o := .lst ([.ref p1, .ref p2, .ref p3, .ref p4] ++ [.ref p5])) h9 hy
  have h10 : (upd H9 l8 (.lst ([.ref p1, .ref p2, .ref p3, .ref p4] ++ [.ref p5]))) l8 = some (.lst [.ref p1, .ref p2, .ref p3, .ref p4, .ref p5]) := upd_same
  generalize upd H9 l8 (.lst ([.ref p1, .ref p2, .ref p3, .ref p4] ++ [.ref p5])) = H10 at RG10 T10 r1_10 r2_10 r3_10 r4_10 r5_10 h10 ⊢
  -- told.append(..)
  refine ⟨.ref l8, rfl, .inl ⟨rfl, _, .inl (.inl h10)⟩, rd_lam 5 (by decide) KS T10 (fun E G R x hE => ⟨_, rfl, (by show 2 ≤ sizeLine; decide), fun o1 no1 => ⟨Nat.zero_le _, fun o2 no2 => ⟨_, _, .non, o2, [], dTool, dOne, .tuple [], .none, rfl, (Dq.same ((same_upd no1).trans (same_upd no2)) _ _ (RG10.ext x).tool), .tup (up_of no2 upd_same) (.cons (.int 1) (.cons (.int 1) .nil)), .tup upd_same .nil, .non, tool_right, one_shape, suite_right, .inr upd_same, none_tup _ _, shp (fun dx H' fs S e => hE dx H' fs (((same_upd no1).trans (same_upd no2)).trans S) e) _ _⟩⟩⟩) fun p6 H11 x11 T11 r6 => ?_⟩
  have h11 := x11 _ _ h10 fun _ z => nomatch z
  refine ⟨l8, _, _, rfl, rfl, h11, (by show 5 < sizeLine; decide), ?_⟩
  have RG12 := (RG10.ext x11).put (o := .lst ([.ref p1, .ref p2, .ref p3, .ref p4, .ref p5] ++ [.ref p6])) h11
  have T12 := tabs_put (zs := [.ref p1, .ref p2, .ref p3, .ref p4, .ref p5] ++ [.ref p6]) T11 h11
  have r1_12 := (r1_10.ext x11).put (o := .lst ([.ref p1, .ref p2, .ref p3, .ref p4, .ref p5] ++ [.ref p6])) h11 hy
  have r2_12 := (r2_10.ext x11).put (o := .lst ([.ref p1, .ref p2, .ref p3, .ref p4, .ref p5] ++ [.ref p6])) h11 hy
  have r3_12 := (r3_10.ext x11).put (o := .lst ([.ref p1, .ref p2, .ref p3, .ref p4, .ref p5] ++ [.ref p6])) h11 hy
  have r4_12 := (r4_10.ext x11).put (o := .lst ([.ref p1, .ref p2, .ref p3, .ref p4, .ref p5] ++ [.ref p6])) h11 hy
  have r5_12 := (r5_10.ext x11).put (o := .lst ([.ref p1, .ref p2, .ref p3, .ref p4, .ref p5] ++ [.ref p6])) h11 hy
  have r6_12 := r6.put (o := .lst ([.ref p1, .ref p2, .ref p3, .ref p4, .ref p5] ++ [.ref p6])) h11 hy
  have h12 : (upd H11 l8 (.lst ([.ref p1, .ref p2, .ref p3, .ref p4, .ref p5] ++ [.ref p6]))) l8 = some (.lst [.ref p1, .ref p2, .ref p3, .ref p4, .ref p5, .ref p6]) := upd_same
  generalize upd H11 l8 (.lst ([.ref p1, .ref p2, .ref p3, .ref p4, .ref p5] ++ [.ref p6])) = H12 at RG12 T12 r1_12 r2_12 r3_12 r4_12 r5_12 r6_12 h12 ⊢
  -- told = told + [..]
  refine ⟨_, rfl, rd_lam 6 (by decide) KS T12 (fun E G R x hE => ⟨_, rfl, (by show 2 ≤ sizeLine; decide), fun o1 no1 => ⟨Nat.zero_le _, fun o2 no2 => ⟨_, _, _, .non, dTool, dOne, .tuple [], .none, rfl, (Dq.same ((same_upd no1).trans (same_upd no2)) _ _ (RG12.ext x).tool), .tup (up_of no2 upd_same) (.cons (.int 1) (.cons (.int 1) .nil)), .tup upd_same .nil, .non, tool_right, one_shape, suite_right, none_num, shp (fun dx H' fs S e => hE dx H' fs (((same_upd no1).trans (same_upd no2)).trans S) e) _ _⟩⟩⟩) fun p7 H13 x13 T13 r7 => ⟨(by show 1 ≤ sizeLine; decide), fun m14 n14 => ?_⟩⟩
  refine ⟨l8, m14, _, _, rfl, rfl, up_of n14 (x13 _ _ h12 fun _ z => nomatch z), upd_same, (by show 7 ≤ sizeLine; decide), fun l15 n15 => ?_⟩
  have e15 : ExtN H13 (upd (upd H13 m14 (.lst [.ref p7])) l15 (.lst ([.ref p1, .ref p2, .ref p3, .ref p4, .ref p5, .ref p6] ++ [.ref p7]))) := .of ((same_upd n14).trans (same_upd n15))
  have RG15 := RG12.ext (x13.trans e15)
  have T15 := (T13.ext (same_upd (o := .lst [.ref p7]) n14)).ext (same_upd (o := .lst ([.ref p1, .ref p2, .ref p3, .ref p4, .ref p5, .ref p6] ++ [.ref p7])) n15)
  have r1_15 := r1_12.ext (x13.trans e15)
  have r2_15 := r2_12.ext (x13.trans e15)
  have r3_15 := r3_12.ext (x13.trans e15)
  have r4_15 := r4_12.ext (x13.trans e15)
  have r5_15 := r5_12.ext (x13.trans e15)
  have r6_15 := r6_12.ext (x13.trans e15)
  have r7_15 := r7.ext e15
  have h15 : (upd (upd H13 m14 (.lst [.ref p7])) l15 (.lst ([.ref p1, .ref p2, .ref p3, .ref p4, .ref p5, .ref p6] ++ [.ref p7]))) l15 = some (.lst [.ref p1, .ref p2, .ref p3, .ref p4, .ref p5, .ref p6, .ref p7]) := upd_same
  clear e15
  generalize upd (upd H13 m14 (.lst [.ref p7])) l15 (.lst ([.ref p1, .ref p2, .ref p3, .ref p4, .ref p5, .ref p6] ++ [.ref p7])) = H15 at RG15 T15 r1_15 r2_15 r3_15 r4_15 r5_15 r6_15 r7_15 h15 ⊢
  -- told.append(..)
  refine ⟨.ref l15, rfl, .inl ⟨rfl, _, .inl (.inl h15)⟩, rd_lam 7 (by decide) KS T15 (fun E G R x hE => ⟨_, rfl, (by show 2 ≤ sizeLine; decide), fun o1 no1 => ⟨Nat.zero_le _, fun o2 no2 => ⟨_, _, _, .int 0, .non, dTool, dOne, .tuple [], .int 0, .none, rfl, (Dq.same ((same_upd no1).trans (same_upd no2)) _ _ (RG15.ext x).tool), .tup (up_of no2 upd_same) (.cons (.int 1) (.cons (.int 1) .nil)), .tup upd_same .nil, .int 0, .non, tool_right, one_shape, suite_right, zero_num, none_tup _ _, none_tup _ _, shp (fun dx H' fs S e => hE dx H' fs (((same_upd no1).trans (same_upd no2)).trans S) e) _ _⟩⟩⟩) fun p8 H16 x16 T16 r8 => ?_⟩
  have h16 := x16 _ _ h15 fun _ z => nomatch z
  refine ⟨l15, _, _, rfl, rfl, h16, (by show 7 < sizeLine; decide), ?_⟩
  have rows : ∀ j v, [V.ref p1, .ref p2, .ref p3, .ref p4, .ref p5, .ref p6, .ref p7, .ref p8][j]? = some v → IsRow (upd H16 l15 (.lst ([.ref p1, .ref p2, .ref p3, .ref p4, .ref p5, .ref p6, .ref p7] ++ [.ref p8]))) "fault" (0 + j) v := fun j v e => by
    rcases j with _ | _ | _ | _ | _ | _ | _ | _ | j
    · exact Option.some.inj e ▸ (r1_15.ext x16).put h16 hy
    · exact Option.some.inj e ▸ (r2_15.ext x16).put h16 hy
    · exact Option.some.inj e ▸ (r3_15.ext x16).put h16 hy
    · exact Option.some.inj e ▸ (r4_15.ext x16).put h16 hy
    · exact Option.some.inj e ▸ (r5_15.ext x16).put h16 hy
    · exact Option.some.inj e ▸ (r6_15.ext x16).put h16 hy
    · exact Option.some.inj e ▸ (r7_15.ext x16).put h16 hy
    · exact Option.some.inj e ▸ r8.put h16 hy
    · exact nomatch (show none = some v from e)
  have RG17 := (RG15.ext x16).put (o := .lst ([.ref p1, .ref p2, .ref p3, .ref p4, .ref p5, .ref p6, .ref p7] ++ [.ref p8])) h16
  have T17 := tabs_put (zs := [.ref p1, .ref p2, .ref p3, .ref p4, .ref p5, .ref p6, .ref p7] ++ [.ref p8]) T16 h16
  have h17 : (upd H16 l15 (.lst ([.ref p1, .ref p2, .ref p3, .ref p4, .ref p5, .ref p6, .ref p7] ++ [.ref p8]))) l15 = some (.lst [.ref p1, .ref p2, .ref p3, .ref p4, .ref p5, .ref p6, .ref p7, .ref p8]) := upd_same
  generalize upd H16 l15 (.lst ([.ref p1, .ref p2, .ref p3, .ref p4, .ref p5, .ref p6, .ref p7] ++ [.ref p8])) = H17 at RG17 T17 rows h17 ⊢
  -- if told != [["fault"] + [k == at for k in range(9)] for at in range(8)]
  refine ⟨.ref l15, rfl, 8, rfl, by decide, by decide, fun D nD => ?_⟩
  refine lc_it (walk_range (lo := 0) (n := 8)) (fun i Hh => ∃ xs, Hh D = some (.lst xs) ∧ Same H17 Hh ∧ xs.length = i ∧ i ≤ 8 ∧ ∀ j v, xs[j]? = some v → IsRow Hh "fault" (0 + j) v) ⟨[], upd_same, same_upd nD, rfl, by decide, fun j v e => nomatch e⟩ (fun _ _ _ _ => trivial) ?_ ?_
  · rintro i x Hh H' hi ⟨xs, hD, S, hlen, hi8, hr⟩ ⟨rfl, hx⟩
    have hx' : x = V.int (i : Int) := (show x = V.int (0 + (i : Int)) from hx).trans (by rw [Int.zero_add])
    subst hx'
    refine ⟨rfl, iteR ?_⟩
    refine ⟨(by show 1 ≤ sizeLine; decide), fun f1 nf1 => rd_kat (n := (i : Int)) (fun _ => rfl) (fun _ => rfl) (fun v G R _ r => ⟨_, rfl, r⟩) fun K1 H2 S2 nK hK => ?_⟩
    refine ⟨f1, K1, _, _, rfl, rfl, S2 _ _ upd_same, hK, (by show 10 ≤ sizeLine; decide), fun y ny => ?_⟩
    have S3 : Same H' (upd H2 y (.lst ([V.str "fault"] ++ (katB (i : Int)).map V.bl))) := ((same_upd nf1).trans S2).trans (same_upd ny)
    have hD3 := S3 _ _ hD
    refine ⟨xs, hD3, by rw [hlen, sizeLine_eq]; omega, xs ++ [.ref y], upd_same, same_upd2 nD (S.trans S3), by rw [List.length_append, hlen]; rfl, by have z : i < 8 := hi; omega, fun j v e => ?_⟩
    have hyx : ∀ x, xs[0]? ≠ some (V.str x) := fun x z => by
      obtain ⟨p, e1, _⟩ := hr 0 _ z
      cases e1
    by_cases hj : j < xs.length
    · rw [List.getElem?_append_left hj] at e
      exact ((hr j v e).ext (.of S3)).put hD3 hyx
    · rw [List.getElem?_append_right (by omega)] at e
      have hj0 : j - xs.length = 0 := by
        rcases Nat.eq_zero_or_pos (j - xs.length) with z | z
        · exact z
        · rw [List.getElem?_eq_none (by simp; omega)] at e
          cases e
      rw [hj0] at e
      have ev : V.ref y = v := Option.some.inj e
      subst ev
      have hji : 0 + j = i := by omega
      rw [hji]
      exact IsRow.put ⟨y, rfl, upd_same⟩ hD3 hyx
  · rintro Hh ⟨xs, hD, S, hlen, _, hr⟩
    have z := rows_dp (K := K) (H := Hh) (s := "fault") xs 0 hr
    rw [hlen] at z
    refine ⟨dRows, dRows, .lst (.inl (.inl (S _ _ h17))) (rows_dp [V.ref p1, .ref p2, .ref p3, .ref p4, .ref p5, .ref p6, .ref p7, .ref p8] 0 fun j v e => (rows j v e).ext (.of S)), .lst (.inl (.inl hD)) z, rows_shaped, rows_shaped, _, rfl, ?_⟩
    rw [rows_eqv]
    refine iteF ?_
    -- return _law_raised(..) == ["great"] + [..]
    refine rd_lam 8 (by decide) KS (T17.ext S) (fun E G R x hE => ⟨_, rfl, (by show 2 ≤ sizeLine; decide), fun o1 no1 => ⟨_, _, dWide, dTwo, rfl, Dq.same (same_upd no1) _ _ (RG17.ext ((ExtN.of S).trans x)).wide, .tup upd_same (.cons (.int 2) (.cons (.int 2) .nil)), wide_right, two_shape, wide_len.1, wide_many, fun dx H' S' e => hE dx H' _ ((same_upd no1).trans S') e⟩⟩) fun p9 H18 x18 T18 r9 => ?_
    refine ⟨(by show 1 ≤ sizeLine; decide), fun f1 nf1 => rd_kat (n := 8) (fun _ => rfl) (fun _ => rfl) (fun v G R _ r => r) fun K1 H2 S2 nK hK => ?_⟩
    refine ⟨f1, K1, _, _, rfl, rfl, S2 _ _ upd_same, hK, (by show 10 ≤ sizeLine; decide), fun y ny => ?_⟩
    refine ⟨rowP "great" 8, rowP "great" 8, (r9.ext (.of (((same_upd nf1).trans S2).trans (same_upd ny)))).dp, IsRow.dp ⟨y, rfl, upd_same⟩, great_shaped, great_shaped, ?_⟩
    rw [great_eqv]
    exact q _
end
end K17

set_option Elab.async false
set_option linter.all false
set_option maxRecDepth 100000
set_option maxHeartbeats 4000000
/-! ### the further errors' own __init__; errors made as values; things that are written; _law_like, _law_of, _law_odds -/
namespace K17
open PySem PySem.Spec PyProof.Rows L2 KG K80 KT KR KC KN
abbrev sOutI : Stmt := inClass (topS 8) 0
abbrev sNumI : Stmt := inClass (topS 9) 0
abbrev sPaperI : Stmt := inClass (topS 10) 0
abbrev sGreatI : Stmt := inClass (topS 11) 0
section
variable {P : Program} {w : World} {K : PySem.W.Frag} {mg : Str → Option Value} {base : Heap} {F0 : Addr}
theorem ok_outI {f : Addr} {fd : FuncData} {k : Nat} (F : Fun K "__init__" "BadOutcomes.__init__" sOutI f fd) (T : FE K mg F0) : FnG P w K mg base (k + 1) f fd ["self", "value"] (spIni K Any "value") := by
  have sc : FnScope ["self", "value"] ["self", "value"] (defScope sOutI) := ⟨rfl, rfl, rfl, by decide +kernel, rfl, by decide +kernel, by decide +kernel⟩
  refine fnG_of F sc (fun vs H Q E h => ?_) (fun cdv A outer s H vs Q E hgd hr h => ?_)
  · obtain ⟨a, C, y, rfl, _⟩ := h
    rfl
  · obtain ⟨a, C, y, rfl, hX, ht, ha, _, q⟩ := h
    refine ⟨_, pss_cons (ps_expr (pe_ownInit PySem.F.excBase_ValueError rfl T.gF T.ga T.rd T.fc (by decide +kernel) (pa_cons (pv 0) (pa_cons pe_str pa_nil))))
      (pss_one (ps_gst (newId := "ValueError.__new__") PySem.F.store_ValueError (pv 0) (pv 1))), ?_⟩
    exact ⟨_, rfl, a, C, _, rfl, by show 1 ≤ 1000; decide, hX, ha, _, rfl, _, rfl, a, C, rfl, hX, ht, ha, q⟩
theorem ok_numI {f : Addr} {fd : FuncData} {k : Nat} (F : Fun K "__init__" "BadNumber.__init__" sNumI f fd) (T : FE K mg F0) : FnG P w K mg base (k + 1) f fd ["self", "value"] (spIni K Any "value") := by
  have sc : FnScope ["self", "value"] ["self", "value"] (defScope sNumI) := ⟨rfl, rfl, rfl, by decide +kernel, rfl, by decide +kernel, by decide +kernel⟩
  refine fnG_of F sc (fun vs H Q E h => ?_) (fun cdv A outer s H vs Q E hgd hr h => ?_)
  · obtain ⟨a, C, y, rfl, _⟩ := h
    rfl
  · obtain ⟨a, C, y, rfl, hX, ht, ha, _, q⟩ := h
    refine ⟨_, pss_cons (ps_expr (pe_ownInit PySem.F.excBase_ValueError rfl T.gF T.ga T.rd T.fc (by decide +kernel) (pa_cons (pv 0) (pa_cons pe_str pa_nil))))
      (pss_one (ps_gst (newId := "ValueError.__new__") PySem.F.store_ValueError (pv 0) (pv 1))), ?_⟩
    exact ⟨_, rfl, a, C, _, rfl, by show 1 ≤ 1000; decide, hX, ha, _, rfl, _, rfl, a, C, rfl, hX, ht, ha, q⟩
theorem ok_paperI {f : Addr} {fd : FuncData} {k : Nat} (F : Fun K "__init__" "BadPaper.__init__" sPaperI f fd) (T : FE K mg F0) : FnG P w K mg base (k + 1) f fd ["self", "word"] (spIni K Okd "word") := by
  have sc : FnScope ["self", "word"] ["self", "word"] (defScope sPaperI) := ⟨rfl, rfl, rfl, by decide +kernel, rfl, by decide +kernel, by decide +kernel⟩
  refine fnG_of F sc (fun vs H Q E h => ?_) (fun cdv A outer s H vs Q E hgd hr h => ?_)
  · obtain ⟨a, C, y, rfl, _⟩ := h
    rfl
  · obtain ⟨a, C, y, rfl, hX, ht, ha, ⟨d, hd, hs⟩, q⟩ := h
    refine ⟨_, pss_cons (ps_expr (pe_ownInit PySem.F.excBase_ValueError rfl T.gF T.ga T.rd T.fc (by decide +kernel) (pa_cons (pv 0) (pa_cons (pe_joined (PJ.cons pe_str (PJ.cons (pe_fmtD hgd hr.units (pv 1)) PJ.nil))) pa_nil))))
      (pss_one (ps_gst (newId := "ValueError.__new__") PySem.F.store_ValueError (pv 0) (pv 1))), ?_⟩
    refine ⟨_, rfl, _, rfl, by decide, _, rfl, d, hd, hs, fun t ht' => ⟨_, rfl, ?_, a, C, _, rfl, by show 1 ≤ 1000; decide, hX, ha, ?_⟩⟩
    · rw [PySem.strLen_append]
      exact Nat.le_trans (Nat.add_le_add (show _ ≤ 1000 by decide) ht') (by decide)
    · exact ⟨_, rfl, _, rfl, a, C, rfl, hX, ht, ha, q⟩
theorem ok_greatI {f : Addr} {fd : FuncData} {k : Nat} (F : Fun K "__init__" "TooGreat.__init__" sGreatI f fd) (zo : mg "OverflowError" = none) (fc : PySem.W.findCls K (.type "OverflowError") (.type "type") "__init__" = some (.val (.builtin "OverflowError.__init__"))) : FnG P w K mg base (k + 1) f fd ["self", "most"] (spIniG K "OverflowError.__new__" oeB Okd "most") := by
  have sc : FnScope ["self", "most"] ["self", "most"] (defScope sGreatI) := ⟨rfl, rfl, rfl, by decide +kernel, rfl, by decide +kernel, by decide +kernel⟩
  refine fnG_of F sc (fun vs H Q E h => ?_) (fun cdv A outer s H vs Q E hgd hr h => ?_)
  · obtain ⟨a, C, y, rfl, _⟩ := h
    rfl
  · obtain ⟨a, C, y, rfl, hX, ht, ha, ⟨d, hd, hs⟩, q⟩ := h
    refine ⟨_, pss_cons (ps_expr (pe_oeInit rfl zo fc (pa_cons (pv 0) (pa_cons (pe_joined (PJ.cons pe_str (PJ.cons (pe_fmtD hgd hr.units (pv 1)) PJ.nil))) pa_nil))))
      (pss_one (ps_gst (newId := "OverflowError.__new__") PySem.F.store_OverflowError (pv 0) (pv 1))), ?_⟩
    refine ⟨_, rfl, _, rfl, by decide, _, rfl, d, hd, hs, fun t ht' => ⟨_, rfl, ?_, a, C, _, rfl, by show 1 ≤ 1000; decide, hX, ha, ?_⟩⟩
    · rw [PySem.strLen_append]
      exact Nat.le_trans (Nat.add_le_add (show _ ≤ 1000 by decide) ht') (by decide)
    · exact ⟨_, rfl, _, rfl, a, C, rfl, hX, ht, ha, q⟩
end
/-! errors as values -/
/-- an own error of one field that is made as a value -/
structure OwV (P : Program) (w : World) (K : PySem.W.Frag) (mg : Str → Option Value) (base : Heap) (newId : String) (bm : List Value) (ok : Hp → V → Prop) (x f : Str) (C : Addr) : Prop where
  gm : mg x = some (.ref C)
  xb : XB K C newId bm
  no : PySem.W.findIn K (.ref C) f = some none
  ta : PySem.W.takerIn K C f = some none
  ec : ExcC K C
  ini : ∃ (fI : Addr) (fd : FuncData), PySem.W.findIn K (.ref C) "__init__" = some (some (.ref fI)) ∧ PySem.W.typeIn K (.ref fI) = some (.type "function") ∧ FnG P w K mg base 1 fI fd ["self", f] (spIniG K newId bm ok f) ∧ Binds K fd ["self", f] [] ∧
    ∀ (s : Shared) (v0 : Value) (ws : List Value), ws.length = 1 → BindsTo s fd ⟨[v0], ([f] : List Str).zip ws⟩ ((["self", f] : List Str).zip (v0 :: ws))
theorem cons_of {te : TE} {tr : TA} {σ : L2.St} {H : Hp} {Q : List V → Hp → Prop} (h : te σ H fun x H1 => tr σ H1 fun xs H2 => Q (x :: xs) H2) : tCons te tr σ H Q := h
theorem lst_of {t : TA} {σ : L2.St} {H : Hp} {Q : VK} (h : t σ H fun xs H1 => xs.length ≤ sizeLine ∧ ∀ p, H1 p = none → Q (.ref p) (upd H1 p (.lst xs))) : tLst t σ H Q := h
section
variable {P : Program} {w : World} {K : PySem.W.Frag} {mg : Str → Option Value} {base : Heap} {newId : String} {bm : List Value} {ok : Hp → V → Prop} {x f : Str} {C : Addr}
theorem rdV {σ : L2.St} {H : Hp} {Q : VK} {i : Nat} {q : V} (O : OwV P w K mg base newId bm ok x f C) (so : Stays ok) (h0 : σ[i]? = some (some q)) (hq : ok H q)
    (k : ∀ a H', Same H H' → H a = none → Err K H' a C [(f, q)] → Q (.ref a) H') : tXv C (spIniG K newId bm ok f) (tCons (tVar i) tNil) σ H Q := by
  refine ⟨q, h0, by show 1 ≤ 1000; decide, fun a na => ⟨a, C, q, rfl, O.xb, O.ta, upd_same, so _ _ _ (same_upd na) hq, fun dx nd ne => ⟨rfl, ?_⟩⟩⟩
  rw [upd_ne ne] at nd
  refine k a _ (fun b o e => ?_) na ⟨O.ec, dx, upd_same, ?_⟩
  · rw [upd_ne (ne_of_none e na), upd_ne (ne_of_none e nd), upd_ne (ne_of_none e na)]
    exact e
  · rw [upd_ne ne]
    exact upd_same
theorem rdVK {σ : L2.St} {H : Hp} {Q : VK} {i : Nat} {q : V} (O : OwV P w K mg base newId bm ok x f C) (so : Stays ok) (h0 : σ[i]? = some (some q)) (hq : ok H q)
    (k : ∀ a H', Same H H' → H a = none → Err K H' a C [(f, q)] → Q (.ref a) H') : tXk C 1 id (spIniG K newId bm ok f) (tCons (tVar i) tNil) σ H Q := by
  refine ⟨q, h0, rfl, fun a na => ⟨a, C, q, rfl, O.xb, O.ta, upd_same, so _ _ _ (same_upd na) hq, fun dx nd ne => ⟨rfl, ?_⟩⟩⟩
  rw [upd_ne ne] at nd
  refine k a _ (fun b o e => ?_) na ⟨O.ec, dx, upd_same, ?_⟩
  · rw [upd_ne (ne_of_none e na), upd_ne (ne_of_none e nd), upd_ne (ne_of_none e na)]
    exact e
  · rw [upd_ne ne]
    exact upd_same
end
/-! small data -/
structure Sml (d : PyData) : Prop where
  sh : d.showable = true
  dp : d.depth ≤ 6
  sz : d.shown.length ≤ 2000
  st : ∀ y : Str, d = .str y → y.length ≤ 2000
def smlB (d : PyData) : Bool := d.showable && decide (d.depth ≤ 6) && decide (d.shown.length ≤ 2000) && match d with | .str y => decide (y.length ≤ 2000) | _ => true
theorem sml_by {d : PyData} (h : smlB d = true) : Sml d := by
  unfold smlB at h
  simp only [Bool.and_eq_true, decide_eq_true_eq] at h
  obtain ⟨⟨⟨h1, h2⟩, h3⟩, h4⟩ := h
  exact ⟨h1, h2, h3, fun y e => by subst e; exact of_decide_eq_true h4⟩
theorem Sml.shw {d : PyData} (h : Sml d) : Shw d := ⟨h.sh, Nat.le_trans h.dp (by decide), Nat.le_trans h.sz (by decide), fun y e => Nat.le_trans (h.st y e) (by decide)⟩
def OkS (H : Hp) (v : V) : Prop := ∃ d, Dq H v d ∧ Sml d
theorem OkS.okd {H : Hp} {v : V} (h : OkS H v) : Okd H v := by
  obtain ⟨d, h1, h2⟩ := h
  exact ⟨d, h1, h2.shw⟩
theorem OkS.same {H H' : Hp} {v : V} (h : OkS H v) (s : Same H H') : OkS H' v := by
  obtain ⟨d, h1, h2⟩ := h
  exact ⟨d, Dq.same s _ _ h1, h2⟩
/-! what is written gives a new thing -/
/-- the part of a heap that is new -/
def fr (H H' : Hp) : Hp := fun b => match H b with
  | some _ => none
  | none => H' b
theorem fr_get {H H' : Hp} {b : Addr} {o : HO} (n : H b = none) (e : H' b = some o) : fr H H' b = some o := by
  unfold fr
  rw [n]
  exact e
theorem fr_of {H H' : Hp} {b : Addr} {o : HO} (e : fr H H' b = some o) : H b = none ∧ H' b = some o := by
  unfold fr at e
  cases h : H b with
  | none =>
    rw [h] at e
    exact ⟨rfl, e⟩
  | some u =>
    rw [h] at e
    cases e
theorem fr_le (H H' : Hp) : Same (fr H H') H' := fun b o e => (fr_of e).2
theorem fr_up {H H1 H2 : Hp} (S : Same H1 H2) : Same (fr H H1) (fr H H2) := fun b o e => fr_get (fr_of e).1 (S _ _ (fr_of e).2)
theorem fr_down {H H1 H2 : Hp} (S : Same H H1) : Same (fr H1 H2) (fr H H2) := fun b o e => fr_get (S.free (fr_of e).1) (fr_of e).2
def Gives (te : TE) (d : PyData) : Prop := ∀ (σ : L2.St) (H : Hp) (Q : VK), (∀ v H', Same H H' → Dq (fr H H') v d → Q v H') → te σ H Q
def GivesA (ta : TA) (ds : List PyData) : Prop := ∀ (σ : L2.St) (H : Hp) (Q : List V → Hp → Prop), (∀ vs H', Same H H' → DqA (fr H H') vs ds → Q vs H') → ta σ H Q
theorem g_non : Gives (tC .non) .none := fun σ H Q q => q _ _ (Same.refl _) .non
theorem g_int {i : Int} : Gives (tC (.int i)) (.int i) := fun σ H Q q => q _ _ (Same.refl _) (.int i)
theorem g_neg {i : Int} : Gives (tUn (rU fun i => .int (-i)) (tC (.int i))) (.int (-i)) := fun σ H Q q => ⟨i, rfl, q _ _ (Same.refl _) (.int _)⟩
theorem g_pow {i j : Int} (h : CPow i j) : Gives (tOp (rI CPow fun i j => .int (i ^ j.toNat)) (tC (.int i)) (tC (.int j))) (.int (i ^ j.toNat)) := fun σ H Q q => ⟨i, j, rfl, rfl, h, q _ _ (Same.refl _) (.int _)⟩
theorem g_bl {b : Bool} : Gives (tC (.bl b)) (.bool b) := fun σ H Q q => q _ _ (Same.refl _) (.bl b)
theorem g_str {x : Str} : Gives (tC (.str x)) (.str x) := fun σ H Q q => q _ _ (Same.refl _) (.str x)
theorem g_dct : Gives tDNewK (.dict []) := fun σ H Q q d n => q _ _ (same_upd n) (.dct (ks := []) (fr_get n upd_same))
theorem g_tup {ta : TA} {ds : List PyData} (h : GivesA ta ds) (hl : ds.length ≤ 1000) : Gives (tTup ta) (.tuple ds) := fun σ H Q q => h σ H _ fun vs H1 S D =>
  ⟨by rw [DqA.len D, sizeLine_eq]; omega, fun p n => q _ _ (S.trans (same_upd n)) (.tup (fr_get (S.free n) upd_same) (DqA.same (fr_up (same_upd n)) _ _ D))⟩
theorem g_lst {ta : TA} {ds : List PyData} (h : GivesA ta ds) (hl : ds.length ≤ 1000) : Gives (tLstN ta) (.list ds) := fun σ H Q q => h σ H _ fun vs H1 S D =>
  ⟨by rw [DqA.len D, sizeLine_eq]; omega, fun p n k => q _ _ (S.trans (same_upd n)) (.lst (fr_get (S.free n) upd_same) k (DqA.same (fr_up (same_upd n)) _ _ D))⟩
theorem g_nil : GivesA tNil [] := fun σ H Q q => q _ _ (Same.refl _) .nil
theorem g_cons {te : TE} {tr : TA} {d : PyData} {ds : List PyData} (h : Gives te d) (hr : GivesA tr ds) : GivesA (tCons te tr) (d :: ds) := fun σ H Q q =>
  h σ H _ fun v H1 S1 D1 => hr σ H1 _ fun vs H2 S2 D2 => q _ _ (S1.trans S2) (.cons (Dq.same (fr_up S2) _ _ D1) (DqA.same (fr_down S1) _ _ D2))
/-! a list times an int, with one word more on its place -/
def rRepN : R2 := fun x y H Q => ∃ l k xs, x = .ref l ∧ y = .int k ∧ H l = some (.lst xs) ∧ 0 ≤ k ∧ k ≤ 1000 ∧ xs.length ≤ 1000 ∧ ∀ p, H p = none → p ≠ sysModules → Q (.ref p) (upd H p (.lst (List.replicate k.toNat xs).flatten))
theorem op_repN {X : Cx} : OpR X (binaryOp .Mult) rRepN := by
  intro pins s σ H x y v u Q I rx ry ⟨l, k, xs, e1, e2, hH, k0, k1, hx, q⟩
  subst e1 e2
  cases rx
  obtain ⟨t, rfl⟩ := ry
  obtain ⟨z, its, n, r, hl, e⟩ := I.lstM hH
  have hz : xs.length * k.toNat ≤ sizeLine := Nat.le_trans (Nat.mul_le_mul hx (show k.toNat ≤ 1000 by omega)) (by decide)
  have sz : its.toArray.size * k.toNat ≤ sizeLine := by
    rw [List.size_toArray, ← hl]
    exact hz
  have c1 : ¬ (!Builtin.List.listFitsIndex k) = true := by
    rw [fitsIndex_both (by omega) (by omega)]
    exact Bool.false_ne_true
  have c2 : ¬ its.toArray.size * k.toNat > (2 ^ 63 - 1) / 8 := Nat.not_lt.mpr (Nat.le_trans sz (by decide))
  have c3 : ¬ Builtin.List.listTooLong (its.toArray.size * k.toNat) = true := by
    rw [notLongL sz]
    exact Bool.false_ne_true
  have made : List.foldl (fun x1 x2 => x1 ++ x2) #[] (List.replicate (if its.toArray.isEmpty = true then 0 else k.toNat) its.toArray) = (List.replicate k.toNat its).flatten.toArray := by
    rw [size_rep]
    cases its with
    | nil => simp
    | cons a r' => rw [if_neg (by simp)]
  refine wpAny_binaryOp_repeat_ref (T := "list") (U := "int") (by decide) ⟨_, e, rfl⟩ (fun s' => typeIs_int s' k t) noFill_list_mul F.fills_int_mul F.slot_int_rmul repeat_list F.slot_int_index.lookup
    (call_meets F.slot_int_rmul (typeIs_int s k t) F.entry_int_rmul (F.args_int_rmul_2 _ _) (int___rmul___int_list k t l its.toArray n)
      ⟨e, rfl, ⟨_, e, rfl⟩, call_meets F.slot_list_mul ⟨_, e, rfl⟩ F.entry_list_mul (F.args_list_mul_2 _ _) (AutoListH.list___mul___list_int_3 l its.toArray n k t c1 c2 c3) ⟨e, ?_⟩⟩)
  rw [made]
  exact ⟨.ref s.heap.objs.size, _, I.lnew (t' := s.toks) (r.rep k.toNat) (by rw [PyProof.Rows.lm_len_rep_flat, Nat.mul_comm]; exact hz), rfl, q _ I.fresh (Nat.ne_of_gt I.big)⟩
end K17

set_option Elab.async false
set_option linter.all false
set_option maxRecDepth 100000
set_option maxHeartbeats 4000000
/-! ### _law_like, _law_of, _law_odds -/
namespace K17
open PySem PySem.Spec PyProof.Rows L2 KG K80 KT KR KC KN
section
variable {X : Cx}
/-- repr(x), x of any kind -/
def rRepr : List V → Hp → VK → Prop := fun xs H Q => ∃ v d, xs = [v] ∧ Dq H v d ∧ Shw d ∧ Q (.str d.shown) H
theorem call_reprD (hg : X.A.guards = some []) (hu : X.A.units + 64 < cLine) : CallR X (.builtin "repr") rRepr := by
  intro pins s σ H xs us Q I r h
  obtain ⟨v, d, rfl, hd, hs, q⟩ := h
  obtain ⟨u, rfl, ru⟩ := vals1 r
  cases id hd with
  | non =>
    cases ru
    exact PySem.P.repr_of_none ⟨.str "None", H, I.tok _, ⟨_, rfl⟩, q⟩
  | bl b =>
    cases ru
    exact PySem.P.repr_of_bool ⟨.str (if b then "True" else "False"), H, I.tok _, ⟨_, rfl⟩, q⟩
  | int i =>
    obtain ⟨t, rfl⟩ := ru
    exact PySem.P.repr_of_int (of_decide_eq_true hs.sh) ⟨.str (toString i), H, I.tok _, ⟨_, rfl⟩, q⟩
  | str y =>
    obtain ⟨t, rfl⟩ := ru
    exact PySem.P.repr_of_str ⟨.str (reprText y), H, I.tok _, ⟨_, rfl⟩, q⟩ hs.line
  | lst e n ha => exact call_repr hg hu pins s σ H [.ref _] [u] Q I (.cons ru .nil) ⟨_, _, rfl, hd, hs, ⟨_, rfl⟩, q⟩
  | tup e ha => exact call_repr hg hu pins s σ H [.ref _] [u] Q I (.cons ru .nil) ⟨_, _, rfl, hd, hs, ⟨_, rfl⟩, q⟩
  | dct e => exact call_repr hg hu pins s σ H [.ref _] [u] Q I (.cons ru .nil) ⟨_, _, rfl, hd, hs, ⟨_, rfl⟩, q⟩
/-- x[i], x a list or a tuple -/
def rIxA (K : PySem.W.Frag) : R2 := fun x y H Q => ∃ p xs i v, x = .ref p ∧ y = .int i ∧ (SqL K H p xs ∨ SqT K H p xs) ∧ atI xs i = some v ∧ Q v H
theorem ix_any : IxR X (rIxA X.K) := by
  intro value slice pins s σ H x y v u Q I rx ry ⟨p, xs, i, z, e1, e2, hq, he, q⟩ hs
  rcases hq with hq | hq
  · exact ix_list value slice pins s σ H x y v u Q I rx ry ⟨p, xs, i, z, e1, e2, hq, he, q⟩ hs
  · exact ix_tup value slice pins s σ H x y v u Q I rx ry ⟨p, xs, i, z, e1, e2, hq, he, q⟩ hs
end
abbrev sLike : Stmt := topS 85
abbrev sOf : Stmt := topS 86
abbrev sOdds : Stmt := topS 87
theorem scLike : FnScope ["heard", "due"] ["heard", "due"] (defScope sLike) := ⟨rfl, rfl, rfl, by decide +kernel, rfl, by decide +kernel, by decide +kernel⟩
theorem scOf : FnScope ["m", "some"] ["m", "some"] (defScope sOf) := ⟨rfl, rfl, rfl, by decide +kernel, rfl, by decide +kernel, by decide +kernel⟩
theorem scOdds : FnScope ["some"] [] (defScope sOdds) := ⟨rfl, rfl, rfl, by decide +kernel, rfl, by decide +kernel, by decide +kernel⟩
section
variable {P : Program} {w : World} {K : PySem.W.Frag} {mg : Str → Option Value} {base : Heap}
def spLike : Sp := fun vs H Q _ => ∃ (x y : V) (d : PyData), vs = [x, y] ∧ Dq H x d ∧ Dq H y d ∧ Shw d ∧ Q (.bl true) H
theorem ok_like {f : Addr} {fd : FuncData} {k : Nat} (F : Fun K "_law_like" "_law_like" sLike f fd) (zr : mg "repr" = none) : FnG P w K mg base (k + 1) f fd ["heard", "due"] spLike := by
  refine fnG_of F scLike (fun vs H Q E h => ?_) (fun cdv A outer s H vs Q E hgd hr h => ?_)
  · obtain ⟨x, y, d, rfl, _⟩ := h
    rfl
  · obtain ⟨x, y, d, rfl, hx, hy, hs, q⟩ := h
    refine ⟨_, pss_one (ps_ret (pe_cmpR op_eq (pe_callB (call_reprD hgd hr.units) (by rfl) zr PyProof.Rows.boot_repr (pa_cons (pv 0) pa_nil)) (pe_callB (call_reprD hgd hr.units) (by rfl) zr PyProof.Rows.boot_repr (pa_cons (pv 1) pa_nil)) (nomark _))), ?_⟩
    refine ⟨_, rfl, _, d, rfl, hx, hs, _, rfl, _, d, rfl, hy, hs, rfl, ?_⟩
    rw [decide_eq_true rfl]
    exact q
def spOf : Sp := fun vs H Q _ => ∃ (m c g l : Addr) (sp : Int) (xs : List V), vs = [.ref m, .ref l] ∧ Drw H m c g sp ∧ 0 ≤ sp ∧ sp < 900000 ∧ l ≠ m ∧ l ≠ g ∧ (H l = some (.lst xs) ∨ H l = some (.tup xs)) ∧ 0 < xs.length ∧ xs.length ≤ 100000 ∧
  ∀ (i : Nat) v H', xs[i]? = some v → Drw H' m c g (sp + 1) → SameD m g H H' → Q v H'
theorem ok_of {f fD : Addr} {fd fdD : FuncData} (F : Fun K "_law_of" "_law_of" sOf f fd) (dD : Dfn K mg "_law_draw" fD fdD ["m", "limit"]) (GD : FnOk P w K mg base CX0 2 fD fdD ["m", "limit"] spDraw) (zl : mg "len" = none) : FnOk P w K mg base CX0 3 f fd ["m", "some"] spOf := by
  refine F.ok scOf (fun vs H Q E h => ?_) (fun cdv A outer s H vs Q E hr h => ?_)
  · obtain ⟨m, c, g, l, sp, xs, rfl, _⟩ := h
    rfl
  · obtain ⟨m, c, g, l, sp, xs, rfl, D, h0, h9, hlm, hlg, hl, hx0, hx9, q⟩ := h
    refine ⟨_, pss_one (ps_ret (pe_ix ix_any (pv 1) (pe_call GD hr (by rfl) dD.gm dD.kp dD.bd .nil pass0 (pa_cons (pv 0) (pa_cons (pe_callB call_len_seq (by rfl) zl PySem.boot_len (pa_cons (pv 1) pa_nil)) pa_nil))) (fun _ _ => rfl))), ?_⟩
    refine ⟨.ref l, rfl, .ref m, rfl, .ref l, rfl, l, xs, rfl, hl.imp (fun e => .inl (.inl e)) (fun e => .inl (.inl e)), m, c, g, sp, _, rfl, D, h0, h9, by omega, by omega, fun r H' r0 r1 D' S => ?_⟩
    have hir : r.toNat < xs.length := by omega
    have hl' : H' l = some (.lst xs) ∨ H' l = some (.tup xs) := hl.imp (S _ _ hlm hlg) (S _ _ hlm hlg)
    refine ⟨l, xs, r, xs[r.toNat], rfl, rfl, hl'.imp (fun e => .inl (.inl e)) (fun e => .inl (.inl e)), L2.at_of (j := r.toNat) (by omega) (List.getElem?_eq_getElem hir), ?_⟩
    exact q r.toNat _ H' (List.getElem?_eq_getElem hir) D' S
def odds1 : List PyData := [.none, .int 0, .int 1, .int (-1), .int 7, .bool true, .str "", .str "bears", .tuple [], .tuple [.int 0], .tuple [.tuple []], .list [], .dict [], .tuple [.tuple [.int 0, .int 0]], .tuple [.tuple [.int 0, .int 1], .tuple [.int 0, .int 0]], .tuple [.tuple [.int 2, .int 3], .tuple []]]
def odds2 : List PyData := [.tuple [.int 1, .int 1], .tuple [.int 2, .int 2], .tuple [.int 0, .int 1], .int ((10 : Int) ^ (30 : Int).toNat), .tuple [.tuple [.int 0, .int 9]], .tuple [.tuple [.tuple [.int 0, .int 0]]], .tuple [.bool true, .bool false], .tuple [.str "mixed", .tuple [], .tuple [], .tuple []]]
theorem odds_sml : ((odds1 ++ odds2).all smlB) = true := by decide +kernel
theorem odds_len : odds1.length = 16 ∧ odds2.length = 8 := ⟨rfl, rfl⟩
def spOdds : Sp := fun vs H Q _ => vs = [] ∧ ∀ H' l xs, Same H H' → H l = none → H' l = some (.lst xs) → xs.length = 24 → (∀ v ∈ xs, OkS (fr H H') v) → Q (.ref l) H'
theorem ok_odds {f : Addr} {fd : FuncData} {k : Nat} (F : Fun K "_law_odds" "_law_odds" sOdds f fd) : FnG P w K mg base (k + 1) f fd [] spOdds := by
  refine fnG_of F scOdds (fun vs H Q E h => ?_) (fun cdv A outer s H vs Q E hgd hr h => ?_)
  · rw [h.1]
    rfl
  obtain ⟨rfl, q⟩ := h
  refine ⟨_, pss_cons (ps_set (i := 0) scOdds.nd rfl (.inl rfl) (pe_lst (pa_cons pe_non (pa_cons pe_int (pa_cons pe_int (pa_cons (pe_un un_neg pe_int) (pa_cons pe_int (pa_cons pe_bl (pa_cons pe_str (pa_cons pe_str (pa_cons (pe_tup pa_nil) (pa_cons (pe_tup (pa_cons pe_int pa_nil)) (pa_cons (pe_tup (pa_cons (pe_tup pa_nil) pa_nil)) (pa_cons (pe_lstN pa_nil) (pa_cons pe_dnewK (pa_cons (pe_tup (pa_cons (pe_tup (pa_cons pe_int (pa_cons pe_int pa_nil))) pa_nil)) (pa_cons (pe_tup (pa_cons (pe_tup (pa_cons pe_int (pa_cons pe_int pa_nil))) (pa_cons (pe_tup (pa_cons pe_int (pa_cons pe_int pa_nil))) pa_nil))) (pa_cons (pe_tup (pa_cons (pe_tup (pa_cons pe_int (pa_cons pe_int pa_nil))) (pa_cons (pe_tup pa_nil) pa_nil))) pa_nil))))))))))))))))))
    (pss_one (ps_ret (pe_op op_cat (pv 0) (pe_lst (pa_cons (pe_tup (pa_cons pe_int (pa_cons pe_int pa_nil))) (pa_cons (pe_tup (pa_cons pe_int (pa_cons pe_int pa_nil))) (pa_cons (pe_tup (pa_cons pe_int (pa_cons pe_int pa_nil))) (pa_cons (pe_op op_pow pe_int pe_int) (pa_cons (pe_tup (pa_cons (pe_tup (pa_cons pe_int (pa_cons pe_int pa_nil))) pa_nil)) (pa_cons (pe_tup (pa_cons (pe_tup (pa_cons (pe_tup (pa_cons pe_int (pa_cons pe_int pa_nil))) pa_nil)) pa_nil)) (pa_cons (pe_tup (pa_cons pe_bl (pa_cons pe_bl pa_nil))) (pa_cons (pe_tup (pa_cons pe_str (pa_cons (pe_tup pa_nil) (pa_cons (pe_tup pa_nil) (pa_cons (pe_tup pa_nil) pa_nil))))) pa_nil)))))))))))), ?_⟩
  have g1 : GivesA _ odds1 := (g_cons g_non (g_cons g_int (g_cons g_int (g_cons g_neg (g_cons g_int (g_cons g_bl (g_cons g_str (g_cons g_str (g_cons (g_tup g_nil (by decide)) (g_cons (g_tup (g_cons g_int g_nil) (by decide)) (g_cons (g_tup (g_cons (g_tup g_nil (by decide)) g_nil) (by decide)) (g_cons (g_lst g_nil (by decide)) (g_cons g_dct (g_cons (g_tup (g_cons (g_tup (g_cons g_int (g_cons g_int g_nil)) (by decide)) g_nil) (by decide)) (g_cons (g_tup (g_cons (g_tup (g_cons g_int (g_cons g_int g_nil)) (by decide)) (g_cons (g_tup (g_cons g_int (g_cons g_int g_nil)) (by decide)) g_nil)) (by decide)) (g_cons (g_tup (g_cons (g_tup (g_cons g_int (g_cons g_int g_nil)) (by decide)) (g_cons (g_tup g_nil (by decide)) g_nil)) (by decide)) g_nil))))))))))))))))
  have g2 : GivesA _ odds2 := (g_cons (g_tup (g_cons g_int (g_cons g_int g_nil)) (by decide)) (g_cons (g_tup (g_cons g_int (g_cons g_int g_nil)) (by decide)) (g_cons (g_tup (g_cons g_int (g_cons g_int g_nil)) (by decide)) (g_cons (g_pow (by refine ⟨?_, ?_, ?_⟩ <;> decide)) (g_cons (g_tup (g_cons (g_tup (g_cons g_int (g_cons g_int g_nil)) (by decide)) g_nil) (by decide)) (g_cons (g_tup (g_cons (g_tup (g_cons (g_tup (g_cons g_int (g_cons g_int g_nil)) (by decide)) g_nil) (by decide)) g_nil) (by decide)) (g_cons (g_tup (g_cons g_bl (g_cons g_bl g_nil)) (by decide)) (g_cons (g_tup (g_cons g_str (g_cons (g_tup g_nil (by decide)) (g_cons (g_tup g_nil (by decide)) (g_cons (g_tup g_nil (by decide)) g_nil)))) (by decide)) g_nil))))))))
  refine seq_asg (lst_of (g1 _ _ _ fun xs1 H1 S1 D1 => ⟨?_, fun p1 n1 => ?_⟩))
  · rw [DqA.len D1, odds_len.1]
    decide
  refine ⟨_, rfl, lst_of (g2 _ _ _ fun xs2 H2 S2 D2 => ⟨?_, fun p2 n2 => ?_⟩)⟩
  · rw [DqA.len D2, odds_len.2]
    decide
  refine ⟨p1, p2, xs1, xs2, rfl, rfl, up_of n2 (S2 _ _ upd_same), upd_same, ?_, fun p3 n3 => ?_⟩
  · rw [DqA.len D1, DqA.len D2, odds_len.1, odds_len.2]
    decide
  have T1 := same_upd (o := .lst xs1) n1
  have T2 := same_upd (o := .lst xs2) n2
  have T3 := same_upd (o := .lst (xs1 ++ xs2)) n3
  have S := S1.trans (T1.trans (S2.trans T2))
  refine q _ p3 (xs1 ++ xs2) (S.trans T3) (S.free n3) upd_same ?_ fun v hv => ?_
  · rw [List.length_append, DqA.len D1, DqA.len D2, odds_len.1, odds_len.2]
  · have B1 := DqA.same (fr_up (T1.trans (S2.trans (T2.trans T3)))) _ _ D1
    have B2 := DqA.same (fr_up (T2.trans T3)) _ _ (DqA.same (fr_down (S1.trans T1)) _ _ D2)
    have pick : ∀ {G : Hp} {xs : List V} {ds : List PyData}, DqA G xs ds → (∀ d ∈ ds, smlB d = true) → v ∈ xs → OkS G v := fun B hs m => by
      obtain ⟨i, hi, e⟩ := List.getElem_of_mem m
      obtain ⟨dy, e2, hq⟩ := DqA.at B (List.getElem?_eq_some_iff.mpr ⟨hi, e⟩)
      exact ⟨dy, hq, sml_by (hs dy (List.mem_of_getElem? e2))⟩
    have all := List.all_eq_true.mp odds_sml
    rcases List.mem_append.mp hv with m | m
    · exact pick B1 (fun d hd => all d (List.mem_append_left _ hd)) m
    · exact pick B2 (fun d hd => all d (List.mem_append_right _ hd)) m
end
end K17

set_option Elab.async false
set_option linter.all false
set_option maxRecDepth 100000
set_option maxHeartbeats 8000000
/-! ### _law_made_right(thing) -/
namespace K17
open PySem PySem.Spec PyProof.Rows L2 KG K80 KT KR KC KN
/-- errors of these classes that hold q in their one field -/
def Ers (K : PySem.W.Frag) (q : V) (H : Hp) : List V → List (Addr × Str) → Prop := Paired fun x r => ∃ a, x = V.ref a ∧ Err K H a r.1 [(r.2, q)]
theorem Ers.same {K : PySem.W.Frag} {q : V} {H H' : Hp} (s : Same H H') : ∀ {xs : List V} {rs : List (Addr × Str)}, Ers K q H xs rs → Ers K q H' xs rs := by
  intro xs rs h
  unfold Ers at *
  induction h with
  | nil => exact .nil
  | cons z _ ih =>
    obtain ⟨a, e1, e2⟩ := z
    exact .cons ⟨a, e1, e2.same s⟩ ih
theorem Ers.app {K : PySem.W.Frag} {q : V} {H : Hp} : ∀ {xs : List V} {rs : List (Addr × Str)} {ys : List V} {qs : List (Addr × Str)}, Ers K q H xs rs → Ers K q H ys qs → Ers K q H (xs ++ ys) (rs ++ qs) := by
  intro xs rs ys qs h k
  unfold Ers at *
  induction h with
  | nil => exact k
  | cons z _ ih => exact .cons z ih
theorem Ers.at {K : PySem.W.Frag} {q : V} {H : Hp} : ∀ {xs : List V} {rs : List (Addr × Str)} {i : Nat} {x : V}, Ers K q H xs rs → xs[i]? = some x → ∃ r a, rs[i]? = some r ∧ x = V.ref a ∧ Err K H a r.1 [(r.2, q)] := by
  intro xs rs i x h
  unfold Ers at h
  induction h generalizing i with
  | nil => intro e; simp at e
  | @cons a b as bs z _ ih =>
    intro e
    cases i with
    | zero =>
      obtain ⟨t, e1, e2⟩ := z
      have ea : a = x := Option.some.inj e
      exact ⟨b, t, rfl, ea ▸ e1, e2⟩
    | succ i => exact ih e
theorem Ers.len {K : PySem.W.Frag} {q : V} {H : Hp} {xs : List V} {rs : List (Addr × Str)} (h : Ers K q H xs rs) : xs.length = rs.length := Paired.length h
def GivesE (K : PySem.W.Frag) (q : V) (te : TE) (r : Addr × Str) : Prop := ∀ (σ : L2.St) (H : Hp) (Q : VK), σ[0]? = some (some q) → OkS H q → (∀ a H', Same H H' → Err K H' a r.1 [(r.2, q)] → Q (.ref a) H') → te σ H Q
def GivesEs (K : PySem.W.Frag) (q : V) (ta : TA) (rs : List (Addr × Str)) : Prop := ∀ (σ : L2.St) (H : Hp) (Q : List V → Hp → Prop), σ[0]? = some (some q) → OkS H q → (∀ xs H', Same H H' → Ers K q H' xs rs → Q xs H') → ta σ H Q
theorem ges_nil {K : PySem.W.Frag} {q : V} : GivesEs K q tNil [] := fun σ H Q _ _ k => k _ _ (Same.refl _) .nil
theorem ges_cons {K : PySem.W.Frag} {q : V} {te : TE} {tr : TA} {r : Addr × Str} {rs : List (Addr × Str)} (h : GivesE K q te r) (hr : GivesEs K q tr rs) : GivesEs K q (tCons te tr) (r :: rs) := fun σ H Q h0 hq k =>
  h σ H _ h0 hq fun a H1 S1 E1 => hr σ H1 _ h0 (hq.same S1) fun xs H2 S2 E2 => k _ _ (S1.trans S2) (.cons ⟨a, rfl, E1.same S2⟩ E2)
def Fits1 (ok : Hp → V → Prop) : Prop := Stays ok ∧ ∀ H q, OkS H q → ok H q
theorem fits_okd : Fits1 Okd := ⟨stays_okd, fun H q h => h.okd⟩
theorem fits_any : Fits1 Any := ⟨stays_any, fun _ _ _ => trivial⟩
section
variable {P : Program} {w : World} {K : PySem.W.Frag} {mg : Str → Option Value} {base : Heap} {newId : String} {bm : List Value} {ok : Hp → V → Prop} {x f : Str} {C : Addr} {q : V}
theorem ge_v (O : OwV P w K mg base newId bm ok x f C) (so : Fits1 ok) : GivesE K q (tXv C (spIniG K newId bm ok f) (tCons (tVar 0) tNil)) (C, f) := fun σ H Q h0 hq k => rdV O so.1 h0 (so.2 _ _ hq) fun a H' S _ E => k a H' S E
theorem ge_k (O : OwV P w K mg base newId bm ok x f C) (so : Fits1 ok) : GivesE K q (tXk C 1 id (spIniG K newId bm ok f) (tCons (tVar 0) tNil)) (C, f) := fun σ H Q h0 hq k => rdVK O so.1 h0 (so.2 _ _ hq) fun a H' S _ E => k a H' S E
end
/-! the answers of isinstance -/
def bb6 (n : Nat) : Nat → Bool := fun i => if i < 2 then decide (n < 8) else if i = 2 then decide (n = 8) else false
structure Kit6 (K : PySem.W.Frag) (c : Nat → Addr) : Prop where
  k0 : ∀ n, n < 9 → PySem.W.kitOne K (.ref (c n)) (.ref (c 9)) = some (bb6 n 0)
  k1 : ∀ n, n < 9 → PySem.W.kitOne K (.ref (c n)) (.type "ValueError") = some (bb6 n 1)
  k2 : ∀ n, n < 9 → PySem.W.kitOne K (.ref (c n)) (.type "OverflowError") = some (bb6 n 2)
  k3 : ∀ n, n < 9 → PySem.W.kitOne K (.ref (c n)) (.type "LookupError") = some (bb6 n 3)
  k4 : ∀ n, n < 9 → PySem.W.kitOne K (.ref (c n)) (.type "RuntimeError") = some (bb6 n 4)
  k5 : ∀ n, n < 9 → PySem.W.kitOne K (.ref (c n)) (.type "TypeError") = some (bb6 n 5)
theorem ansV {K : PySem.W.Frag} {c : Nat → Addr} {n : Nat} {H : Hp} {a : Addr} {fs : List (Str × V)} (T : Caught K c (c n) (bAt n)) (E : Err K H a (c n) fs) : Ans9 (rIsV K) c H a (bAt n) := by
  obtain ⟨x, d, e1, e2⟩ := E
  have one : ∀ i, i < 9 → Is (rIsV K) H a (.ref (c i)) (bAt n i) := fun i hi H' Q s q => .inl ⟨a, c n, d, fs, .ref (c i), .ref (c i), _, rfl, s _ _ e1, s _ _ e2, x, .own _, T.kit i hi, q⟩
  exact ⟨one 0 (by decide), one 1 (by decide), one 2 (by decide), one 3 (by decide), one 4 (by decide), one 5 (by decide), one 6 (by decide), one 7 (by decide), one 8 (by decide)⟩
theorem ansA {K : PySem.W.Frag} {c : Nat → Addr} {n : Nat} {H : Hp} {a : Addr} {fs : List (Str × V)} (T : Kit6 K c) (hn : n < 9) (E : Err K H a (c n) fs) : Ans6 (rIsV K) c H a (bb6 n) := by
  obtain ⟨x, d, e1, e2⟩ := E
  have one : ∀ (b : Bool) (v : V) (cv : Value), ClsV v cv → PySem.W.kitOne K (.ref (c n)) cv = some b → Is (rIsV K) H a v b := fun b v cv hc hk H' Q s q => .inl ⟨a, c n, d, fs, v, cv, b, rfl, s _ _ e1, s _ _ e2, x, hc, hk, q⟩
  exact ⟨one _ _ _ (.own _) (T.k0 n hn), one _ _ _ (.ty _) (T.k1 n hn), one _ _ _ (.ty _) (T.k2 n hn), one _ _ _ (.ty _) (T.k3 n hn), one _ _ _ (.ty _) (T.k4 n hn), one _ _ _ (.ty _) (T.k5 n hn)⟩
abbrev dKat (n : Nat) : PyData := .list ((katB (n : Int)).map .bool)
abbrev dAbv (n : Nat) : PyData := .list [.bool (bb6 n 0), .bool (bb6 n 1), .bool (bb6 n 2), .bool (bb6 n 3), .bool (bb6 n 4), .bool (bb6 n 5)]
theorem kat_shaped : ∀ n : Fin 9, SeqAt.shaped (dKat n) = true := by decide +kernel
theorem kat_eqv : ∀ n : Fin 9, PyData.eqv (dKat n) (dKat n) = true := by decide +kernel
theorem abv_shaped : ∀ n : Fin 9, SeqAt.shaped (dAbv n) = true := by decide +kernel
theorem abv_eqv : ∀ n : Fin 9, PyData.eqv (dAbv n) (dAbv n) = true := by decide +kernel
theorem kat_dp {K : PySem.W.Frag} {H : Hp} {p : Addr} {n : Nat} (e : H p = some (.lst ((katB (n : Int)).map V.bl))) : Dp K H (.ref p) (dKat n) := .lst (.inl (.inl e)) (bls_dp _)
theorem abv_dp {K : PySem.W.Frag} {H : Hp} {p : Addr} {n : Nat} (e : H p = some (.lst (mk6 (bb6 n)))) : Dp K H (.ref p) (dAbv n) := .lst (.inl (.inl e)) (bls_dp [bb6 n 0, bb6 n 1, bb6 n 2, bb6 n 3, bb6 n 4, bb6 n 5])
theorem lt8 {n : Nat} : decide ((n : Int) < 8) = bb6 n 0 := decide_eq_decide.mpr (by omega)
theorem eq8 {n : Nat} : decide (V.int (n : Int) = V.int 8) = bb6 n 2 := decide_eq_decide.mpr (by simp; omega)
theorem sml_nine {d : PyData} (h : Sml d) : Shw (.list [d, d, d, d, d, d, d, d, d]) := by
  have h1 := h.sh
  have h2 := h.dp
  have h3 := h.sz
  refine ⟨?_, ?_, ?_, fun y e => by cases e⟩
  · simp only [PyData.showable, PyData.showableAll, h1]
    rfl
  · simp only [PyData.depth, PyData.depthAll]
    omega
  · simp only [PyData.shown, PyData.shownAll]
    unfold PySem.listText
    simp only [PySem.textFrom, PySem.strLen_append]
    have z : ∀ n : Nat, (PySem.Str.ofString (if n > 0 then ", " else "" : String)).length ≤ 2 := fun n => by
      split <;> decide
    have z0 := z 0
    have z1 := z (0 + 1)
    have z2 := z (0 + 1 + 1)
    have z3 := z (0 + 1 + 1 + 1)
    have z4 := z (0 + 1 + 1 + 1 + 1)
    have z5 := z (0 + 1 + 1 + 1 + 1 + 1)
    have z6 := z (0 + 1 + 1 + 1 + 1 + 1 + 1)
    have z7 := z (0 + 1 + 1 + 1 + 1 + 1 + 1 + 1)
    have z8 := z (0 + 1 + 1 + 1 + 1 + 1 + 1 + 1 + 1)
    have za : (PySem.Str.ofString "[").length ≤ 2 := by decide
    have zb : (PySem.Str.ofString "]").length ≤ 2 := by decide
    omega
theorem lk_one {q : V} {f : Str} : List.lookup f [(f, q)] = some q := by
  rw [lookup_put, if_pos rfl]
abbrev sMR : Stmt := topS 90
abbrev nMR : List Str := ["thing", "some", "more", "row", "told", "at", "error", "k"]
theorem scMR : FnScope nMR ["thing"] (defScope sMR) := ⟨rfl, rfl, rfl, by decide +kernel, rfl, by decide +kernel, by decide +kernel⟩
theorem blkMR : blkC nMR (defScope sMR) rrIn [("k", 7)] = true := by decide +kernel
/-- the nine errors -/
structure Errs (P : Program) (w : World) (K : PySem.W.Frag) (mg : Str → Option Value) (base : Heap) (c : Nat → Addr) : Prop where
  v0 : OwV P w K mg base "ValueError.__new__" KR.ve Okd "BadRig" "path" (c 0)
  v1 : OwV P w K mg base "ValueError.__new__" KR.ve Any "BadShape" "value" (c 1)
  v2 : OwV P w K mg base "ValueError.__new__" KR.ve Any "BadLot" "value" (c 2)
  v3 : OwV P w K mg base "ValueError.__new__" KR.ve Any "BadFaults" "value" (c 3)
  v4 : OwV P w K mg base "ValueError.__new__" KR.ve Okd "BadSuite" "place" (c 4)
  v5 : OwV P w K mg base "ValueError.__new__" KR.ve Any "BadOutcomes" "value" (c 5)
  v6 : OwV P w K mg base "ValueError.__new__" KR.ve Any "BadNumber" "value" (c 6)
  v7 : OwV P w K mg base "ValueError.__new__" KR.ve Okd "BadPaper" "word" (c 7)
  v8 : OwV P w K mg base "OverflowError.__new__" oeB Okd "TooGreat" "most" (c 8)
def nine (c : Nat → Addr) : List (Addr × Str) := [(c 0, "path"), (c 1, "value"), (c 2, "value"), (c 3, "value"), (c 4, "place"), (c 5, "value"), (c 6, "value"), (c 7, "word"), (c 8, "most")]
def spMR : Sp := fun vs H Q _ => ∃ q, vs = [q] ∧ OkS H q ∧ ∀ H', Same H H' → Q (.bl true) H'
section
variable {P : Program} {w : World} {K : PySem.W.Frag} {mg : Str → Option Value} {base : Heap} {c : Nat → Addr}
theorem ok_MR {f fL fM fA : Addr} {fd fdL fdM fdA : FuncData} (F : Fun K "_law_made_right" "_law_made_right" sMR f fd) (VS : Errs P w K mg base c) (KS : Kits K c) (K6 : Kit6 K c)
    (dL : Dfn K mg "_law_like" fL fdL ["heard", "due"]) (GL : FnG P w K mg base 1 fL fdL ["heard", "due"] spLike)
    (dM : Dfn K mg "_law_marks" fM fdM ["error"]) (GM : FnG P w K mg base 1 fM fdM ["error"] (spMarks K c))
    (dA : Dfn K mg "_law_above" fA fdA ["error"]) (GA : FnG P w K mg base 1 fA fdA ["error"] (spAbove K c)) (ze : mg "enumerate" = none) (zr : mg "range" = none) : FnG P w K mg base 3 f fd ["thing"] spMR := by
  obtain ⟨f0, fd0, i0, t0, F0, b0, h0⟩ := VS.v0.ini
  obtain ⟨f1, fd1, i1, t1, F1, b1, h1⟩ := VS.v1.ini
  obtain ⟨f2, fd2, i2, t2, F2, b2, h2⟩ := VS.v2.ini
  obtain ⟨f3, fd3, i3, t3, F3, b3, h3⟩ := VS.v3.ini
  obtain ⟨f4, fd4, i4, t4, F4, b4, h4⟩ := VS.v4.ini
  obtain ⟨f5, fd5, i5, t5, F5, b5, h5⟩ := VS.v5.ini
  obtain ⟨f6, fd6, i6, t6, F6, b6, h6⟩ := VS.v6.ini
  obtain ⟨f7, fd7, i7, t7, F7, b7, h7⟩ := VS.v7.ini
  obtain ⟨f8, fd8, i8, t8, F8, b8, h8⟩ := VS.v8.ini
  refine fnG_of F scMR (fun vs H Q E h => ?_) (fun cdv A outer s H vs Q E hgd hr h => ?_)
  · obtain ⟨q, rfl, _⟩ := h
    rfl
  obtain ⟨q, rfl, hq, k⟩ := h
  have hr1 : Room 1 _ := hr.mono (by decide)
  refine ⟨_, pss_cons (ps_set (i := 1) scMR.nd rfl (.inl rfl) (pe_lst (pa_cons (pe_xv PySem.F.excBase_ValueError VS.v0.xb i0 t0 F0 hgd hr b0 (by rfl) VS.v0.gm (pa_cons (pv 0) pa_nil)) (pa_cons (pe_xv PySem.F.excBase_ValueError VS.v1.xb i1 t1 F1 hgd hr b1 (by rfl) VS.v1.gm (pa_cons (pv 0) pa_nil)) (pa_cons (pe_xv PySem.F.excBase_ValueError VS.v2.xb i2 t2 F2 hgd hr b2 (by rfl) VS.v2.gm (pa_cons (pv 0) pa_nil)) (pa_cons (pe_xv PySem.F.excBase_ValueError VS.v3.xb i3 t3 F3 hgd hr b3 (by rfl) VS.v3.gm (pa_cons (pv 0) pa_nil)) (pa_cons (pe_xv PySem.F.excBase_ValueError VS.v4.xb i4 t4 F4 hgd hr b4 (by rfl) VS.v4.gm (pa_cons (pv 0) pa_nil)) (pa_cons (pe_xv PySem.F.excBase_ValueError VS.v5.xb i5 t5 F5 hgd hr b5 (by rfl) VS.v5.gm (pa_cons (pv 0) pa_nil)) pa_nil))))))))
    (pss_cons (ps_set (i := 2) scMR.nd rfl (.inl rfl) (pe_lst (pa_cons (pe_xk (permV := id) (permU := id) (ks := ["path"]) PySem.F.excBase_ValueError VS.v0.xb i0 t0 F0 hgd hr (fun _ _ _ h => h) h0 (by rfl) VS.v0.gm (pk_cons (pv 0) pk_nil)) (pa_cons (pe_xk (permV := id) (permU := id) (ks := ["value"]) PySem.F.excBase_ValueError VS.v1.xb i1 t1 F1 hgd hr (fun _ _ _ h => h) h1 (by rfl) VS.v1.gm (pk_cons (pv 0) pk_nil)) (pa_cons (pe_xk (permV := id) (permU := id) (ks := ["value"]) PySem.F.excBase_ValueError VS.v2.xb i2 t2 F2 hgd hr (fun _ _ _ h => h) h2 (by rfl) VS.v2.gm (pk_cons (pv 0) pk_nil)) (pa_cons (pe_xk (permV := id) (permU := id) (ks := ["value"]) PySem.F.excBase_ValueError VS.v3.xb i3 t3 F3 hgd hr (fun _ _ _ h => h) h3 (by rfl) VS.v3.gm (pk_cons (pv 0) pk_nil)) pa_nil))))))
    (pss_cons (ps_set (i := 2) scMR.nd rfl (.inl rfl) (pe_op op_cat (pv 2) (pe_lst (pa_cons (pe_xk (permV := id) (permU := id) (ks := ["place"]) PySem.F.excBase_ValueError VS.v4.xb i4 t4 F4 hgd hr (fun _ _ _ h => h) h4 (by rfl) VS.v4.gm (pk_cons (pv 0) pk_nil)) (pa_cons (pe_xk (permV := id) (permU := id) (ks := ["value"]) PySem.F.excBase_ValueError VS.v5.xb i5 t5 F5 hgd hr (fun _ _ _ h => h) h5 (by rfl) VS.v5.gm (pk_cons (pv 0) pk_nil)) (pa_cons (pe_xk (permV := id) (permU := id) (ks := ["value"]) PySem.F.excBase_ValueError VS.v6.xb i6 t6 F6 hgd hr (fun _ _ _ h => h) h6 (by rfl) VS.v6.gm (pk_cons (pv 0) pk_nil)) pa_nil))))))
    (pss_cons (ps_set (i := 2) scMR.nd rfl (.inl rfl) (pe_op op_cat (pv 2) (pe_lst (pa_cons (pe_xk (permV := id) (permU := id) (ks := ["word"]) PySem.F.excBase_ValueError VS.v7.xb i7 t7 F7 hgd hr (fun _ _ _ h => h) h7 (by rfl) VS.v7.gm (pk_cons (pv 0) pk_nil)) (pa_cons (pe_xk (permV := id) (permU := id) (ks := ["most"]) PySem.F.excBase_OverflowError VS.v8.xb i8 t8 F8 hgd hr (fun _ _ _ h => h) h8 (by rfl) VS.v8.gm (pk_cons (pv 0) pk_nil)) pa_nil)))))
    (pss_cons (ps_for PassesOwn.never rfl (pi_tup (pe_tup (pa_cons (pe_op op_cat (pv 1) (pe_lst (pa_cons (pe_xv PySem.F.excBase_ValueError VS.v6.xb i6 t6 F6 hgd hr b6 (by rfl) VS.v6.gm (pa_cons (pv 0) pa_nil)) (pa_cons (pe_xv PySem.F.excBase_ValueError VS.v7.xb i7 t7 F7 hgd hr b7 (by rfl) VS.v7.gm (pa_cons (pv 0) pa_nil)) (pa_cons (pe_xv PySem.F.excBase_OverflowError VS.v8.xb i8 t8 F8 hgd hr b8 (by rfl) VS.v8.gm (pa_cons (pv 0) pa_nil)) pa_nil))))) (pa_cons (pv 2) pa_nil)))) (pg_name (i := 3) scMR.nd rfl (.inl rfl))
      (pss_cons (ps_set (i := 4) scMR.nd rfl (.inl rfl) (pe_lst (pa_cons (pe_xat (pe_ix ix_list (pv 3) pe_int (fun _ _ => rfl))) (pa_cons (pe_xat (pe_ix ix_list (pv 3) pe_int (fun _ _ => rfl))) (pa_cons (pe_xat (pe_ix ix_list (pv 3) pe_int (fun _ _ => rfl))) (pa_cons (pe_xat (pe_ix ix_list (pv 3) pe_int (fun _ _ => rfl))) (pa_cons (pe_xat (pe_ix ix_list (pv 3) pe_int (fun _ _ => rfl))) (pa_cons (pe_xat (pe_ix ix_list (pv 3) pe_int (fun _ _ => rfl))) (pa_cons (pe_xat (pe_ix ix_list (pv 3) pe_int (fun _ _ => rfl))) pa_nil)))))))))
      (pss_cons (ps_if (pt_not (pt_val (pe_callG GL hgd hr1 (by rfl) dL.gm dL.kp dL.bd (pa_cons (pe_op op_catN (pv 4) (pe_lst (pa_cons (pe_xat (pe_ix ix_list (pv 3) pe_int (fun _ _ => rfl))) (pa_cons (pe_xat (pe_ix ix_list (pv 3) pe_int (fun _ _ => rfl))) pa_nil)))) (pa_cons (pe_op op_repN (pe_lst (pa_cons (pv 0) pa_nil)) pe_int) pa_nil))))) (pss_one (ps_ret pe_bl)) pss_nil)
      (pss_one (ps_for PassesOwn.never rfl (pi_enum (by rfl) ze (pa_cons (pv 3) pa_nil)) (pg_tup rfl (pgs_cons (pg_name (i := 5) scMR.nd rfl (.inr rfl)) (pgs_cons (pg_name (i := 6) scMR.nd rfl (.inl rfl)) pgs_nil)))
        (pss_cons (ps_if (pt_cmpR (op_neD hr.units) (pe_callG GM hgd hr1 (by rfl) dM.gm dM.kp dM.bd (pa_cons (pv 6) pa_nil)) (pe_lc (own := [("k", 7)]) (te := tOp rEq (tVar 7) (tVar 5)) rfl scMR.nd (pi_range1 (by rfl) zr (pa_cons pe_int pa_nil)) (blkOk_by (own := [("k", 7)]) blkMR) (fun s H C cl fp => pg_name (i := 7) scMR.nd rfl (.inl rfl)) (fun _ _ _ _ _ => pts_nil) (fun _ _ _ _ _ => pe_cmpR op_eq (pv 7) (pv 5) (nomark _))) (nomark _)) (pss_one (ps_ret pe_bl)) pss_nil)
        (pss_one (ps_if (pt_cmpR (op_neD hr.units) (pe_callG GA hgd hr1 (by rfl) dA.gm dA.kp dA.bd (pa_cons (pv 6) pa_nil)) (pe_lst (pa_cons (pe_cmpR op_lt (pv 5) pe_int (nomark _)) (pa_cons (pe_cmpR op_lt (pv 5) pe_int (nomark _)) (pa_cons (pe_cmpR op_eq (pv 5) pe_int (nomark _)) (pa_cons pe_bl (pa_cons pe_bl (pa_cons pe_bl pa_nil))))))) (nomark _)) (pss_one (ps_ret pe_bl)) pss_nil))))))))
    (pss_one (ps_ret pe_bl)))))), ?_⟩
  have g1 : GivesEs K q _ [(c 0, "path"), (c 1, "value"), (c 2, "value"), (c 3, "value"), (c 4, "place"), (c 5, "value")] := (ges_cons (ge_v VS.v0 fits_okd) (ges_cons (ge_v VS.v1 fits_any) (ges_cons (ge_v VS.v2 fits_any) (ges_cons (ge_v VS.v3 fits_any) (ges_cons (ge_v VS.v4 fits_okd) (ges_cons (ge_v VS.v5 fits_any) ges_nil))))))
  have g2 : GivesEs K q _ [(c 0, "path"), (c 1, "value"), (c 2, "value"), (c 3, "value")] := (ges_cons (ge_k VS.v0 fits_okd) (ges_cons (ge_k VS.v1 fits_any) (ges_cons (ge_k VS.v2 fits_any) (ges_cons (ge_k VS.v3 fits_any) ges_nil))))
  have g3 : GivesEs K q _ [(c 4, "place"), (c 5, "value"), (c 6, "value")] := (ges_cons (ge_k VS.v4 fits_okd) (ges_cons (ge_k VS.v5 fits_any) (ges_cons (ge_k VS.v6 fits_any) ges_nil)))
  have g4 : GivesEs K q _ [(c 7, "word"), (c 8, "most")] := (ges_cons (ge_k VS.v7 fits_okd) (ges_cons (ge_k VS.v8 fits_okd) ges_nil))
  have g5 : GivesEs K q _ [(c 6, "value"), (c 7, "word"), (c 8, "most")] := (ges_cons (ge_v VS.v6 fits_any) (ges_cons (ge_v VS.v7 fits_okd) (ges_cons (ge_v VS.v8 fits_okd) ges_nil)))
  -- some
  refine seq_asg (lst_of (g1 _ _ _ rfl hq fun xs1 H1 S1 E1 => ⟨by rw [E1.len]; show 6 ≤ sizeLine; decide, fun l1 n1 => ?_⟩))
  have W1 := S1.trans (same_upd (o := .lst xs1) n1)
  have X1 := E1.same (same_upd (o := .lst xs1) n1)
  have e1 : (upd H1 l1 (.lst xs1)) l1 = some (.lst xs1) := upd_same
  clear S1 E1 n1
  generalize upd H1 l1 (.lst xs1) = G1 at W1 X1 e1 ⊢
  -- more
  refine seq_asg (lst_of (g2 _ _ _ rfl (hq.same W1) fun xs2 H2 S2 E2 => ⟨by rw [E2.len]; show 4 ≤ sizeLine; decide, fun l2 n2 => ?_⟩))
  have W2 := W1.trans (S2.trans (same_upd (o := .lst xs2) n2))
  have Y1 := X1.same (S2.trans (same_upd (o := .lst xs2) n2))
  have e1' := (S2.trans (same_upd (o := .lst xs2) n2)) _ _ e1
  have X2 := E2.same (same_upd (o := .lst xs2) n2)
  have e2 : (upd H2 l2 (.lst xs2)) l2 = some (.lst xs2) := upd_same
  clear S2 E2 n2 X1 e1
  generalize upd H2 l2 (.lst xs2) = G2 at W2 Y1 e1' X2 e2 ⊢
  -- more + ..
  refine seq_asg ⟨_, rfl, lst_of (g3 _ _ _ rfl (hq.same W2) fun xs3 H3 S3 E3 => ⟨by rw [E3.len]; show 3 ≤ sizeLine; decide, fun m3 n3 => ⟨l2, m3, xs2, xs3, rfl, rfl, up_of n3 (S3 _ _ e2), upd_same, by rw [X2.len, E3.len]; show 7 ≤ sizeLine; decide, fun l3 k3 => ?_⟩⟩)⟩
  have T3 := S3.trans ((same_upd (o := .lst xs3) n3).trans (same_upd (o := .lst (xs2 ++ xs3)) k3))
  have W3 := W2.trans T3
  have Y2 := Y1.same T3
  have e2' := T3 _ _ e1'
  have X3 := (X2.same T3).app (E3.same ((same_upd (o := .lst xs3) n3).trans (same_upd (o := .lst (xs2 ++ xs3)) k3)))
  have e3 : (upd (upd H3 m3 (.lst xs3)) l3 (.lst (xs2 ++ xs3))) l3 = some (.lst (xs2 ++ xs3)) := upd_same
  clear T3 S3 E3 n3 k3 X2 e2 Y1 e1'
  generalize upd (upd H3 m3 (.lst xs3)) l3 (.lst (xs2 ++ xs3)) = G3 at W3 Y2 e2' X3 e3 ⊢
  generalize xs2 ++ xs3 = ys3 at X3 e3 ⊢
  refine seq_asg ⟨_, rfl, lst_of (g4 _ _ _ rfl (hq.same W3) fun xs4 H4 S4 E4 => ⟨by rw [E4.len]; show 2 ≤ sizeLine; decide, fun m4 n4 => ⟨l3, m4, ys3, xs4, rfl, rfl, up_of n4 (S4 _ _ e3), upd_same, by rw [X3.len, E4.len]; show 9 ≤ sizeLine; decide, fun l4 k4 => ?_⟩⟩)⟩
  have T4 := S4.trans ((same_upd (o := .lst xs4) n4).trans (same_upd (o := .lst (ys3 ++ xs4)) k4))
  have W4 := W3.trans T4
  have Y3 := Y2.same T4
  have e3' := T4 _ _ e2'
  have X4 := (X3.same T4).app (E4.same ((same_upd (o := .lst xs4) n4).trans (same_upd (o := .lst (ys3 ++ xs4)) k4)))
  have e4 : (upd (upd H4 m4 (.lst xs4)) l4 (.lst (ys3 ++ xs4))) l4 = some (.lst (ys3 ++ xs4)) := upd_same
  clear T4 S4 E4 n4 k4 X3 e3 Y2 e2'
  generalize upd (upd H4 m4 (.lst xs4)) l4 (.lst (ys3 ++ xs4)) = G4 at W4 Y3 e3' X4 e4 ⊢
  generalize ys3 ++ xs4 = ys4 at X4 e4 ⊢
  -- for row in (some + .., more)
  refine ⟨_, rfl, lst_of (g5 _ _ _ rfl (hq.same W4) fun xs5 H5 S5 E5 => ⟨by rw [E5.len]; show 3 ≤ sizeLine; decide, fun m5 n5 => ⟨l1, m5, xs1, xs5, rfl, rfl, up_of n5 (S5 _ _ e3'), upd_same, by rw [Y3.len, E5.len]; show 9 ≤ sizeLine; decide, fun l5 k5 => ?_⟩⟩)⟩
  have T5 := S5.trans ((same_upd (o := .lst xs5) n5).trans (same_upd (o := .lst (xs1 ++ xs5)) k5))
  have W5 := W4.trans T5
  have Z4 := X4.same T5
  have e5' := T5 _ _ e4
  have Z5 := (Y3.same T5).app (E5.same ((same_upd (o := .lst xs5) n5).trans (same_upd (o := .lst (xs1 ++ xs5)) k5)))
  have e5 : (upd (upd H5 m5 (.lst xs5)) l5 (.lst (xs1 ++ xs5))) l5 = some (.lst (xs1 ++ xs5)) := upd_same
  clear T5 S5 E5 n5 k5 X4 e4 Y3 e3'
  generalize upd (upd H5 m5 (.lst xs5)) l5 (.lst (xs1 ++ xs5)) = G5 at W5 Z4 e5' Z5 e5 ⊢
  generalize xs1 ++ xs5 = ys5 at Z5 e5 ⊢
  have N4 : Ers K q G5 ys4 (nine c) := Z4
  have N5 : Ers K q G5 ys5 (nine c) := Z5
  refine ⟨_, rfl, by show 2 ≤ sizeLine; decide, fun T nT => ⟨T, rfl, ⟨_, .inl (.inl upd_same)⟩, for_tup (K := K) (a := T) (xs := [.ref l5, .ref l4]) (fun j σ H' => ∃ (y3 y4 y5 y6 y7 : Option V), σ = [some q, some (.ref l1), some (.ref l4), y3, y4, y5, y6, y7] ∧ Same G5 H' ∧ H' T = some (.tup [.ref l5, .ref l4])) ?_ ?_ ?_ ?_⟩⟩
  · exact ⟨none, none, none, none, none, rfl, same_upd nT, upd_same⟩
  · rintro j σ H' _ ⟨_, _, _, _, _, _, _, e⟩
    exact .inl (.inl e)
  · rintro j x σ H6 hx ⟨y3, y4, y5, y6, y7, rfl, S6, hT6⟩
    obtain ⟨l', zs, rfl, hl0, N0⟩ : ∃ l' zs, x = V.ref l' ∧ G5 l' = some (.lst zs) ∧ Ers K q G5 zs (nine c) := by
      match j, hx with
      | 0, h => exact ⟨l5, ys5, (Option.some.inj h).symm, e5, N5⟩
      | 1, h => exact ⟨l4, ys4, (Option.some.inj h).symm, e5', N4⟩
    have N6 := N0.same S6
    have hl6 := S6 _ _ hl0
    clear N4 N5 N0 e5 e5' hl0
    have N6' := N6
    unfold nine at N6

    cases N6 with
    | cons z0 N6 =>
    cases N6 with
    | cons z1 N6 =>
    cases N6 with
    | cons z2 N6 =>
    cases N6 with
    | cons z3 N6 =>
    cases N6 with
    | cons z4 N6 =>
    cases N6 with
    | cons z5 N6 =>
    cases N6 with
    | cons z6 N6 =>
    cases N6 with
    | cons z7 N6 =>
    cases N6 with
    | cons z8 N6 =>
    cases N6
    obtain ⟨e0, rfl, x0, d0, u0, w0⟩ := z0
    obtain ⟨e1, rfl, x1, d1, u1, w1⟩ := z1
    obtain ⟨e2, rfl, x2, d2, u2, w2⟩ := z2
    obtain ⟨e3, rfl, x3, d3, u3, w3⟩ := z3
    obtain ⟨e4, rfl, x4, d4, u4, w4⟩ := z4
    obtain ⟨e5, rfl, x5, d5, u5, w5⟩ := z5
    obtain ⟨e6, rfl, x6, d6, u6, w6⟩ := z6
    obtain ⟨e7, rfl, x7, d7, u7, w7⟩ := z7
    obtain ⟨e8, rfl, x8, d8, u8, w8⟩ := z8
    -- told
    refine seq_asg (lst_of ?_)
    refine ⟨.ref l', rfl, l', _, 0, .ref e0, rfl, rfl, .inl (.inl hl6), rfl, e0, c 0, d0, _, q, rfl, u0, w0, x0, VS.v0.no, lk_one, ?_⟩
    refine ⟨.ref l', rfl, l', _, 1, .ref e1, rfl, rfl, .inl (.inl hl6), rfl, e1, c 1, d1, _, q, rfl, u1, w1, x1, VS.v1.no, lk_one, ?_⟩
    refine ⟨.ref l', rfl, l', _, 2, .ref e2, rfl, rfl, .inl (.inl hl6), rfl, e2, c 2, d2, _, q, rfl, u2, w2, x2, VS.v2.no, lk_one, ?_⟩
    refine ⟨.ref l', rfl, l', _, 3, .ref e3, rfl, rfl, .inl (.inl hl6), rfl, e3, c 3, d3, _, q, rfl, u3, w3, x3, VS.v3.no, lk_one, ?_⟩
    refine ⟨.ref l', rfl, l', _, 4, .ref e4, rfl, rfl, .inl (.inl hl6), rfl, e4, c 4, d4, _, q, rfl, u4, w4, x4, VS.v4.no, lk_one, ?_⟩
    refine ⟨.ref l', rfl, l', _, 5, .ref e5, rfl, rfl, .inl (.inl hl6), rfl, e5, c 5, d5, _, q, rfl, u5, w5, x5, VS.v5.no, lk_one, ?_⟩
    refine ⟨.ref l', rfl, l', _, 6, .ref e6, rfl, rfl, .inl (.inl hl6), rfl, e6, c 6, d6, _, q, rfl, u6, w6, x6, VS.v6.no, lk_one, ?_⟩
    refine ⟨by show 7 ≤ sizeLine; decide, fun t7 nt7 => ?_⟩
    have s7 := same_upd (o := .lst [q, q, q, q, q, q, q]) nt7
    -- not _law_like(.., ..)
    refine ⟨.ref t7, rfl, lst_of ?_⟩
    refine ⟨.ref l', rfl, l', _, 7, .ref e7, rfl, rfl, .inl (.inl (s7 _ _ hl6)), rfl, e7, c 7, d7, _, q, rfl, s7 _ _ u7, s7 _ _ w7, x7, VS.v7.no, lk_one, ?_⟩
    refine ⟨.ref l', rfl, l', _, 8, .ref e8, rfl, rfl, .inl (.inl (s7 _ _ hl6)), rfl, e8, c 8, d8, _, q, rfl, s7 _ _ u8, s7 _ _ w8, x8, VS.v8.no, lk_one, ?_⟩
    refine ⟨by show 2 ≤ sizeLine; decide, fun t8 nt8 => ⟨t7, t8, _, _, rfl, rfl, up_of nt8 upd_same, upd_same, by show 9 ≤ sizeLine; decide, fun t9 nt9 kt9 => ?_⟩⟩
    refine ⟨q, rfl, by show 1 ≤ sizeLine; decide, fun g1 ng1 => ⟨g1, 9, [q], rfl, rfl, upd_same, by decide, by decide, by show 1 ≤ 1000; decide, fun g2 ng2 kg2 => ?_⟩⟩
    have SF := (s7.trans (same_upd (o := .lst [q, q]) nt8)).trans (((same_upd (o := .lst ([q, q, q, q, q, q, q] ++ [q, q])) nt9).trans (same_upd (o := .lst [q]) ng1)).trans (same_upd (o := .lst (List.replicate (9 : Int).toNat [q]).flatten) ng2))
    obtain ⟨dq, hdq, smq⟩ := ((hq.same W5).same S6).same SF
    have D9 : DqA _ [q, q, q, q, q, q, q, q, q] [dq, dq, dq, dq, dq, dq, dq, dq, dq] := .cons hdq (.cons hdq (.cons hdq (.cons hdq (.cons hdq (.cons hdq (.cons hdq (.cons hdq (.cons hdq .nil))))))))
    refine ⟨.ref t9, .ref g2, .list [dq, dq, dq, dq, dq, dq, dq, dq, dq], rfl, .lst (up_of ng2 (up_of ng1 upd_same)) kt9 D9, .lst upd_same kg2 D9, sml_nine smq, _, rfl, iteF ?_⟩
    have S9 := S6.trans SF
    have N9 := N6'.same SF
    have hl9 := SF _ _ hl6
    have hT9 := SF _ _ hT6
    clear D9 hdq SF
    revert S9 N9 hl9 hT9
    generalize upd _ g2 _ = H9
    intro S9 N9 hl9 hT9
    -- for at, error in enumerate(row)
    refine ⟨.ref l', rfl, l', _, rfl, .inl (.inl hl9), for_it (walk_enum (xs := [V.ref e0, .ref e1, .ref e2, .ref e3, .ref e4, .ref e5, .ref e6, .ref e7, .ref e8])) (fun i σ H' => ∃ (y5 y6 y7 : Option V), σ = [some q, some (.ref l1), some (.ref l4), some (.ref l'), some (.ref t7), y5, y6, y7] ∧ Same H9 H') ⟨y5, y6, y7, rfl, Same.refl _⟩ ?_ ?_ ?_⟩
    · rintro i σ H' _ ⟨_, _, _, _, S⟩
      exact .inl (.inl (S _ _ hl9))
    · rintro i x σ H10 H11 hi ⟨y5, y6, y7, rfl, S10⟩ ⟨T', x', y, rfl, hT', rfl, ei, ey⟩
      cases ei
      obtain ⟨r, a, hr', rfl, Er⟩ := (N9.same S10).at ey
      have hi9 : i < 9 := hi
      have S11 := S10.trans (same_upd (o := .tup [.int (i : Nat), .ref a]) hT')
      have Er2 := Er.same (same_upd (o := .tup [.int (i : Nat), .ref a]) hT')
      refine ⟨T', _, rfl, .inl (.inl upd_same), rfl, .int (i : Nat), [.ref a], rfl, .ref a, [], rfl, rfl, ?_⟩
      have hC : r.1 = c i := by
        unfold nine at hr'
        match i, hi9, hr' with

        | 0, _, h => rw [← Option.some.inj h]
        | 1, _, h => rw [← Option.some.inj h]
        | 2, _, h => rw [← Option.some.inj h]
        | 3, _, h => rw [← Option.some.inj h]
        | 4, _, h => rw [← Option.some.inj h]
        | 5, _, h => rw [← Option.some.inj h]
        | 6, _, h => rw [← Option.some.inj h]
        | 7, _, h => rw [← Option.some.inj h]
        | 8, _, h => rw [← Option.some.inj h]
      rw [hC] at Er2
      revert S11 Er2
      generalize upd H10 T' (.tup [.int (i : Nat), .ref a]) = H12
      intro S11 Er2
      -- _law_marks(error) != [k == at for k in range(9)]
      refine ⟨.ref a, rfl, a, bAt i, rfl, ansV (KS.all i hi9) Er2, fun p H13 s13 n13 hp => ?_⟩
      refine rd_kat (n := (i : Int)) (fun _ => rfl) (fun _ => rfl) (fun v G R _ r => ⟨_, rfl, r⟩) fun D H14 s14 nD hD => ?_
      rw [mk9_at] at hp
      refine ⟨dKat i, dKat i, kat_dp (s14 _ _ hp), kat_dp hD, kat_shaped ⟨i, hi9⟩, kat_shaped ⟨i, hi9⟩, _, rfl, ?_⟩
      rw [show PyData.eqv (dKat i) (dKat i) = true from kat_eqv ⟨i, hi9⟩]
      refine iteF ?_
      -- _law_above(error) != [..]
      refine ⟨.ref a, rfl, a, bb6 i, rfl, ansA K6 hi9 ((Er2.same s13).same s14), fun p2 H15 s15 n15 hp2 => ?_⟩
      refine lst_of ?_
      refine ⟨_, rfl, _, _, rfl, rfl, _, rfl, _, _, rfl, rfl, _, rfl, rfl, by show 6 ≤ sizeLine; decide, fun p3 n3 => ?_⟩
      refine ⟨dAbv i, dAbv i, abv_dp (up_of n3 hp2), abv_dp ?_, abv_shaped ⟨i, hi9⟩, abv_shaped ⟨i, hi9⟩, _, rfl, ?_⟩
      · rw [upd_same]
        unfold mk6
        show some (HO.lst [V.bl (decide ((i : Int) < 8)), V.bl (decide ((i : Int) < 8)), V.bl (decide (V.int (i : Int) = V.int 8)), V.bl false, V.bl false, V.bl false]) = _
        rw [lt8, eq8]
        rfl
      rw [show PyData.eqv (dAbv i) (dAbv i) = true from abv_eqv ⟨i, hi9⟩]
      refine iteF ?_
      exact ⟨_, _, _, rfl, (((S11.trans s13).trans s14).trans s15).trans (same_upd n3)⟩
    · rintro σ H10 ⟨y5, y6, y7, rfl, S10⟩
      exact ⟨_, _, _, _, _, rfl, S9.trans S10, S10 _ _ hT9⟩
  · rintro σ H6 ⟨y3, y4, y5, y6, y7, rfl, S6, hT6⟩
    exact k H6 (W5.trans S6)
end
end K17

set_option Elab.async false
set_option linter.all false
set_option maxRecDepth 100000
set_option maxHeartbeats 8000000
/-! ### law(script) -/
namespace K17
open PySem PySem.Spec PyProof.Rows L2 KG K80 KT KR KC KN LamX
theorem drw_same {H H' : Hp} {m c g : Addr} {sp : Int} (D : Drw H m c g sp) (s : Same H H') : Drw H' m c g sp := by
  obtain ⟨h1, ⟨ns, h2, h3⟩, ⟨gs, h4, h5⟩, h6⟩ := D
  exact ⟨s _ _ h1, ⟨ns, h2, s _ _ h3⟩, ⟨gs, h4, s _ _ h5⟩, h6⟩
/-- the tables are as they were laid -/
def TabZ (T : List (Addr × Str)) (H : Hp) : Prop := ∀ p ∈ T, H p.1 = some (.tbl #[])
theorem TabZ.same {T : List (Addr × Str)} {H H' : Hp} (t : TabZ T H) (s : Same H H') : TabZ T H' := fun p hp => s _ _ (t p hp)
theorem TabZ.draw {T : List (Addr × Str)} {H H' : Hp} {m c g : Addr} {sp : Int} (t : TabZ T H) (D : Drw H m c g sp) (s : SameD m g H H') : TabZ T H' := fun p hp => by
  have e := t p hp
  obtain ⟨h1, _, ⟨gs, _, h5⟩, _⟩ := D
  refine s _ _ (fun z => ?_) (fun z => ?_) e
  · rw [z, h1] at e
    cases e
  · rw [z, h5] at e
    cases e
theorem TabZ.tabs {T : List (Addr × Str)} {H : Hp} (t : TabZ T H) : Tabs T H := fun p hp => TabS.nil (t p hp)
abbrev sLaw : Stmt := topS 93
theorem scLaw : FnScope ["script", "m", "turn", "bare"] ["script"] (defScope sLaw) := ⟨rfl, rfl, rfl, by decide +kernel, rfl, by decide +kernel, by decide +kernel⟩
/-- what isinstance says of a FaultError -/
structure KitF (K : PySem.W.Frag) (c : Nat → Addr) : Prop where
  ex : PySem.W.excIn K (c 9) ve "ValueError.__new__" = true
  kp : PySem.W.keepIn K (.ref (c 9)) = true
  ec : ExcC K (c 9)
  own : ∀ i, i < 9 → PySem.W.kitOne K (.ref (c 9)) (.ref (c i)) = some false
  k0 : PySem.W.kitOne K (.ref (c 9)) (.ref (c 9)) = some true
  k1 : PySem.W.kitOne K (.ref (c 9)) (.type "ValueError") = some true
  k2 : PySem.W.kitOne K (.ref (c 9)) (.type "OverflowError") = some false
  k3 : PySem.W.kitOne K (.ref (c 9)) (.type "LookupError") = some false
  k4 : PySem.W.kitOne K (.ref (c 9)) (.type "RuntimeError") = some false
  k5 : PySem.W.kitOne K (.ref (c 9)) (.type "TypeError") = some false
def bF : Nat → Bool := fun i => decide (i < 2)
theorem ansF9 {K : PySem.W.Frag} {c : Nat → Addr} {H : Hp} {a : Addr} (T : KitF K c) (e : H a = some (ExO (.ref (c 9)) a)) : Ans9 (rIsV K) c H a (fun _ => false) := by
  have one : ∀ i, i < 9 → Is (rIsV K) H a (.ref (c i)) false := fun i hi H' Q s q => .inr ⟨a, c 9, .ref (c i), .ref (c i), false, rfl, s _ _ e, T.ec, .own _, T.own i hi, q⟩
  exact ⟨one 0 (by decide), one 1 (by decide), one 2 (by decide), one 3 (by decide), one 4 (by decide), one 5 (by decide), one 6 (by decide), one 7 (by decide), one 8 (by decide)⟩
theorem ansF6 {K : PySem.W.Frag} {c : Nat → Addr} {H : Hp} {a : Addr} (T : KitF K c) (e : H a = some (ExO (.ref (c 9)) a)) : Ans6 (rIsV K) c H a bF := by
  have one : ∀ (b : Bool) (v : V) (cv : Value), ClsV v cv → PySem.W.kitOne K (.ref (c 9)) cv = some b → Is (rIsV K) H a v b := fun b v cv hc hk H' Q s q => .inr ⟨a, c 9, v, cv, b, rfl, s _ _ e, T.ec, hc, hk, q⟩
  exact ⟨one _ _ _ (.own _) T.k0, one _ _ _ (.ty _) T.k1, one _ _ _ (.ty _) T.k2, one _ _ _ (.ty _) T.k3, one _ _ _ (.ty _) T.k4, one _ _ _ (.ty _) T.k5⟩
abbrev dF9 : PyData := .list [.bool false, .bool false, .bool false, .bool false, .bool false, .bool false, .bool false, .bool false, .bool false]
abbrev dF6 : PyData := .list [.bool true, .bool true, .bool false, .bool false, .bool false, .bool false]
theorem f9_shaped : SeqAt.shaped dF9 = true := by decide +kernel
theorem f9_eqv : PyData.eqv dF9 dF9 = true := by decide +kernel
theorem f6_shaped : SeqAt.shaped dF6 = true := by decide +kernel
theorem f6_eqv : PyData.eqv dF6 dF6 = true := by decide +kernel
theorem f9_dp {K : PySem.W.Frag} {H : Hp} {p : Addr} (e : H p = some (.lst [.bl false, .bl false, .bl false, .bl false, .bl false, .bl false, .bl false, .bl false, .bl false])) : Dp K H (.ref p) dF9 := .lst (.inl (.inl e)) (bls_dp [false, false, false, false, false, false, false, false, false])
theorem f6_dp {K : PySem.W.Frag} {H : Hp} {p : Addr} (e : H p = some (.lst [.bl true, .bl true, .bl false, .bl false, .bl false, .bl false])) : Dp K H (.ref p) dF6 := .lst (.inl (.inl e)) (bls_dp [true, true, false, false, false, false])
def dLast : PyData := .tuple [.int 1, .tuple [.int 2, .none]]
theorem last_sml : smlB dLast = true := by decide +kernel
section
variable {P : Program} {w : World} {K : PySem.W.Frag} {mg : Str → Option Value} {base : Heap} {c : Nat → Addr}
def spLaw (K : PySem.W.Frag) (T : List (Addr × Str)) : Sp := fun vs H Q _ => ∃ (a : Addr) (ns : List Int), vs = [.ref a] ∧ SqL K H a (ns.map V.int) ∧ ns.length ≤ 63 ∧ TabZ T H ∧ ∀ H', Q (.bl true) H'
theorem ok_law {f fB fO fD fR fM fA fW : Addr} {fd fdB fdO fdD fdR fdM fdA fdW : FuncData} {T : List (Addr × Str)} (F : Fun K "law" "law" sLaw f fd) (N : Nms mg c) (KF : KitF K c)
    (dB : Dfn K mg "_law_begun" fB fdB ["script"]) (GB : FnOk P w K mg base CX0 2 fB fdB ["script"] (spBegun K))
    (dO : Dfn K mg "_law_of" fO fdO ["m", "some"]) (GO : FnOk P w K mg base CX0 3 fO fdO ["m", "some"] spOf)
    (dD : Dfn K mg "_law_odds" fD fdD []) (GD : FnG P w K mg base 1 fD fdD [] spOdds)
    (dR : Dfn K mg "_law_made_right" fR fdR ["thing"]) (GR : FnG P w K mg base 3 fR fdR ["thing"] spMR)
    (dM : Dfn K mg "_law_marks" fM fdM ["error"]) (GM : FnG P w K mg base 1 fM fdM ["error"] (spMarks K c))
    (dA : Dfn K mg "_law_above" fA fdA ["error"]) (GA : FnG P w K mg base 1 fA fdA ["error"] (spAbove K c))
    (dW : Dfn K mg "_law_raised_right" fW fdW []) (GW : FnG P w K mg base 14 fW fdW [] (spRR T))
    (zr : mg "range" = none) (zm : mg "min" = none) (zl : mg "len" = none) : FnG P w K mg base 15 f fd ["script"] (spLaw K T) := by
  refine fnG_of F scLaw (fun vs H Q E h => ?_) (fun cdv A outer s H vs Q E hgd hr h => ?_)
  · obtain ⟨a, ns, rfl, _⟩ := h
    rfl
  obtain ⟨a, ns, rfl, hS, hlen, hT, q⟩ := h
  have hr1 : Room 1 _ := hr.mono (by decide)
  have hr2 : Room 2 _ := hr.mono (by decide)
  have hr3 : Room 3 _ := hr.mono (by decide)
  refine ⟨_, pss_cons (ps_set (i := 1) scLaw.nd rfl (.inl rfl) (pe_call GB hr2 (by rfl) dB.gm dB.kp dB.bd .nil pass0 (pa_cons (pv 0) pa_nil)))
    (pss_cons (ps_for PassesOwn.never rfl (pi_range1 (by rfl) zr (pa_cons (pe_op op_add pe_int (pe_callB (call_min2 rfl) (by rfl) zm (by decide +kernel) (pa_cons pe_int (pa_cons (pe_callB call_len_seq (by rfl) zl PySem.boot_len (pa_cons (pv 0) pa_nil)) pa_nil)))) pa_nil)) (pg_name (i := 2) scLaw.nd rfl (.inl rfl))
      (pss_one (ps_if (pt_not (pt_val (pe_callG GR hgd hr3 (by rfl) dR.gm dR.kp dR.bd (pa_cons (pe_call GO hr3 (by rfl) dO.gm dO.kp dO.bd .nil pass0 (pa_cons (pv 1) (pa_cons (pe_callG0 GD hgd hr1 (by rfl) dD.gm dD.kp dD.bd) pa_nil))) pa_nil)))) (pss_one (ps_ret pe_bl)) pss_nil)))
    (pss_cons (ps_set (i := 3) scLaw.nd rfl (.inl rfl) (pe_exc1 PySem.F.excBase_ValueError KF.ex N.g9 KF.kp (by rfl) pe_str))
    (pss_cons (ps_if (PW.pt (pw_or (pt_cmpR (op_neD hr.units) (pe_callG GM hgd hr1 (by rfl) dM.gm dM.kp dM.bd (pa_cons (pv 3) pa_nil)) (pe_op op_rep (pe_lst (pa_cons pe_bl pa_nil)) pe_int) (nomark _)) (pw_or1 (pt_cmpR (op_neD hr.units) (pe_callG GA hgd hr1 (by rfl) dA.gm dA.kp dA.bd (pa_cons (pv 3) pa_nil)) (pe_lst (pa_cons pe_bl (pa_cons pe_bl (pa_cons pe_bl (pa_cons pe_bl (pa_cons pe_bl (pa_cons pe_bl pa_nil))))))) (nomark _))))) (pss_one (ps_ret pe_bl)) pss_nil)
    (pss_one (ps_ret (pe_and (pe_callG GR hgd hr3 (by rfl) dR.gm dR.kp dR.bd (pa_cons (pe_tup (pa_cons pe_int (pa_cons (pe_tup (pa_cons pe_int (pa_cons pe_non pa_nil))) pa_nil))) pa_nil)) (pe_one (pe_callG0 GW hgd hr (by rfl) dW.gm dW.kp dW.bd)))))))), ?_⟩
  -- m = _law_begun(script)
  refine ⟨_, rfl, a, ns, rfl, hS, hlen, fun H0 m cc g S0 nm nc ng D0 => ?_⟩
  -- for turn in range(2 + min(5, len(script)))
  refine ⟨_, rfl, a, _, rfl, .inl (S0.seq hS), _, _, rfl, _, _, rfl, rfl, _, rfl, ?_, ?_, for_range (fun i σ H1 => ∃ (y2 y3 : Option V) (sp : Int), σ = [some (.ref a), some (.ref m), y2, y3] ∧ Drw H1 m cc g sp ∧ sp = (i : Int) ∧ i ≤ 7 ∧ TabZ T H1) ?_ ?_ ?_⟩
  · rw [List.length_map]
    split <;> omega
  · rw [List.length_map]
    split <;> omega
  · exact ⟨none, none, 0, rfl, D0, rfl, by omega, hT.same S0⟩
  · rintro i σ H1 hi ⟨y2, y3, sp, rfl, D1, hsp, hi7, T1⟩
    have hi' : i < 7 := by
      rw [List.length_map] at hi
      split at hi <;> omega
    refine ⟨.ref m, rfl, rfl, fun H2 l xs S2 nl hl hx hok => ?_⟩
    obtain ⟨dm, _, ⟨gs, _, dg⟩, _⟩ := id D1
    have lm : l ≠ m := fun z => by rw [z, dm] at nl; cases nl
    have lg : l ≠ g := fun z => by rw [z, dg] at nl; cases nl
    refine ⟨m, cc, g, l, sp, xs, rfl, drw_same D1 S2, by omega, by omega, lm, lg, .inl hl, by omega, by omega, fun j v H3 hv D3 S3 => ?_⟩
    have ok3 : OkS H3 v := (hok v (List.mem_of_getElem? hv)).same fun b o e => by
      obtain ⟨e1, e2⟩ := fr_of e
      exact S3 _ _ (fun z => by rw [z, dm] at e1; cases e1) (fun z => by rw [z, dg] at e1; cases e1) e2
    refine ⟨v, rfl, ok3, fun H4 S4 => ⟨_, rfl, iteF ?_⟩⟩
    exact ⟨_, _, _, rfl, drw_same D3 S4, by omega, by omega, ((T1.same S2).draw (drw_same D1 S2) S3).same S4⟩
  · rintro σ H1 ⟨y2, y3, sp, rfl, _, _, _, T1⟩
    -- bare
    intro e ne
    have T2 := T1.same (same_upd (o := ExO (.ref (c 9)) e) ne)
    have h2 : (upd H1 e (ExO (.ref (c 9)) e)) e = some (ExO (.ref (c 9)) e) := upd_same
    generalize upd H1 e (ExO (.ref (c 9)) e) = H2 at T2 h2 ⊢
    refine ⟨.ref e, rfl, e, fun _ => false, rfl, ansF9 KF h2, fun p H3 s3 n3 hp => ?_⟩
    refine ⟨by show 1 ≤ sizeLine; decide, fun g1 ng1 => ⟨g1, 9, [.bl false], rfl, rfl, upd_same, by decide, by decide, by show 9 ≤ sizeLine; decide, fun g2 ng2 => ?_⟩⟩
    have s4 := (same_upd (o := .lst [.bl false]) ng1).trans (same_upd (o := .lst (List.replicate (9 : Int).toNat [V.bl false]).flatten) ng2)
    refine ⟨dF9, dF9, f9_dp (s4 _ _ hp), f9_dp upd_same, f9_shaped, f9_shaped, _, rfl, ?_⟩
    rw [f9_eqv]
    refine iteF ?_
    refine ⟨.ref e, rfl, e, bF, rfl, ansF6 KF (s4 _ _ (s3 _ _ h2)), fun p2 H5 s5 n5 hp2 => ?_⟩
    refine ⟨by show 6 ≤ sizeLine; decide, fun g3 ng3 => ?_⟩
    refine ⟨dF6, dF6, f6_dp (up_of ng3 hp2), f6_dp upd_same, f6_shaped, f6_shaped, _, rfl, ?_⟩
    rw [f6_eqv]
    refine iteF ?_
    have T5 := (((T2.same s3).same s4).same s5).same (same_upd (o := .lst [.bl true, .bl true, .bl false, .bl false, .bl false, .bl false]) ng3)
    revert T5
    generalize upd _ g3 _ = H6
    intro T5
    -- return
    refine ⟨by show 2 ≤ sizeLine; decide, fun t1 n1 => ⟨by show 2 ≤ sizeLine; decide, fun t2 n2 => ?_⟩⟩
    refine ⟨.ref t2, rfl, ⟨dLast, .tup upd_same (.cons (.int 1) (.cons (.tup (up_of n2 upd_same) (.cons (.int 2) (.cons .non .nil))) .nil)), sml_by last_sml⟩, fun H7 S7 => ⟨true, rfl, iteT ?_⟩⟩
    exact ⟨rfl, ((T5.same ((same_upd n1).trans (same_upd n2))).same S7).tabs, q⟩
end
end K17

set_option Elab.async false
set_option linter.all false
set_option maxRecDepth 100000
set_option maxHeartbeats 4000000
/-! ### the law is called where no repr is under way, with one table of code objects: the head for promises of these files -/
namespace KG
open PySem PySem.Spec PyProof.Rows L2 LamX
theorem gd_caller : callerA.guards = some [] := rfl
theorem law_callTG {P : Program} {w : World} {K : PySem.W.Frag} {mg mb : Str → Option Value} {k : Nat} {fa a cA tA : Addr} {fd : FuncData} {x : Str} {sp : Sp} {s₁ : Shared} {vs : List Value} {ns : List Int}
    (KX : K.In s₁.heap) (hns : s₁.heap.Ns mainGlobals mg) (hb : s₁.heap.Ns builtinsNs mb) (hbb : ∀ x : Str, x ≠ "__name__" → mb x = bootBuiltins x) (hlim : s₁.heap.NoLimit) (hg : s₁.gens = #[])
    (hC : PySem.W.CodeHd s₁.heap cA tA) (hT : s₁.heap.get? tA = some { cls := .none, data := .fields #[] }) (nT : K.lookup tA = none)
    (hbm : ∃ (bm : Addr) (ob : Obj), mg "__builtins__" = some (.ref bm) ∧ bm ≠ builtinsNs ∧ s₁.heap.get? bm = some ob ∧ ob.cls = .type "module" ∧ ob.dict = some builtinsNs ∧ ob.data = .plain)
    (ha : s₁.heap.get? a = some { cls := .type "list", data := .seq vs.toArray }) (hi : IntsAre vs ns) (hl : ns.length ≤ sizeLine) (hr : Room k callerA)
    (F : ∀ base : Heap, K.In base → base.Ns mainGlobals mg → TabB base mg cA tA → FnG P w K mg base k fa fd [x] sp) (hbind : ∀ (s : Shared) (u : Value), BindsTo s fd ⟨[u], []⟩ [(x, u)])
    (hsp : ∀ H : Hp, H tA = some (.tbl #[]) → SqL K H a (ns.map V.int) → sp [.ref a] H (fun v _ => v = .bl true) E0) :
    codeAny (model P w) callerA (.call (.ref fa) ⟨[.ref a], []⟩) (fun r s' => r = .ok (.ret (.bool true)) ∧ OldK s₁.heap s'.heap ∧ s'.os = s₁.os ∧ AllBare s'.gens) s₁ := by
  have rv := vals_ints hi
  have lenV := hi.length
  have aT : a ≠ tA := fun z => by
    rw [z, hT] at ha
    cases ha
  have core : ∀ H : Hp, H tA = some (.tbl #[]) → (∀ b, b ≠ tA → H b = none ∨ ∃ o xs, H b = some (.frz o (.lst xs))) → SqL K H a (ns.map V.int) → HOk P w H s₁.heap → (∀ b u, b ≠ tA → H b = some u → b = a ∧ K.lookup a = none) →
      codeAny (model P w) callerA (.call (.ref fa) ⟨[.ref a], []⟩) (fun r s' => r = .ok (.ret (.bool true)) ∧ OldK s₁.heap s'.heap ∧ s'.os = s₁.os ∧ AllBare s'.gens) s₁ := by
    intro H hH hO hS hok hA
    have off : ∀ {b : Addr} {o : Obj}, s₁.heap.get? b = some o → (∀ vs n, o.data ≠ .seq vs n) → o.data ≠ .fields #[] → H b = none := fun {b o} e n1 n2 => by
      cases q : H b with
      | none => rfl
      | some u =>
        by_cases hbt : b = tA
        · rw [hbt, hT] at e
          cases e
          exact (n2 rfl).elim
        · rw [(hA b u hbt q).1, ha] at e
          cases e
          exact (n1 _ _ rfl).elim
    have stays : ∀ {b : Addr} {o : Obj}, s₁.heap.get? b = some o → (∀ vs n, o.data ≠ .seq vs n) → o.data ≠ .fields #[] → (hidT s₁.heap H).get? b = some o := fun e n1 n2 => hidT_get e (off e n1 n2)
    have nsK : ∀ {b : Addr} {m : Str → Option Value}, s₁.heap.Ns b m → (hidT s₁.heap H).Ns b m := fun z => by
      obtain ⟨o, es, ep, e, d, r⟩ := z
      refine ⟨o, es, ep, stays e (fun vs n q => ?_) (fun q => ?_), d, r⟩ <;> rw [d] at q <;> cases q
    have inK : K.In (hidT s₁.heap H) := fun b o e => hidT_get (KX b o e) (by
      cases q : H b with
      | none => rfl
      | some u =>
        by_cases hbt : b = tA
        · rw [hbt, nT] at e
          cases e
        · obtain ⟨e1, e2⟩ := hA b u hbt q
          rw [e1, e2] at e
          cases e)
    obtain ⟨mc, l1, l2⟩ := hlim
    have mod : L2.Mod K mg (hidT s₁.heap H) := ⟨inK, nsK hns, ⟨mb, nsK hb, hbb⟩, ⟨mc, nsK l1, l2⟩⟩
    have TB : TabB (hidT s₁.heap H) mg cA tA := by
      refine ⟨?_, ?_, fun z => ?_⟩
      · obtain ⟨o, us, file, tf, flags, tg, inF, text, tt, e1, r1, r2, r3, rest⟩ := hC
        refine ⟨o, us, file, tf, flags, tg, inF, text, tt, stays e1 (fun vs n q => ?_) (fun q => ?_), r1, r2, r3, rest⟩
        · rw [r2] at q
          cases q
        · rw [r2] at q
          cases q
          simp at r3
      · obtain ⟨bm, ob, b1, b2, b3, b4, b5, b6⟩ := hbm
        refine ⟨bm, ob, b1, b2, fun q => ?_, fun q => ?_, stays b3 (fun vs n q => ?_) (fun q => ?_), b4, b5, b6⟩
        · obtain ⟨o, es, ep, e, d, _⟩ := hns
          rw [q, e] at b3
          cases b3
          rw [d] at b6
          cases b6
        · rw [q, hT] at b3
          cases b3
          cases b6
        · rw [b6] at q
          cases q
        · rw [b6] at q
          cases q
      · obtain ⟨o, es, ep, e, d, _⟩ := hns
        rw [z, hT] at e
        cases e
        cases d
    have e0 : Env0 P w K mg (hidT s₁.heap H) callerA [] s₁ H := ⟨rfl, mod, fun b o e => of_hidT e, Nat.le_of_eq (hidT_size _ _), trivial, fun b hb => absurd (show b ∈ ([] : List Addr) from hb) (by simp), hok, .of_eq hg⟩
    refine codeAny_mono ((F _ inK (nsK hns) TB).run callerA [] s₁ H ⟨[.ref a], []⟩ [.ref a] [.ref a] _ _ gd_caller hr e0 (hbind s₁ (.ref a)) (.cons rfl .nil) (hsp H hH hS)) fun r s' h => ?_
    cases r with
    | error e => exact False.elim h
    | ok fl => cases fl with
      | next => exact False.elim h
      | brk => exact False.elim h
      | cont => exact False.elim h
      | ret u =>
        obtain ⟨v, H', os, bare, un, hok', r', q⟩ := h
        have q' : v = .bl true := q
        subst q'
        obtain rfl : u = Value.bool true := r'
        have key : ∀ b o, b ≠ tA → s₁.heap.get? b = some o → s'.heap.get? b = some o := fun b o nb e => by
          rcases hO b nb with z | ⟨ob, xs, z⟩
          · exact un.keep b o e z (fun y => absurd (show b ∈ ([] : List Addr) from y) (by simp)) (by simp)
          · obtain ⟨e1, _⟩ := hok b _ z
            obtain ⟨e2, _⟩ := hok' b _ (un.frzs b ob _ z)
            rw [e] at e1
            cases e1
            exact e2
        have grown : ∃ more : Array Value, s'.heap.get? tA = some { cls := .none, data := .fields more } := by
          obtain ⟨more, z⟩ := un.tbls tA #[] hH
          exact ⟨_, hok' tA _ z⟩
        refine ⟨rfl, ⟨fun b o e => ?_, fun b o e => ?_⟩, os, bare⟩
        · by_cases hbt : b = tA
          · obtain ⟨more, hm⟩ := grown
            rw [hbt] at e ⊢
            rw [hT] at e
            cases e
            exact .inr (.inl ⟨(hC.tab hT).isCodeTable, rfl, #[], more, rfl, by rw [Array.empty_append]; exact hm⟩)
          · exact .inl (key b o hbt e)
        · by_cases hbt : b = tA
          · obtain ⟨more, hm⟩ := grown
            rw [hbt]
            exact ⟨_, hm⟩
          · exact ⟨o, key b o hbt e⟩
  have tabOk : ∀ (H : Hp) (u : HO), H tA = some (.tbl #[]) → H tA = some u → ObjOk P w H s₁.heap tA u := fun H u h1 h2 => by
    rw [h1] at h2
    cases h2
    exact hT
  cases hk : K.lookup a with
  | some o =>
    have e := KX a o hk
    rw [ha] at e
    cases e
    have at0 : ∀ {b : Addr}, b ≠ tA → (if b = tA then some (HO.tbl #[]) else none) = none := fun hb => if_neg hb
    refine core (fun b => if b = tA then some (.tbl #[]) else none) (if_pos rfl) (fun b hb => .inl (at0 hb)) (.inr ⟨_, vs.toArray, _, hk, rfl, rfl, rfl, by rw [List.size_toArray, lenV]; exact hl, by simpa using rv⟩) (fun b u z => ?_) fun b u hb z => ?_
    · by_cases hb : b = tA
      · subst hb
        exact tabOk _ _ (if_pos rfl) z
      · exact nomatch (at0 hb).symm.trans z
    · exact nomatch (at0 hb).symm.trans z
  | none =>
    let H : Hp := fun b => if b = tA then some (.tbl #[]) else if b = a then some (HO.frz { cls := .type "list", data := .seq vs.toArray } (.lst (ns.map V.int))) else none
    have hHt : H tA = some (.tbl #[]) := if_pos rfl
    have hHa : H a = some (HO.frz { cls := .type "list", data := .seq vs.toArray } (.lst (ns.map V.int))) := (if_neg aT).trans (if_pos rfl)
    have hHn : ∀ {b : Addr}, b ≠ tA → b ≠ a → H b = none := fun h1 h2 => (if_neg h1).trans (if_neg h2)
    refine core H hHt (fun b hb => ?_) (.inl (.inr ⟨_, hHa⟩)) (fun b u z => ?_) fun b u hb z => ?_
    · by_cases hba : b = a
      · rw [hba]
        exact .inr ⟨_, _, hHa⟩
      · exact .inl (hHn hb hba)
    · by_cases hb : b = tA
      · subst hb
        exact tabOk _ _ hHt z
      · by_cases hba : b = a
        · subst hba
          rw [hHa] at z
          cases z
          exact ⟨ha, by rw [List.length_map]; exact hl, vs, _, rv, ha⟩
        · rw [hHn hb hba] at z
          cases z
    · by_cases hba : b = a
      · exact ⟨hba, hk⟩
      · rw [hHn hb hba] at z
        cases z
/-- where the law's row stands, with one table -/
theorem walk_ofTG {l : PySem.W.OpenLaw} {n k : Nat} {q : Program} {loose : List Str} {XP : (Str → Option Value) → Heap → Prop} {YP : World → Heap → Prop} {d : DefRec} {K : Params → PySem.W.Frag} {x : Str}
    (hn : l.most = some n) (hn2 : n ≤ sizeLine) (hdf : d.params.defaults = []) (hr : Room k callerA) (hY : ∀ (w : World) (h : Heap), YP w h → (K w.params).In h)
    (F : ∀ (w : World) (mg : Str → Option Value) (fa : Addr) (h : Heap), YP w h → (K w.params).In h → h.Ns mainGlobals mg → mg d.name = some (.ref fa) →
      ∃ (fd : FuncData) (cA tA : Addr) (sp : Sp), PySem.W.CodeHd h cA tA ∧ h.get? tA = some { cls := .none, data := .fields #[] } ∧ (K w.params).lookup tA = none ∧ (∀ (s : Shared) (u : Value), BindsTo s fd ⟨[u], []⟩ [(x, u)]) ∧
        (∀ (H : Hp) (a : Addr) (ns : List Int), ns.length ≤ n → H tA = some (.tbl #[]) → SqL (K w.params) H a (ns.map V.int) → sp [.ref a] H (fun v _ => v = .bl true) E0) ∧
        ∀ base : Heap, (K w.params).In base → base.Ns mainGlobals mg → TabB base mg cA tA → FnG l.prog w (K w.params) mg base k fa fd [x] sp) :
    PySem.W.WalkO q loose XP YP l.row.toRowW d [] (fun f vs => PySem.call f vs) := by
  refine Att.attach_call hn hdf fun w s₀ s₁ mg mb fa o pm cd doc a vs ns G Y ho hd hcd hmg hobj hints hlen hg => ?_
  have KX := hY w _ Y
  obtain ⟨fd, cA, tA, sp, hC, hT, h3, hb, hsp, hF⟩ := F w mg fa _ Y KX G.T.g hmg
  exact law_callTG KX G.T.g G.T.b G.T.builtins G.T.nolimit hg hC hT h3 G.T.bmain hobj hints (Nat.le_trans hlen hn2) hr hF hb fun H hH hS => hsp H a ns hlen hH hS
end KG

set_option Elab.async false
set_option linter.all false
set_option maxRecDepth 100000
set_option maxHeartbeats 8000000
namespace K17
open PySem PySem.Spec PyProof.Rows L2 KG K80 KT KR KC KN LamX
section
variable {K : PySem.W.Frag} {C : Addr}
theorem cls_of {nm q : Str} {N : Addr} {bs bm : List Value} {sn : List Str} {sub : List Value} {ab : Bool} {col : Option Bool} {dd : Option Addr} {k0 k1 k2 k3 k5 : Option Value} {newId : String} (h : K.lookup C = some (excClassObj nm q C N bs bm true sn sub ab col dd k0 k1 k2 k3 k5 newId)) :
    PySem.W.clsIn K C = some { name := nm, bases := bs, mro := .ref C :: bm, ns := N, qualname := q, hasDict := true, slotNames := sn, subclasses := sub, abstract := ab, collection := col, hasDel := false } := by
  unfold PySem.W.clsIn
  rw [h] <;> rfl
theorem xb_of {nm q : Str} {N : Addr} {bs bm bmB : List Value} {sn : List Str} {sub : List Value} {ab : Bool} {col : Option Bool} {dd : Option Addr} {k0 k1 k2 k3 k5 : Option Value} {newId : String} (h : K.lookup C = some (excClassObj nm q C N bs bm true sn sub ab col dd k0 k1 k2 k3 k5 newId))
    (e : PySem.W.excTail bmB bm = true) (sa : PySem.W.findIn K (.ref C) "__setattr__" = some (some (.builtin "object.__setattr__"))) (kC : PySem.W.keepIn K (.ref C) = true) : XB K C newId bmB := by
  refine ⟨⟨nm, q, N, bs, bm, sn, sub, ab, col, dd, k0, k1, k2, k3, k5, h, e⟩, sa, ?_, ?_, kC⟩
  · unfold PySem.W.excOver
    rw [cls_of h]
    show (C == C && PySem.W.excTail bmB bm) = true
    rw [e, beq_self_eq_true]
    rfl
  · unfold PySem.W.hasDictIn
    rw [cls_of h]
    rfl
theorem taker_of {f : Str} (h : PySem.W.findIn K (.ref C) f = some none) : PySem.W.takerIn K C f = some none := by
  unfold PySem.W.takerIn
  rw [h]
  rfl
theorem tailV (F0 : Addr) : PySem.W.excTail ve (.ref F0 :: ve) = true := by
  show PySem.W.excTail ve ve = true
  decide +kernel
theorem tailO : PySem.W.excTail oeB oeB = true := by decide +kernel
end
theorem lt9 {p : Nat → Prop} (h0 : p 0) (h1 : p 1) (h2 : p 2) (h3 : p 3) (h4 : p 4) (h5 : p 5) (h6 : p 6) (h7 : p 7) (h8 : p 8) : ∀ n, n < 9 → p n := fun n hn => by
  match n, hn with
  | 0, _ => exact h0
  | 1, _ => exact h1
  | 2, _ => exact h2
  | 3, _ => exact h3
  | 4, _ => exact h4
  | 5, _ => exact h5
  | 6, _ => exact h6
  | 7, _ => exact h7
  | 8, _ => exact h8
theorem all_mk {l : PySem.W.OpenLaw} {w : World} {K : PySem.W.Frag} {h : Heap} {mg : Str → Option Value} {fa cA : Addr} (tA : Addr) {c0 c1 c2 c3 c4 c5 c6 c7 c8 c9 f0 f1 f2 f3 f4 f5 f6 f7 f8 f_nu f_nn f_tu f_se f_ss f_lo f_ro f_fw f_va f_ba f_ri f_nl f_me f_ma f_le f_lr f_rm f_im f_sh f_nsh f_isf f_nf f_su f_nr f_io f_nh f_nw f_lm f_mk f_lk f_cf f_co f_af f_fa f_lw f_hf f_na f_be f_cn f_mi f_fo f_dr f_bg f_li f_of f_od f_mr f_ab f_md f_rd f_rr f_la : Addr} (X : K.In h) (G : h.Ns mainGlobals mg) (hfa : mg "law" = some (.ref fa)) (hT : h.get? tA = some { cls := .none, data := .fields #[] })
    {tk0 : Tok}
    {tk1 : Tok}
    {tk2 : Tok}
    {tk3 : Tok}
    {tk4 : Tok}
    {tk5 : Tok}
    {tk6 : Tok}
    {tk7 : Tok}
    {tk8 : Tok}
    {oc_nu kV_nu dc_nu pm_nu cd_nu ct_nu : Value} {od_nu an_nu : Option Addr} {sl_nu : Array (Option Value)}
    {oc_nn kV_nn dc_nn pm_nn cd_nn ct_nn : Value} {od_nn an_nn : Option Addr} {sl_nn : Array (Option Value)}
    {oc_tu kV_tu dc_tu pm_tu cd_tu ct_tu : Value} {od_tu an_tu : Option Addr} {sl_tu : Array (Option Value)}
    {oc_se kV_se dc_se pm_se cd_se ct_se : Value} {od_se an_se : Option Addr} {sl_se : Array (Option Value)}
    {oc_ss kV_ss dc_ss pm_ss cd_ss ct_ss : Value} {od_ss an_ss : Option Addr} {sl_ss : Array (Option Value)}
    {oc_lo kV_lo dc_lo pm_lo cd_lo ct_lo : Value} {od_lo an_lo : Option Addr} {sl_lo : Array (Option Value)}
    {oc_ro kV_ro dc_ro pm_ro cd_ro ct_ro : Value} {od_ro an_ro : Option Addr} {sl_ro : Array (Option Value)}
    {oc_fw kV_fw dc_fw pm_fw cd_fw ct_fw : Value} {od_fw an_fw : Option Addr} {sl_fw : Array (Option Value)}
    {oc_va kV_va dc_va pm_va cd_va ct_va : Value} {od_va an_va : Option Addr} {sl_va : Array (Option Value)}
    {oc_ba kV_ba dc_ba pm_ba cd_ba ct_ba : Value} {od_ba an_ba : Option Addr} {sl_ba : Array (Option Value)}
    {oc_ri kV_ri dc_ri pm_ri cd_ri ct_ri : Value} {od_ri an_ri : Option Addr} {sl_ri : Array (Option Value)}
    {oc_nl kV_nl dc_nl pm_nl cd_nl ct_nl : Value} {od_nl an_nl : Option Addr} {sl_nl : Array (Option Value)}
    {oc_me kV_me dc_me pm_me cd_me ct_me : Value} {od_me an_me : Option Addr} {sl_me : Array (Option Value)}
    {oc_ma kV_ma dc_ma pm_ma cd_ma ct_ma : Value} {od_ma an_ma : Option Addr} {sl_ma : Array (Option Value)}
    {oc_le kV_le dc_le pm_le cd_le ct_le : Value} {od_le an_le : Option Addr} {sl_le : Array (Option Value)}
    {oc_lr kV_lr dc_lr pm_lr cd_lr ct_lr : Value} {od_lr an_lr : Option Addr} {sl_lr : Array (Option Value)}
    {oc_rm kV_rm dc_rm pm_rm cd_rm ct_rm : Value} {od_rm an_rm : Option Addr} {sl_rm : Array (Option Value)}
    {oc_im kV_im dc_im pm_im cd_im ct_im : Value} {od_im an_im : Option Addr} {sl_im : Array (Option Value)}
    {oc_sh kV_sh dc_sh pm_sh cd_sh ct_sh : Value} {od_sh an_sh : Option Addr} {sl_sh : Array (Option Value)}
    {oc_nsh kV_nsh dc_nsh pm_nsh cd_nsh ct_nsh : Value} {od_nsh an_nsh : Option Addr} {sl_nsh : Array (Option Value)}
    {oc_isf kV_isf dc_isf pm_isf cd_isf ct_isf : Value} {od_isf an_isf : Option Addr} {sl_isf : Array (Option Value)}
    {oc_nf kV_nf dc_nf pm_nf cd_nf ct_nf : Value} {od_nf an_nf : Option Addr} {sl_nf : Array (Option Value)}
    {oc_su kV_su dc_su pm_su cd_su ct_su : Value} {od_su an_su : Option Addr} {sl_su : Array (Option Value)}
    {oc_nr kV_nr dc_nr pm_nr cd_nr ct_nr : Value} {od_nr an_nr : Option Addr} {sl_nr : Array (Option Value)}
    {oc_io kV_io dc_io pm_io cd_io ct_io : Value} {od_io an_io : Option Addr} {sl_io : Array (Option Value)}
    {oc_nh kV_nh dc_nh pm_nh cd_nh ct_nh : Value} {od_nh an_nh : Option Addr} {sl_nh : Array (Option Value)}
    {oc_nw kV_nw dc_nw pm_nw cd_nw ct_nw : Value} {od_nw an_nw : Option Addr} {sl_nw : Array (Option Value)}
    {oc_lm kV_lm dc_lm pm_lm cd_lm ct_lm : Value} {od_lm an_lm : Option Addr} {sl_lm : Array (Option Value)}
    {oc_mk kV_mk dc_mk pm_mk cd_mk ct_mk : Value} {od_mk an_mk : Option Addr} {sl_mk : Array (Option Value)}
    {oc_lk kV_lk dc_lk pm_lk cd_lk ct_lk : Value} {od_lk an_lk : Option Addr} {sl_lk : Array (Option Value)}
    {oc_cf kV_cf dc_cf pm_cf cd_cf ct_cf : Value} {od_cf an_cf : Option Addr} {sl_cf : Array (Option Value)}
    {oc_co kV_co dc_co pm_co cd_co ct_co : Value} {od_co an_co : Option Addr} {sl_co : Array (Option Value)}
    {oc_af kV_af dc_af pm_af cd_af ct_af : Value} {od_af an_af : Option Addr} {sl_af : Array (Option Value)}
    {oc_fa kV_fa dc_fa pm_fa cd_fa ct_fa : Value} {od_fa an_fa : Option Addr} {sl_fa : Array (Option Value)}
    {oc_lw kV_lw dc_lw pm_lw cd_lw ct_lw : Value} {od_lw an_lw : Option Addr} {sl_lw : Array (Option Value)}
    {oc_hf kV_hf dc_hf pm_hf cd_hf ct_hf : Value} {od_hf an_hf : Option Addr} {sl_hf : Array (Option Value)}
    {oc_na kV_na dc_na pm_na cd_na ct_na : Value} {od_na an_na : Option Addr} {sl_na : Array (Option Value)}
    {oc_be kV_be dc_be pm_be cd_be ct_be : Value} {od_be an_be : Option Addr} {sl_be : Array (Option Value)}
    {oc_cn kV_cn dc_cn pm_cn cd_cn ct_cn : Value} {od_cn an_cn : Option Addr} {sl_cn : Array (Option Value)}
    {oc_mi kV_mi dc_mi pm_mi cd_mi ct_mi : Value} {od_mi an_mi : Option Addr} {sl_mi : Array (Option Value)}
    {oc_fo kV_fo dc_fo pm_fo cd_fo ct_fo : Value} {od_fo an_fo : Option Addr} {sl_fo : Array (Option Value)}
    {oc_dr kV_dr dc_dr pm_dr cd_dr ct_dr : Value} {od_dr an_dr : Option Addr} {sl_dr : Array (Option Value)}
    {oc_bg kV_bg dc_bg pm_bg cd_bg ct_bg : Value} {od_bg an_bg : Option Addr} {sl_bg : Array (Option Value)}
    {oc_li kV_li dc_li pm_li cd_li ct_li : Value} {od_li an_li : Option Addr} {sl_li : Array (Option Value)}
    {oc_of kV_of dc_of pm_of cd_of ct_of : Value} {od_of an_of : Option Addr} {sl_of : Array (Option Value)}
    {oc_od kV_od dc_od pm_od cd_od ct_od : Value} {od_od an_od : Option Addr} {sl_od : Array (Option Value)}
    {oc_mr kV_mr dc_mr pm_mr cd_mr ct_mr : Value} {od_mr an_mr : Option Addr} {sl_mr : Array (Option Value)}
    {oc_ab kV_ab dc_ab pm_ab cd_ab ct_ab : Value} {od_ab an_ab : Option Addr} {sl_ab : Array (Option Value)}
    {oc_md kV_md dc_md pm_md cd_md ct_md : Value} {od_md an_md : Option Addr} {sl_md : Array (Option Value)}
    {oc_rd kV_rd dc_rd pm_rd cd_rd ct_rd : Value} {od_rd an_rd : Option Addr} {sl_rd : Array (Option Value)}
    {oc_rr kV_rr dc_rr pm_rr ct_rr : Value} {od_rr an_rr : Option Addr} {sl_rr : Array (Option Value)}
    {oc_la kV_la dc_la pm_la cd_la ct_la : Value} {od_la an_la : Option Addr} {sl_la : Array (Option Value)}
    {nm0 qn0 : Str} {N0 : Addr} {bs0 : List Value} {sn0 : List Str} {sub0 : List Value} {ab0 : Bool} {col0 : Option Bool} {dd0 : Option Addr} {p00 p10 p20 p30 p50 : Option Value}
    {oc0 kV0 dc0 pm0 cd0 ct0 : Value} {od0 an0 : Option Addr} {sl0 : Array (Option Value)}
    {nm1 qn1 : Str} {N1 : Addr} {bs1 : List Value} {sn1 : List Str} {sub1 : List Value} {ab1 : Bool} {col1 : Option Bool} {dd1 : Option Addr} {p01 p11 p21 p31 p51 : Option Value}
    {oc1 kV1 dc1 pm1 cd1 ct1 : Value} {od1 an1 : Option Addr} {sl1 : Array (Option Value)}
    {nm2 qn2 : Str} {N2 : Addr} {bs2 : List Value} {sn2 : List Str} {sub2 : List Value} {ab2 : Bool} {col2 : Option Bool} {dd2 : Option Addr} {p02 p12 p22 p32 p52 : Option Value}
    {oc2 kV2 dc2 pm2 cd2 ct2 : Value} {od2 an2 : Option Addr} {sl2 : Array (Option Value)}
    {nm3 qn3 : Str} {N3 : Addr} {bs3 : List Value} {sn3 : List Str} {sub3 : List Value} {ab3 : Bool} {col3 : Option Bool} {dd3 : Option Addr} {p03 p13 p23 p33 p53 : Option Value}
    {oc3 kV3 dc3 pm3 cd3 ct3 : Value} {od3 an3 : Option Addr} {sl3 : Array (Option Value)}
    {nm4 qn4 : Str} {N4 : Addr} {bs4 : List Value} {sn4 : List Str} {sub4 : List Value} {ab4 : Bool} {col4 : Option Bool} {dd4 : Option Addr} {p04 p14 p24 p34 p54 : Option Value}
    {oc4 kV4 dc4 pm4 cd4 ct4 : Value} {od4 an4 : Option Addr} {sl4 : Array (Option Value)}
    {nm5 qn5 : Str} {N5 : Addr} {bs5 : List Value} {sn5 : List Str} {sub5 : List Value} {ab5 : Bool} {col5 : Option Bool} {dd5 : Option Addr} {p05 p15 p25 p35 p55 : Option Value}
    {oc5 kV5 dc5 pm5 cd5 ct5 : Value} {od5 an5 : Option Addr} {sl5 : Array (Option Value)}
    {nm6 qn6 : Str} {N6 : Addr} {bs6 : List Value} {sn6 : List Str} {sub6 : List Value} {ab6 : Bool} {col6 : Option Bool} {dd6 : Option Addr} {p06 p16 p26 p36 p56 : Option Value}
    {oc6 kV6 dc6 pm6 cd6 ct6 : Value} {od6 an6 : Option Addr} {sl6 : Array (Option Value)}
    {nm7 qn7 : Str} {N7 : Addr} {bs7 : List Value} {sn7 : List Str} {sub7 : List Value} {ab7 : Bool} {col7 : Option Bool} {dd7 : Option Addr} {p07 p17 p27 p37 p57 : Option Value}
    {oc7 kV7 dc7 pm7 cd7 ct7 : Value} {od7 an7 : Option Addr} {sl7 : Array (Option Value)}
    {nm8 qn8 : Str} {N8 : Addr} {bs8 : List Value} {sn8 : List Str} {sub8 : List Value} {ab8 : Bool} {col8 : Option Bool} {dd8 : Option Addr} {p08 p18 p28 p38 p58 : Option Value}
    {oc8 kV8 dc8 pm8 cd8 ct8 : Value} {od8 an8 : Option Addr} {sl8 : Array (Option Value)}
    (n0 : PySem.W.nsIn K mainGlobals "BadRig" = some (some (.ref c0)))
    (n1 : PySem.W.nsIn K mainGlobals "BadShape" = some (some (.ref c1)))
    (n2 : PySem.W.nsIn K mainGlobals "BadLot" = some (some (.ref c2)))
    (n3 : PySem.W.nsIn K mainGlobals "BadFaults" = some (some (.ref c3)))
    (n4 : PySem.W.nsIn K mainGlobals "BadSuite" = some (some (.ref c4)))
    (n5 : PySem.W.nsIn K mainGlobals "BadOutcomes" = some (some (.ref c5)))
    (n6 : PySem.W.nsIn K mainGlobals "BadNumber" = some (some (.ref c6)))
    (n7 : PySem.W.nsIn K mainGlobals "BadPaper" = some (some (.ref c7)))
    (n8 : PySem.W.nsIn K mainGlobals "TooGreat" = some (some (.ref c8)))
    (n9 : PySem.W.nsIn K mainGlobals "FaultError" = some (some (.ref c9)))
    (ncomb : PySem.W.nsIn K mainGlobals "combinations" = some (some (.type "itertools.combinations")))
    (g0 : PySem.W.nsIn K mainGlobals "MOST_KNOBS" = some (some (.int 5 tk0)))
    (g1 : PySem.W.nsIn K mainGlobals "LEAST_VALUES" = some (some (.int 2 tk1)))
    (g2 : PySem.W.nsIn K mainGlobals "MOST_VALUES" = some (some (.int 4 tk2)))
    (g3 : PySem.W.nsIn K mainGlobals "MOST_SETTINGS" = some (some (.int 3 tk3)))
    (g4 : PySem.W.nsIn K mainGlobals "MOST_BARRED" = some (some (.int 6 tk4)))
    (g5 : PySem.W.nsIn K mainGlobals "MOST_LOTS" = some (some (.int 2 tk5)))
    (g6 : PySem.W.nsIn K mainGlobals "MOST_ROWS" = some (some (.int 40 tk6)))
    (g7 : PySem.W.nsIn K mainGlobals "MOST_FAULTS" = some (some (.int 2000 tk7)))
    (g8 : PySem.W.nsIn K mainGlobals "MOST_WRONG" = some (some (.int 5 tk8)))
    (a_nu : PySem.W.nsIn K mainGlobals "is_number" = some (some (.ref f_nu)))
    (l_nu : K.lookup f_nu = some ⟨oc_nu, od_nu, .func (PySem.W.fnOf "is_number" "is_number" (defArgs sNum) (defBody sNum) (defScope sNum) .none kV_nu dc_nu pm_nu an_nu cd_nu ct_nu), sl_nu⟩)
    (c_nu : PySem.W.codeIn K cd_nu "is_number" = true)
    (k_nu : PySem.W.keepIn K (.ref f_nu) = true)
    (a_nn : PySem.W.nsIn K mainGlobals "need_number" = some (some (.ref f_nn)))
    (l_nn : K.lookup f_nn = some ⟨oc_nn, od_nn, .func (PySem.W.fnOf "need_number" "need_number" (defArgs sNNum) (defBody sNNum) (defScope sNNum) .none kV_nn dc_nn pm_nn an_nn cd_nn ct_nn), sl_nn⟩)
    (c_nn : PySem.W.codeIn K cd_nn "need_number" = true)
    (k_nn : PySem.W.keepIn K (.ref f_nn) = true)
    (a_tu : PySem.W.nsIn K mainGlobals "is_tuple" = some (some (.ref f_tu)))
    (l_tu : K.lookup f_tu = some ⟨oc_tu, od_tu, .func (PySem.W.fnOf "is_tuple" "is_tuple" (defArgs sTup) (defBody sTup) (defScope sTup) .none kV_tu dc_tu pm_tu an_tu cd_tu ct_tu), sl_tu⟩)
    (c_tu : PySem.W.codeIn K cd_tu "is_tuple" = true)
    (k_tu : PySem.W.keepIn K (.ref f_tu) = true)
    (a_se : PySem.W.nsIn K mainGlobals "is_setting" = some (some (.ref f_se)))
    (l_se : K.lookup f_se = some ⟨oc_se, od_se, .func (PySem.W.fnOf "is_setting" "is_setting" (defArgs sSet) (defBody sSet) (defScope sSet) .none kV_se dc_se pm_se an_se cd_se ct_se), sl_se⟩)
    (c_se : PySem.W.codeIn K cd_se "is_setting" = true)
    (k_se : PySem.W.keepIn K (.ref f_se) = true)
    (a_ss : PySem.W.nsIn K mainGlobals "is_settings" = some (some (.ref f_ss)))
    (l_ss : K.lookup f_ss = some ⟨oc_ss, od_ss, .func (PySem.W.fnOf "is_settings" "is_settings" (defArgs sStgs) (defBody sStgs) (defScope sStgs) .none kV_ss dc_ss pm_ss an_ss cd_ss ct_ss), sl_ss⟩)
    (c_ss : PySem.W.codeIn K cd_ss "is_settings" = true)
    (k_ss : PySem.W.keepIn K (.ref f_ss) = true)
    (a_lo : PySem.W.nsIn K mainGlobals "is_lot" = some (some (.ref f_lo)))
    (l_lo : K.lookup f_lo = some ⟨oc_lo, od_lo, .func (PySem.W.fnOf "is_lot" "is_lot" (defArgs sLot) (defBody sLot) (defScope sLot) .none kV_lo dc_lo pm_lo an_lo cd_lo ct_lo), sl_lo⟩)
    (c_lo : PySem.W.codeIn K cd_lo "is_lot" = true)
    (k_lo : PySem.W.keepIn K (.ref f_lo) = true)
    (a_ro : PySem.W.nsIn K mainGlobals "is_row" = some (some (.ref f_ro)))
    (l_ro : K.lookup f_ro = some ⟨oc_ro, od_ro, .func (PySem.W.fnOf "is_row" "is_row" (defArgs sRow) (defBody sRow) (defScope sRow) .none kV_ro dc_ro pm_ro an_ro cd_ro ct_ro), sl_ro⟩)
    (c_ro : PySem.W.codeIn K cd_ro "is_row" = true)
    (k_ro : PySem.W.keepIn K (.ref f_ro) = true)
    (a_fw : PySem.W.nsIn K mainGlobals "first_wrong_lot" = some (some (.ref f_fw)))
    (l_fw : K.lookup f_fw = some ⟨oc_fw, od_fw, .func (PySem.W.fnOf "first_wrong_lot" "first_wrong_lot" (defArgs sFw) (defBody sFw) (defScope sFw) .none kV_fw dc_fw pm_fw an_fw cd_fw ct_fw), sl_fw⟩)
    (c_fw : PySem.W.codeIn K cd_fw "first_wrong_lot" = true)
    (k_fw : PySem.W.keepIn K (.ref f_fw) = true)
    (a_va : PySem.W.nsIn K mainGlobals "need_values" = some (some (.ref f_va)))
    (l_va : K.lookup f_va = some ⟨oc_va, od_va, .func (PySem.W.fnOf "need_values" "need_values" (defArgs sVals) (defBody sVals) (defScope sVals) .none kV_va dc_va pm_va an_va cd_va ct_va), sl_va⟩)
    (c_va : PySem.W.codeIn K cd_va "need_values" = true)
    (k_va : PySem.W.keepIn K (.ref f_va) = true)
    (a_ba : PySem.W.nsIn K mainGlobals "need_barred" = some (some (.ref f_ba)))
    (l_ba : K.lookup f_ba = some ⟨oc_ba, od_ba, .func (PySem.W.fnOf "need_barred" "need_barred" (defArgs sBar) (defBody sBar) (defScope sBar) .none kV_ba dc_ba pm_ba an_ba cd_ba ct_ba), sl_ba⟩)
    (c_ba : PySem.W.codeIn K cd_ba "need_barred" = true)
    (k_ba : PySem.W.keepIn K (.ref f_ba) = true)
    (a_ri : PySem.W.nsIn K mainGlobals "need_rig" = some (some (.ref f_ri)))
    (l_ri : K.lookup f_ri = some ⟨oc_ri, od_ri, .func (PySem.W.fnOf "need_rig" "need_rig" (defArgs sRig) (defBody sRig) (defScope sRig) .none kV_ri dc_ri pm_ri an_ri cd_ri ct_ri), sl_ri⟩)
    (c_ri : PySem.W.codeIn K cd_ri "need_rig" = true)
    (k_ri : PySem.W.keepIn K (.ref f_ri) = true)
    (a_nl : PySem.W.nsIn K mainGlobals "need_lot" = some (some (.ref f_nl)))
    (l_nl : K.lookup f_nl = some ⟨oc_nl, od_nl, .func (PySem.W.fnOf "need_lot" "need_lot" (defArgs sNLot) (defBody sNLot) (defScope sNLot) .none kV_nl dc_nl pm_nl an_nl cd_nl ct_nl), sl_nl⟩)
    (c_nl : PySem.W.codeIn K cd_nl "need_lot" = true)
    (k_nl : PySem.W.keepIn K (.ref f_nl) = true)
    (a_me : PySem.W.nsIn K mainGlobals "meets" = some (some (.ref f_me)))
    (l_me : K.lookup f_me = some ⟨oc_me, od_me, .func (PySem.W.fnOf "meets" "meets" (defArgs sMeets) (defBody sMeets) (defScope sMeets) .none kV_me dc_me pm_me an_me cd_me ct_me), sl_me⟩)
    (c_me : PySem.W.codeIn K cd_me "meets" = true)
    (k_me : PySem.W.keepIn K (.ref f_me) = true)
    (a_ma : PySem.W.nsIn K mainGlobals "meets_any" = some (some (.ref f_ma)))
    (l_ma : K.lookup f_ma = some ⟨oc_ma, od_ma, .func (PySem.W.fnOf "meets_any" "meets_any" (defArgs sMeetsAny) (defBody sMeetsAny) (defScope sMeetsAny) .none kV_ma dc_ma pm_ma an_ma cd_ma ct_ma), sl_ma⟩)
    (c_ma : PySem.W.codeIn K cd_ma "meets_any" = true)
    (k_ma : PySem.W.keepIn K (.ref f_ma) = true)
    (a_le : PySem.W.nsIn K mainGlobals "is_let" = some (some (.ref f_le)))
    (l_le : K.lookup f_le = some ⟨oc_le, od_le, .func (PySem.W.fnOf "is_let" "is_let" (defArgs sLet) (defBody sLet) (defScope sLet) .none kV_le dc_le pm_le an_le cd_le ct_le), sl_le⟩)
    (c_le : PySem.W.codeIn K cd_le "is_let" = true)
    (k_le : PySem.W.keepIn K (.ref f_le) = true)
    (a_lr : PySem.W.nsIn K mainGlobals "let_rows" = some (some (.ref f_lr)))
    (l_lr : K.lookup f_lr = some ⟨oc_lr, od_lr, .func (PySem.W.fnOf "let_rows" "let_rows" (defArgs sLetRows) (defBody sLetRows) (defScope sLetRows) .none kV_lr dc_lr pm_lr an_lr cd_lr ct_lr), sl_lr⟩)
    (c_lr : PySem.W.codeIn K cd_lr "let_rows" = true)
    (k_lr : PySem.W.keepIn K (.ref f_lr) = true)
    (a_rm : PySem.W.nsIn K mainGlobals "rows_meeting" = some (some (.ref f_rm)))
    (l_rm : K.lookup f_rm = some ⟨oc_rm, od_rm, .func (PySem.W.fnOf "rows_meeting" "rows_meeting" (defArgs sMeeting) (defBody sMeeting) (defScope sMeeting) .none kV_rm dc_rm pm_rm an_rm cd_rm ct_rm), sl_rm⟩)
    (c_rm : PySem.W.codeIn K cd_rm "rows_meeting" = true)
    (k_rm : PySem.W.keepIn K (.ref f_rm) = true)
    (a_im : PySem.W.nsIn K mainGlobals "is_met" = some (some (.ref f_im)))
    (l_im : K.lookup f_im = some ⟨oc_im, od_im, .func (PySem.W.fnOf "is_met" "is_met" (defArgs sIsMet) (defBody sIsMet) (defScope sIsMet) .none kV_im dc_im pm_im an_im cd_im ct_im), sl_im⟩)
    (c_im : PySem.W.codeIn K cd_im "is_met" = true)
    (k_im : PySem.W.keepIn K (.ref f_im) = true)
    (a_sh : PySem.W.nsIn K mainGlobals "is_shape" = some (some (.ref f_sh)))
    (l_sh : K.lookup f_sh = some ⟨oc_sh, od_sh, .func (PySem.W.fnOf "is_shape" "is_shape" (defArgs sShape) (defBody sShape) (defScope sShape) .none kV_sh dc_sh pm_sh an_sh cd_sh ct_sh), sl_sh⟩)
    (c_sh : PySem.W.codeIn K cd_sh "is_shape" = true)
    (k_sh : PySem.W.keepIn K (.ref f_sh) = true)
    (a_nsh : PySem.W.nsIn K mainGlobals "need_shape" = some (some (.ref f_nsh)))
    (l_nsh : K.lookup f_nsh = some ⟨oc_nsh, od_nsh, .func (PySem.W.fnOf "need_shape" "need_shape" (defArgs sNShape) (defBody sNShape) (defScope sNShape) .none kV_nsh dc_nsh pm_nsh an_nsh cd_nsh ct_nsh), sl_nsh⟩)
    (c_nsh : PySem.W.codeIn K cd_nsh "need_shape" = true)
    (k_nsh : PySem.W.keepIn K (.ref f_nsh) = true)
    (a_isf : PySem.W.nsIn K mainGlobals "is_faults" = some (some (.ref f_isf)))
    (l_isf : K.lookup f_isf = some ⟨oc_isf, od_isf, .func (PySem.W.fnOf "is_faults" "is_faults" (defArgs sIsFaults) (defBody sIsFaults) (defScope sIsFaults) .none kV_isf dc_isf pm_isf an_isf cd_isf ct_isf), sl_isf⟩)
    (c_isf : PySem.W.codeIn K cd_isf "is_faults" = true)
    (k_isf : PySem.W.keepIn K (.ref f_isf) = true)
    (a_nf : PySem.W.nsIn K mainGlobals "need_faults" = some (some (.ref f_nf)))
    (l_nf : K.lookup f_nf = some ⟨oc_nf, od_nf, .func (PySem.W.fnOf "need_faults" "need_faults" (defArgs KR.sNFaults) (defBody KR.sNFaults) (defScope KR.sNFaults) .none kV_nf dc_nf pm_nf an_nf cd_nf ct_nf), sl_nf⟩)
    (c_nf : PySem.W.codeIn K cd_nf "need_faults" = true)
    (k_nf : PySem.W.keepIn K (.ref f_nf) = true)
    (a_su : PySem.W.nsIn K mainGlobals "need_suite" = some (some (.ref f_su)))
    (l_su : K.lookup f_su = some ⟨oc_su, od_su, .func (PySem.W.fnOf "need_suite" "need_suite" (defArgs sNSuite) (defBody sNSuite) (defScope sNSuite) .none kV_su dc_su pm_su an_su cd_su ct_su), sl_su⟩)
    (c_su : PySem.W.codeIn K cd_su "need_suite" = true)
    (k_su : PySem.W.keepIn K (.ref f_su) = true)
    (a_nr : PySem.W.nsIn K mainGlobals "need_rows" = some (some (.ref f_nr)))
    (l_nr : K.lookup f_nr = some ⟨oc_nr, od_nr, .func (PySem.W.fnOf "need_rows" "need_rows" (defArgs sNRows) (defBody sNRows) (defScope sNRows) .none kV_nr dc_nr pm_nr an_nr cd_nr ct_nr), sl_nr⟩)
    (c_nr : PySem.W.codeIn K cd_nr "need_rows" = true)
    (k_nr : PySem.W.keepIn K (.ref f_nr) = true)
    (a_io : PySem.W.nsIn K mainGlobals "is_outcomes" = some (some (.ref f_io)))
    (l_io : K.lookup f_io = some ⟨oc_io, od_io, .func (PySem.W.fnOf "is_outcomes" "is_outcomes" (defArgs sIsOut) (defBody sIsOut) (defScope sIsOut) .none kV_io dc_io pm_io an_io cd_io ct_io), sl_io⟩)
    (c_io : PySem.W.codeIn K cd_io "is_outcomes" = true)
    (k_io : PySem.W.keepIn K (.ref f_io) = true)
    (a_nh : PySem.W.nsIn K mainGlobals "need_heard" = some (some (.ref f_nh)))
    (l_nh : K.lookup f_nh = some ⟨oc_nh, od_nh, .func (PySem.W.fnOf "need_heard" "need_heard" (defArgs sNHeard) (defBody sNHeard) (defScope sNHeard) .none kV_nh dc_nh pm_nh an_nh cd_nh ct_nh), sl_nh⟩)
    (c_nh : PySem.W.codeIn K cd_nh "need_heard" = true)
    (k_nh : PySem.W.keepIn K (.ref f_nh) = true)
    (a_nw : PySem.W.nsIn K mainGlobals "need_wrong" = some (some (.ref f_nw)))
    (l_nw : K.lookup f_nw = some ⟨oc_nw, od_nw, .func (PySem.W.fnOf "need_wrong" "need_wrong" (defArgs sNWrong) (defBody sNWrong) (defScope sNWrong) .none kV_nw dc_nw pm_nw an_nw cd_nw ct_nw), sl_nw⟩)
    (c_nw : PySem.W.codeIn K cd_nw "need_wrong" = true)
    (k_nw : PySem.W.keepIn K (.ref f_nw) = true)
    (a_lm : PySem.W.nsIn K mainGlobals "lots_met" = some (some (.ref f_lm)))
    (l_lm : K.lookup f_lm = some ⟨oc_lm, od_lm, .func (PySem.W.fnOf "lots_met" "lots_met" (defArgs sLotsMet) (defBody sLotsMet) (defScope sLotsMet) .none kV_lm dc_lm pm_lm an_lm cd_lm ct_lm), sl_lm⟩)
    (c_lm : PySem.W.codeIn K cd_lm "lots_met" = true)
    (k_lm : PySem.W.keepIn K (.ref f_lm) = true)
    (a_mk : PySem.W.nsIn K mainGlobals "lot_marks" = some (some (.ref f_mk)))
    (l_mk : K.lookup f_mk = some ⟨oc_mk, od_mk, .func (PySem.W.fnOf "lot_marks" "lot_marks" (defArgs sLotMarks) (defBody sLotMarks) (defScope sLotMarks) .none kV_mk dc_mk pm_mk an_mk cd_mk ct_mk), sl_mk⟩)
    (c_mk : PySem.W.codeIn K cd_mk "lot_marks" = true)
    (k_mk : PySem.W.keepIn K (.ref f_mk) = true)
    (a_lk : PySem.W.nsIn K mainGlobals "let_marks" = some (some (.ref f_lk)))
    (l_lk : K.lookup f_lk = some ⟨oc_lk, od_lk, .func (PySem.W.fnOf "let_marks" "let_marks" (defArgs sLetMarks) (defBody sLetMarks) (defScope sLetMarks) .none kV_lk dc_lk pm_lk an_lk cd_lk ct_lk), sl_lk⟩)
    (c_lk : PySem.W.codeIn K cd_lk "let_marks" = true)
    (k_lk : PySem.W.keepIn K (.ref f_lk) = true)
    (a_cf : PySem.W.nsIn K mainGlobals "lots_that_can_fail" = some (some (.ref f_cf)))
    (l_cf : K.lookup f_cf = some ⟨oc_cf, od_cf, .func (PySem.W.fnOf "lots_that_can_fail" "lots_that_can_fail" (defArgs sCanFail) (defBody sCanFail) (defScope sCanFail) .none kV_cf dc_cf pm_cf an_cf cd_cf ct_cf), sl_cf⟩)
    (c_cf : PySem.W.codeIn K cd_cf "lots_that_can_fail" = true)
    (k_cf : PySem.W.keepIn K (.ref f_cf) = true)
    (a_co : PySem.W.nsIn K mainGlobals "count_faults" = some (some (.ref f_co)))
    (l_co : K.lookup f_co = some ⟨oc_co, od_co, .func (PySem.W.fnOf "count_faults" "count_faults" (defArgs sCount) (defBody sCount) (defScope sCount) .none kV_co dc_co pm_co an_co cd_co ct_co), sl_co⟩)
    (c_co : PySem.W.codeIn K cd_co "count_faults" = true)
    (k_co : PySem.W.keepIn K (.ref f_co) = true)
    (a_af : PySem.W.nsIn K mainGlobals "all_faults" = some (some (.ref f_af)))
    (l_af : K.lookup f_af = some ⟨oc_af, od_af, .func (PySem.W.fnOf "all_faults" "all_faults" (defArgs sAll) (defBody sAll) (defScope sAll) .none kV_af dc_af pm_af an_af cd_af ct_af), sl_af⟩)
    (c_af : PySem.W.codeIn K cd_af "all_faults" = true)
    (k_af : PySem.W.keepIn K (.ref f_af) = true)
    (a_fa : PySem.W.nsIn K mainGlobals "failing_rows" = some (some (.ref f_fa)))
    (l_fa : K.lookup f_fa = some ⟨oc_fa, od_fa, .func (PySem.W.fnOf "failing_rows" "failing_rows" (defArgs sFail) (defBody sFail) (defScope sFail) .none kV_fa dc_fa pm_fa an_fa cd_fa ct_fa), sl_fa⟩)
    (c_fa : PySem.W.codeIn K cd_fa "failing_rows" = true)
    (k_fa : PySem.W.keepIn K (.ref f_fa) = true)
    (a_lw : PySem.W.nsIn K mainGlobals "least_wrong" = some (some (.ref f_lw)))
    (l_lw : K.lookup f_lw = some ⟨oc_lw, od_lw, .func (PySem.W.fnOf "least_wrong" "least_wrong" (defArgs sLeast) (defBody sLeast) (defScope sLeast) .none kV_lw dc_lw pm_lw an_lw cd_lw ct_lw), sl_lw⟩)
    (c_lw : PySem.W.codeIn K cd_lw "least_wrong" = true)
    (k_lw : PySem.W.keepIn K (.ref f_lw) = true)
    (a_hf : PySem.W.nsIn K mainGlobals "has_form" = some (some (.ref f_hf)))
    (l_hf : K.lookup f_hf = some ⟨oc_hf, od_hf, .func (PySem.W.fnOf "has_form" "has_form" (defArgs sForm) (defBody sForm) (defScope sForm) .none kV_hf dc_hf pm_hf an_hf cd_hf ct_hf), sl_hf⟩)
    (c_hf : PySem.W.codeIn K cd_hf "has_form" = true)
    (k_hf : PySem.W.keepIn K (.ref f_hf) = true)
    (a_na : PySem.W.nsIn K mainGlobals "names" = some (some (.ref f_na)))
    (l_na : K.lookup f_na = some ⟨oc_na, od_na, .func (PySem.W.fnOf "names" "names" (defArgs sNames) (defBody sNames) (defScope sNames) .none kV_na dc_na pm_na an_na cd_na ct_na), sl_na⟩)
    (c_na : PySem.W.codeIn K cd_na "names" = true)
    (k_na : PySem.W.keepIn K (.ref f_na) = true)
    (a_be : PySem.W.nsIn K mainGlobals "bears" = some (some (.ref f_be)))
    (l_be : K.lookup f_be = some ⟨oc_be, od_be, .func (PySem.W.fnOf "bears" "bears" (defArgs sBears) (defBody sBears) (defScope sBears) .none kV_be dc_be pm_be an_be cd_be ct_be), sl_be⟩)
    (c_be : PySem.W.codeIn K cd_be "bears" = true)
    (k_be : PySem.W.keepIn K (.ref f_be) = true)
    (a_cn : PySem.W.nsIn K mainGlobals "check_names" = some (some (.ref f_cn)))
    (l_cn : K.lookup f_cn = some ⟨oc_cn, od_cn, .func (PySem.W.fnOf "check_names" "check_names" (defArgs sCheck) (defBody sCheck) (defScope sCheck) .none kV_cn dc_cn pm_cn an_cn cd_cn ct_cn), sl_cn⟩)
    (c_cn : PySem.W.codeIn K cd_cn "check_names" = true)
    (k_cn : PySem.W.keepIn K (.ref f_cn) = true)
    (a_mi : PySem.W.nsIn K mainGlobals "_law_mixed" = some (some (.ref f_mi)))
    (l_mi : K.lookup f_mi = some ⟨oc_mi, od_mi, .func (PySem.W.fnOf "_law_mixed" "_law_mixed" (defArgs sMixed) (defBody sMixed) (defScope sMixed) .none kV_mi dc_mi pm_mi an_mi cd_mi ct_mi), sl_mi⟩)
    (c_mi : PySem.W.codeIn K cd_mi "_law_mixed" = true)
    (k_mi : PySem.W.keepIn K (.ref f_mi) = true)
    (a_fo : PySem.W.nsIn K mainGlobals "_law_folded" = some (some (.ref f_fo)))
    (l_fo : K.lookup f_fo = some ⟨oc_fo, od_fo, .func (PySem.W.fnOf "_law_folded" "_law_folded" (defArgs sFolded) (defBody sFolded) (defScope sFolded) .none kV_fo dc_fo pm_fo an_fo cd_fo ct_fo), sl_fo⟩)
    (c_fo : PySem.W.codeIn K cd_fo "_law_folded" = true)
    (k_fo : PySem.W.keepIn K (.ref f_fo) = true)
    (a_dr : PySem.W.nsIn K mainGlobals "_law_draw" = some (some (.ref f_dr)))
    (l_dr : K.lookup f_dr = some ⟨oc_dr, od_dr, .func (PySem.W.fnOf "_law_draw" "_law_draw" (defArgs sDraw) (defBody sDraw) (defScope sDraw) .none kV_dr dc_dr pm_dr an_dr cd_dr ct_dr), sl_dr⟩)
    (c_dr : PySem.W.codeIn K cd_dr "_law_draw" = true)
    (k_dr : PySem.W.keepIn K (.ref f_dr) = true)
    (a_bg : PySem.W.nsIn K mainGlobals "_law_begun" = some (some (.ref f_bg)))
    (l_bg : K.lookup f_bg = some ⟨oc_bg, od_bg, .func (PySem.W.fnOf "_law_begun" "_law_begun" (defArgs sBegun) (defBody sBegun) (defScope sBegun) .none kV_bg dc_bg pm_bg an_bg cd_bg ct_bg), sl_bg⟩)
    (c_bg : PySem.W.codeIn K cd_bg "_law_begun" = true)
    (k_bg : PySem.W.keepIn K (.ref f_bg) = true)
    (a_li : PySem.W.nsIn K mainGlobals "_law_like" = some (some (.ref f_li)))
    (l_li : K.lookup f_li = some ⟨oc_li, od_li, .func (PySem.W.fnOf "_law_like" "_law_like" (defArgs sLike) (defBody sLike) (defScope sLike) .none kV_li dc_li pm_li an_li cd_li ct_li), sl_li⟩)
    (c_li : PySem.W.codeIn K cd_li "_law_like" = true)
    (k_li : PySem.W.keepIn K (.ref f_li) = true)
    (a_of : PySem.W.nsIn K mainGlobals "_law_of" = some (some (.ref f_of)))
    (l_of : K.lookup f_of = some ⟨oc_of, od_of, .func (PySem.W.fnOf "_law_of" "_law_of" (defArgs sOf) (defBody sOf) (defScope sOf) .none kV_of dc_of pm_of an_of cd_of ct_of), sl_of⟩)
    (c_of : PySem.W.codeIn K cd_of "_law_of" = true)
    (k_of : PySem.W.keepIn K (.ref f_of) = true)
    (a_od : PySem.W.nsIn K mainGlobals "_law_odds" = some (some (.ref f_od)))
    (l_od : K.lookup f_od = some ⟨oc_od, od_od, .func (PySem.W.fnOf "_law_odds" "_law_odds" (defArgs sOdds) (defBody sOdds) (defScope sOdds) .none kV_od dc_od pm_od an_od cd_od ct_od), sl_od⟩)
    (c_od : PySem.W.codeIn K cd_od "_law_odds" = true)
    (k_od : PySem.W.keepIn K (.ref f_od) = true)
    (a_mr : PySem.W.nsIn K mainGlobals "_law_marks" = some (some (.ref f_mr)))
    (l_mr : K.lookup f_mr = some ⟨oc_mr, od_mr, .func (PySem.W.fnOf "_law_marks" "_law_marks" (defArgs sMarks) (defBody sMarks) (defScope sMarks) .none kV_mr dc_mr pm_mr an_mr cd_mr ct_mr), sl_mr⟩)
    (c_mr : PySem.W.codeIn K cd_mr "_law_marks" = true)
    (k_mr : PySem.W.keepIn K (.ref f_mr) = true)
    (a_ab : PySem.W.nsIn K mainGlobals "_law_above" = some (some (.ref f_ab)))
    (l_ab : K.lookup f_ab = some ⟨oc_ab, od_ab, .func (PySem.W.fnOf "_law_above" "_law_above" (defArgs sAbove) (defBody sAbove) (defScope sAbove) .none kV_ab dc_ab pm_ab an_ab cd_ab ct_ab), sl_ab⟩)
    (c_ab : PySem.W.codeIn K cd_ab "_law_above" = true)
    (k_ab : PySem.W.keepIn K (.ref f_ab) = true)
    (a_md : PySem.W.nsIn K mainGlobals "_law_made_right" = some (some (.ref f_md)))
    (l_md : K.lookup f_md = some ⟨oc_md, od_md, .func (PySem.W.fnOf "_law_made_right" "_law_made_right" (defArgs sMR) (defBody sMR) (defScope sMR) .none kV_md dc_md pm_md an_md cd_md ct_md), sl_md⟩)
    (c_md : PySem.W.codeIn K cd_md "_law_made_right" = true)
    (k_md : PySem.W.keepIn K (.ref f_md) = true)
    (a_rd : PySem.W.nsIn K mainGlobals "_law_raised" = some (some (.ref f_rd)))
    (l_rd : K.lookup f_rd = some ⟨oc_rd, od_rd, .func (PySem.W.fnOf "_law_raised" "_law_raised" (defArgs sRaised) (defBody sRaised) (defScope sRaised) .none kV_rd dc_rd pm_rd an_rd cd_rd ct_rd), sl_rd⟩)
    (c_rd : PySem.W.codeIn K cd_rd "_law_raised" = true)
    (k_rd : PySem.W.keepIn K (.ref f_rd) = true)
    (a_rr : PySem.W.nsIn K mainGlobals "_law_raised_right" = some (some (.ref f_rr)))
    (l_rr : K.lookup f_rr = some ⟨oc_rr, od_rr, .func (PySem.W.fnOf "_law_raised_right" "_law_raised_right" (defArgs sRR) (defBody sRR) (defScope sRR) .none kV_rr dc_rr pm_rr an_rr (.ref cA) ct_rr), sl_rr⟩)
    (c_rr : PySem.W.codeIn K (.ref cA) "_law_raised_right" = true)
    (k_rr : PySem.W.keepIn K (.ref f_rr) = true)
    (a_la : PySem.W.nsIn K mainGlobals "law" = some (some (.ref f_la)))
    (l_la : K.lookup f_la = some ⟨oc_la, od_la, .func (PySem.W.fnOf "law" "law" (defArgs sLaw) (defBody sLaw) (defScope sLaw) .none kV_la dc_la pm_la an_la cd_la ct_la), sl_la⟩)
    (c_la : PySem.W.codeIn K cd_la "law" = true)
    (k_la : PySem.W.keepIn K (.ref f_la) = true)
    (cT : PySem.W.codeHdIn K cA tA = true)
    (nT : K.lookup tA = none)
    (x0 : K.lookup c0 = some (excClassObj nm0 qn0 c0 N0 bs0 (.ref c9 :: ve) true sn0 sub0 ab0 col0 dd0 p00 p10 p20 p30 p50 "ValueError.__new__"))
    (sa0 : PySem.W.findIn K (.ref c0) "__setattr__" = some (some (.builtin "object.__setattr__")))
    (ga0 : PySem.W.findIn K (.ref c0) "__getattribute__" = some (some (.builtin "BaseException.__getattribute__")))
    (gg0 : PySem.W.findIn K (.ref c0) "__getattr__" = some none)
    (sb0 : PySem.W.subIn K (.ref c0) (.type "BaseException") = some true)
    (cc0 : PySem.W.findIn K (.ref c0) "__class__" = some (some (.builtin "object.__class__")))
    (oo0 : PySem.W.mroIn K c0 (.type "object") = some true)
    (kc0 : PySem.W.keepIn K (.ref c0) = true)
    (ty0 : PySem.W.typeIn K (.ref c0) = some (.type "type"))
    (no0 : PySem.W.findIn K (.ref c0) "path" = some none)
    (iI0 : PySem.W.findIn K (.ref c0) "__init__" = some (some (.ref f0)))
    (tI0 : PySem.W.typeIn K (.ref f0) = some (.type "function"))
    (lI0 : K.lookup f0 = some ⟨oc0, od0, .func (PySem.W.fnOf "__init__" "BadRig.__init__" (defArgs sRigI) (defBody sRigI) (defScope sRigI) .none kV0 dc0 pm0 an0 cd0 ct0), sl0⟩)
    (cI0 : PySem.W.codeIn K cd0 "BadRig.__init__" = true)
    (kI0 : PySem.W.keepIn K (.ref f0) = true)
    (x1 : K.lookup c1 = some (excClassObj nm1 qn1 c1 N1 bs1 (.ref c9 :: ve) true sn1 sub1 ab1 col1 dd1 p01 p11 p21 p31 p51 "ValueError.__new__"))
    (sa1 : PySem.W.findIn K (.ref c1) "__setattr__" = some (some (.builtin "object.__setattr__")))
    (ga1 : PySem.W.findIn K (.ref c1) "__getattribute__" = some (some (.builtin "BaseException.__getattribute__")))
    (gg1 : PySem.W.findIn K (.ref c1) "__getattr__" = some none)
    (sb1 : PySem.W.subIn K (.ref c1) (.type "BaseException") = some true)
    (cc1 : PySem.W.findIn K (.ref c1) "__class__" = some (some (.builtin "object.__class__")))
    (oo1 : PySem.W.mroIn K c1 (.type "object") = some true)
    (kc1 : PySem.W.keepIn K (.ref c1) = true)
    (ty1 : PySem.W.typeIn K (.ref c1) = some (.type "type"))
    (no1 : PySem.W.findIn K (.ref c1) "value" = some none)
    (iI1 : PySem.W.findIn K (.ref c1) "__init__" = some (some (.ref f1)))
    (tI1 : PySem.W.typeIn K (.ref f1) = some (.type "function"))
    (lI1 : K.lookup f1 = some ⟨oc1, od1, .func (PySem.W.fnOf "__init__" "BadShape.__init__" (defArgs sShapeI) (defBody sShapeI) (defScope sShapeI) .none kV1 dc1 pm1 an1 cd1 ct1), sl1⟩)
    (cI1 : PySem.W.codeIn K cd1 "BadShape.__init__" = true)
    (kI1 : PySem.W.keepIn K (.ref f1) = true)
    (x2 : K.lookup c2 = some (excClassObj nm2 qn2 c2 N2 bs2 (.ref c9 :: ve) true sn2 sub2 ab2 col2 dd2 p02 p12 p22 p32 p52 "ValueError.__new__"))
    (sa2 : PySem.W.findIn K (.ref c2) "__setattr__" = some (some (.builtin "object.__setattr__")))
    (ga2 : PySem.W.findIn K (.ref c2) "__getattribute__" = some (some (.builtin "BaseException.__getattribute__")))
    (gg2 : PySem.W.findIn K (.ref c2) "__getattr__" = some none)
    (sb2 : PySem.W.subIn K (.ref c2) (.type "BaseException") = some true)
    (cc2 : PySem.W.findIn K (.ref c2) "__class__" = some (some (.builtin "object.__class__")))
    (oo2 : PySem.W.mroIn K c2 (.type "object") = some true)
    (kc2 : PySem.W.keepIn K (.ref c2) = true)
    (ty2 : PySem.W.typeIn K (.ref c2) = some (.type "type"))
    (no2 : PySem.W.findIn K (.ref c2) "value" = some none)
    (iI2 : PySem.W.findIn K (.ref c2) "__init__" = some (some (.ref f2)))
    (tI2 : PySem.W.typeIn K (.ref f2) = some (.type "function"))
    (lI2 : K.lookup f2 = some ⟨oc2, od2, .func (PySem.W.fnOf "__init__" "BadLot.__init__" (defArgs sLotI) (defBody sLotI) (defScope sLotI) .none kV2 dc2 pm2 an2 cd2 ct2), sl2⟩)
    (cI2 : PySem.W.codeIn K cd2 "BadLot.__init__" = true)
    (kI2 : PySem.W.keepIn K (.ref f2) = true)
    (x3 : K.lookup c3 = some (excClassObj nm3 qn3 c3 N3 bs3 (.ref c9 :: ve) true sn3 sub3 ab3 col3 dd3 p03 p13 p23 p33 p53 "ValueError.__new__"))
    (sa3 : PySem.W.findIn K (.ref c3) "__setattr__" = some (some (.builtin "object.__setattr__")))
    (ga3 : PySem.W.findIn K (.ref c3) "__getattribute__" = some (some (.builtin "BaseException.__getattribute__")))
    (gg3 : PySem.W.findIn K (.ref c3) "__getattr__" = some none)
    (sb3 : PySem.W.subIn K (.ref c3) (.type "BaseException") = some true)
    (cc3 : PySem.W.findIn K (.ref c3) "__class__" = some (some (.builtin "object.__class__")))
    (oo3 : PySem.W.mroIn K c3 (.type "object") = some true)
    (kc3 : PySem.W.keepIn K (.ref c3) = true)
    (ty3 : PySem.W.typeIn K (.ref c3) = some (.type "type"))
    (no3 : PySem.W.findIn K (.ref c3) "value" = some none)
    (iI3 : PySem.W.findIn K (.ref c3) "__init__" = some (some (.ref f3)))
    (tI3 : PySem.W.typeIn K (.ref f3) = some (.type "function"))
    (lI3 : K.lookup f3 = some ⟨oc3, od3, .func (PySem.W.fnOf "__init__" "BadFaults.__init__" (defArgs sFaultsI) (defBody sFaultsI) (defScope sFaultsI) .none kV3 dc3 pm3 an3 cd3 ct3), sl3⟩)
    (cI3 : PySem.W.codeIn K cd3 "BadFaults.__init__" = true)
    (kI3 : PySem.W.keepIn K (.ref f3) = true)
    (x4 : K.lookup c4 = some (excClassObj nm4 qn4 c4 N4 bs4 (.ref c9 :: ve) true sn4 sub4 ab4 col4 dd4 p04 p14 p24 p34 p54 "ValueError.__new__"))
    (sa4 : PySem.W.findIn K (.ref c4) "__setattr__" = some (some (.builtin "object.__setattr__")))
    (ga4 : PySem.W.findIn K (.ref c4) "__getattribute__" = some (some (.builtin "BaseException.__getattribute__")))
    (gg4 : PySem.W.findIn K (.ref c4) "__getattr__" = some none)
    (sb4 : PySem.W.subIn K (.ref c4) (.type "BaseException") = some true)
    (cc4 : PySem.W.findIn K (.ref c4) "__class__" = some (some (.builtin "object.__class__")))
    (oo4 : PySem.W.mroIn K c4 (.type "object") = some true)
    (kc4 : PySem.W.keepIn K (.ref c4) = true)
    (ty4 : PySem.W.typeIn K (.ref c4) = some (.type "type"))
    (no4 : PySem.W.findIn K (.ref c4) "place" = some none)
    (iI4 : PySem.W.findIn K (.ref c4) "__init__" = some (some (.ref f4)))
    (tI4 : PySem.W.typeIn K (.ref f4) = some (.type "function"))
    (lI4 : K.lookup f4 = some ⟨oc4, od4, .func (PySem.W.fnOf "__init__" "BadSuite.__init__" (defArgs sSuiteI) (defBody sSuiteI) (defScope sSuiteI) .none kV4 dc4 pm4 an4 cd4 ct4), sl4⟩)
    (cI4 : PySem.W.codeIn K cd4 "BadSuite.__init__" = true)
    (kI4 : PySem.W.keepIn K (.ref f4) = true)
    (x5 : K.lookup c5 = some (excClassObj nm5 qn5 c5 N5 bs5 (.ref c9 :: ve) true sn5 sub5 ab5 col5 dd5 p05 p15 p25 p35 p55 "ValueError.__new__"))
    (sa5 : PySem.W.findIn K (.ref c5) "__setattr__" = some (some (.builtin "object.__setattr__")))
    (ga5 : PySem.W.findIn K (.ref c5) "__getattribute__" = some (some (.builtin "BaseException.__getattribute__")))
    (gg5 : PySem.W.findIn K (.ref c5) "__getattr__" = some none)
    (sb5 : PySem.W.subIn K (.ref c5) (.type "BaseException") = some true)
    (cc5 : PySem.W.findIn K (.ref c5) "__class__" = some (some (.builtin "object.__class__")))
    (oo5 : PySem.W.mroIn K c5 (.type "object") = some true)
    (kc5 : PySem.W.keepIn K (.ref c5) = true)
    (ty5 : PySem.W.typeIn K (.ref c5) = some (.type "type"))
    (no5 : PySem.W.findIn K (.ref c5) "value" = some none)
    (iI5 : PySem.W.findIn K (.ref c5) "__init__" = some (some (.ref f5)))
    (tI5 : PySem.W.typeIn K (.ref f5) = some (.type "function"))
    (lI5 : K.lookup f5 = some ⟨oc5, od5, .func (PySem.W.fnOf "__init__" "BadOutcomes.__init__" (defArgs sOutI) (defBody sOutI) (defScope sOutI) .none kV5 dc5 pm5 an5 cd5 ct5), sl5⟩)
    (cI5 : PySem.W.codeIn K cd5 "BadOutcomes.__init__" = true)
    (kI5 : PySem.W.keepIn K (.ref f5) = true)
    (x6 : K.lookup c6 = some (excClassObj nm6 qn6 c6 N6 bs6 (.ref c9 :: ve) true sn6 sub6 ab6 col6 dd6 p06 p16 p26 p36 p56 "ValueError.__new__"))
    (sa6 : PySem.W.findIn K (.ref c6) "__setattr__" = some (some (.builtin "object.__setattr__")))
    (ga6 : PySem.W.findIn K (.ref c6) "__getattribute__" = some (some (.builtin "BaseException.__getattribute__")))
    (gg6 : PySem.W.findIn K (.ref c6) "__getattr__" = some none)
    (sb6 : PySem.W.subIn K (.ref c6) (.type "BaseException") = some true)
    (cc6 : PySem.W.findIn K (.ref c6) "__class__" = some (some (.builtin "object.__class__")))
    (oo6 : PySem.W.mroIn K c6 (.type "object") = some true)
    (kc6 : PySem.W.keepIn K (.ref c6) = true)
    (ty6 : PySem.W.typeIn K (.ref c6) = some (.type "type"))
    (no6 : PySem.W.findIn K (.ref c6) "value" = some none)
    (iI6 : PySem.W.findIn K (.ref c6) "__init__" = some (some (.ref f6)))
    (tI6 : PySem.W.typeIn K (.ref f6) = some (.type "function"))
    (lI6 : K.lookup f6 = some ⟨oc6, od6, .func (PySem.W.fnOf "__init__" "BadNumber.__init__" (defArgs sNumI) (defBody sNumI) (defScope sNumI) .none kV6 dc6 pm6 an6 cd6 ct6), sl6⟩)
    (cI6 : PySem.W.codeIn K cd6 "BadNumber.__init__" = true)
    (kI6 : PySem.W.keepIn K (.ref f6) = true)
    (x7 : K.lookup c7 = some (excClassObj nm7 qn7 c7 N7 bs7 (.ref c9 :: ve) true sn7 sub7 ab7 col7 dd7 p07 p17 p27 p37 p57 "ValueError.__new__"))
    (sa7 : PySem.W.findIn K (.ref c7) "__setattr__" = some (some (.builtin "object.__setattr__")))
    (ga7 : PySem.W.findIn K (.ref c7) "__getattribute__" = some (some (.builtin "BaseException.__getattribute__")))
    (gg7 : PySem.W.findIn K (.ref c7) "__getattr__" = some none)
    (sb7 : PySem.W.subIn K (.ref c7) (.type "BaseException") = some true)
    (cc7 : PySem.W.findIn K (.ref c7) "__class__" = some (some (.builtin "object.__class__")))
    (oo7 : PySem.W.mroIn K c7 (.type "object") = some true)
    (kc7 : PySem.W.keepIn K (.ref c7) = true)
    (ty7 : PySem.W.typeIn K (.ref c7) = some (.type "type"))
    (no7 : PySem.W.findIn K (.ref c7) "word" = some none)
    (iI7 : PySem.W.findIn K (.ref c7) "__init__" = some (some (.ref f7)))
    (tI7 : PySem.W.typeIn K (.ref f7) = some (.type "function"))
    (lI7 : K.lookup f7 = some ⟨oc7, od7, .func (PySem.W.fnOf "__init__" "BadPaper.__init__" (defArgs sPaperI) (defBody sPaperI) (defScope sPaperI) .none kV7 dc7 pm7 an7 cd7 ct7), sl7⟩)
    (cI7 : PySem.W.codeIn K cd7 "BadPaper.__init__" = true)
    (kI7 : PySem.W.keepIn K (.ref f7) = true)
    (x8 : K.lookup c8 = some (excClassObj nm8 qn8 c8 N8 bs8 oeB true sn8 sub8 ab8 col8 dd8 p08 p18 p28 p38 p58 "OverflowError.__new__"))
    (sa8 : PySem.W.findIn K (.ref c8) "__setattr__" = some (some (.builtin "object.__setattr__")))
    (ga8 : PySem.W.findIn K (.ref c8) "__getattribute__" = some (some (.builtin "BaseException.__getattribute__")))
    (gg8 : PySem.W.findIn K (.ref c8) "__getattr__" = some none)
    (sb8 : PySem.W.subIn K (.ref c8) (.type "BaseException") = some true)
    (cc8 : PySem.W.findIn K (.ref c8) "__class__" = some (some (.builtin "object.__class__")))
    (oo8 : PySem.W.mroIn K c8 (.type "object") = some true)
    (kc8 : PySem.W.keepIn K (.ref c8) = true)
    (ty8 : PySem.W.typeIn K (.ref c8) = some (.type "type"))
    (no8 : PySem.W.findIn K (.ref c8) "most" = some none)
    (iI8 : PySem.W.findIn K (.ref c8) "__init__" = some (some (.ref f8)))
    (tI8 : PySem.W.typeIn K (.ref f8) = some (.type "function"))
    (lI8 : K.lookup f8 = some ⟨oc8, od8, .func (PySem.W.fnOf "__init__" "TooGreat.__init__" (defArgs sGreatI) (defBody sGreatI) (defScope sGreatI) .none kV8 dc8 pm8 an8 cd8 ct8), sl8⟩)
    (cI8 : PySem.W.codeIn K cd8 "TooGreat.__init__" = true)
    (kI8 : PySem.W.keepIn K (.ref f8) = true)
    (ga9 : PySem.W.findIn K (.ref c9) "__getattribute__" = some (some (.builtin "BaseException.__getattribute__")))
    (gg9 : PySem.W.findIn K (.ref c9) "__getattr__" = some none)
    (sb9 : PySem.W.subIn K (.ref c9) (.type "BaseException") = some true)
    (hd9 : PySem.W.hasDictIn K c9 = true)
    (cc9 : PySem.W.findIn K (.ref c9) "__class__" = some (some (.builtin "object.__class__")))
    (oo9 : PySem.W.mroIn K c9 (.type "object") = some true)
    (ex9 : PySem.W.excIn K c9 ve "ValueError.__new__" = true)
    (kc9 : PySem.W.keepIn K (.ref c9) = true)
    (hn : PySem.W.specialIn K (.builtin "object.__class__") "__get__" = some (some (.builtin "getset_descriptor.__get__")))
    (ht : PySem.W.takesIn K (.builtin "object.__class__") = some true)
    (fga : PySem.W.specialIn K (.ref c9) "__getattribute__" = some (some (.builtin "type.__getattribute__")))
    (frd : PySem.W.readsIn K c9 (.type "type") = true)
    (ffc : PySem.W.findCls K (.ref c9) (.type "type") "__init__" = some (.val (.builtin "ValueError.__init__")))
    (ofc : PySem.W.findCls K (.type "OverflowError") (.type "type") "__init__" = some (.val (.builtin "OverflowError.__init__")))
    (z_int : PySem.W.nsIn K mainGlobals "int" = some none)
    (z_range : PySem.W.nsIn K mainGlobals "range" = some none)
    (z_enumerate : PySem.W.nsIn K mainGlobals "enumerate" = some none)
    (z_len : PySem.W.nsIn K mainGlobals "len" = some none)
    (z_min : PySem.W.nsIn K mainGlobals "min" = some none)
    (z_isinstance : PySem.W.nsIn K mainGlobals "isinstance" = some none)
    (z_repr : PySem.W.nsIn K mainGlobals "repr" = some none)
    (z_bool : PySem.W.nsIn K mainGlobals "bool" = some none)
    (z_tuple : PySem.W.nsIn K mainGlobals "tuple" = some none)
    (z_all : PySem.W.nsIn K mainGlobals "all" = some none)
    (z_any : PySem.W.nsIn K mainGlobals "any" = some none)
    (z_zip : PySem.W.nsIn K mainGlobals "zip" = some none)
    (z_list : PySem.W.nsIn K mainGlobals "list" = some none)
    (z_sorted : PySem.W.nsIn K mainGlobals "sorted" = some none)
    (z_OverflowError : PySem.W.nsIn K mainGlobals "OverflowError" = some none)
    (z_ValueError : PySem.W.nsIn K mainGlobals "ValueError" = some none)
    (z_LookupError : PySem.W.nsIn K mainGlobals "LookupError" = some none)
    (z_RuntimeError : PySem.W.nsIn K mainGlobals "RuntimeError" = some none)
    (z_TypeError : PySem.W.nsIn K mainGlobals "TypeError" = some none)
    (q0_0 : PySem.W.kitOne K (.ref c0) (.ref c0) = some true)
    (q0_1 : PySem.W.kitOne K (.ref c0) (.ref c1) = some false)
    (q0_2 : PySem.W.kitOne K (.ref c0) (.ref c2) = some false)
    (q0_3 : PySem.W.kitOne K (.ref c0) (.ref c3) = some false)
    (q0_4 : PySem.W.kitOne K (.ref c0) (.ref c4) = some false)
    (q0_5 : PySem.W.kitOne K (.ref c0) (.ref c5) = some false)
    (q0_6 : PySem.W.kitOne K (.ref c0) (.ref c6) = some false)
    (q0_7 : PySem.W.kitOne K (.ref c0) (.ref c7) = some false)
    (q0_8 : PySem.W.kitOne K (.ref c0) (.ref c8) = some false)
    (q0_9 : PySem.W.kitOne K (.ref c0) (.ref c9) = some true)
    (q0_10 : PySem.W.kitOne K (.ref c0) (.type "ValueError") = some true)
    (q0_11 : PySem.W.kitOne K (.ref c0) (.type "OverflowError") = some false)
    (q0_12 : PySem.W.kitOne K (.ref c0) (.type "LookupError") = some false)
    (q0_13 : PySem.W.kitOne K (.ref c0) (.type "RuntimeError") = some false)
    (q0_14 : PySem.W.kitOne K (.ref c0) (.type "TypeError") = some false)
    (q1_0 : PySem.W.kitOne K (.ref c1) (.ref c0) = some false)
    (q1_1 : PySem.W.kitOne K (.ref c1) (.ref c1) = some true)
    (q1_2 : PySem.W.kitOne K (.ref c1) (.ref c2) = some false)
    (q1_3 : PySem.W.kitOne K (.ref c1) (.ref c3) = some false)
    (q1_4 : PySem.W.kitOne K (.ref c1) (.ref c4) = some false)
    (q1_5 : PySem.W.kitOne K (.ref c1) (.ref c5) = some false)
    (q1_6 : PySem.W.kitOne K (.ref c1) (.ref c6) = some false)
    (q1_7 : PySem.W.kitOne K (.ref c1) (.ref c7) = some false)
    (q1_8 : PySem.W.kitOne K (.ref c1) (.ref c8) = some false)
    (q1_9 : PySem.W.kitOne K (.ref c1) (.ref c9) = some true)
    (q1_10 : PySem.W.kitOne K (.ref c1) (.type "ValueError") = some true)
    (q1_11 : PySem.W.kitOne K (.ref c1) (.type "OverflowError") = some false)
    (q1_12 : PySem.W.kitOne K (.ref c1) (.type "LookupError") = some false)
    (q1_13 : PySem.W.kitOne K (.ref c1) (.type "RuntimeError") = some false)
    (q1_14 : PySem.W.kitOne K (.ref c1) (.type "TypeError") = some false)
    (q2_0 : PySem.W.kitOne K (.ref c2) (.ref c0) = some false)
    (q2_1 : PySem.W.kitOne K (.ref c2) (.ref c1) = some false)
    (q2_2 : PySem.W.kitOne K (.ref c2) (.ref c2) = some true)
    (q2_3 : PySem.W.kitOne K (.ref c2) (.ref c3) = some false)
    (q2_4 : PySem.W.kitOne K (.ref c2) (.ref c4) = some false)
    (q2_5 : PySem.W.kitOne K (.ref c2) (.ref c5) = some false)
    (q2_6 : PySem.W.kitOne K (.ref c2) (.ref c6) = some false)
    (q2_7 : PySem.W.kitOne K (.ref c2) (.ref c7) = some false)
    (q2_8 : PySem.W.kitOne K (.ref c2) (.ref c8) = some false)
    (q2_9 : PySem.W.kitOne K (.ref c2) (.ref c9) = some true)
    (q2_10 : PySem.W.kitOne K (.ref c2) (.type "ValueError") = some true)
    (q2_11 : PySem.W.kitOne K (.ref c2) (.type "OverflowError") = some false)
    (q2_12 : PySem.W.kitOne K (.ref c2) (.type "LookupError") = some false)
    (q2_13 : PySem.W.kitOne K (.ref c2) (.type "RuntimeError") = some false)
    (q2_14 : PySem.W.kitOne K (.ref c2) (.type "TypeError") = some false)
    (q3_0 : PySem.W.kitOne K (.ref c3) (.ref c0) = some false)
    (q3_1 : PySem.W.kitOne K (.ref c3) (.ref c1) = some false)
    (q3_2 : PySem.W.kitOne K (.ref c3) (.ref c2) = some false)
    (q3_3 : PySem.W.kitOne K (.ref c3) (.ref c3) = some true)
    (q3_4 : PySem.W.kitOne K (.ref c3) (.ref c4) = some false)
    (q3_5 : PySem.W.kitOne K (.ref c3) (.ref c5) = some false)
    (q3_6 : PySem.W.kitOne K (.ref c3) (.ref c6) = some false)
    (q3_7 : PySem.W.kitOne K (.ref c3) (.ref c7) = some false)
    (q3_8 : PySem.W.kitOne K (.ref c3) (.ref c8) = some false)
    (q3_9 : PySem.W.kitOne K (.ref c3) (.ref c9) = some true)
    (q3_10 : PySem.W.kitOne K (.ref c3) (.type "ValueError") = some true)
    (q3_11 : PySem.W.kitOne K (.ref c3) (.type "OverflowError") = some false)
    (q3_12 : PySem.W.kitOne K (.ref c3) (.type "LookupError") = some false)
    (q3_13 : PySem.W.kitOne K (.ref c3) (.type "RuntimeError") = some false)
    (q3_14 : PySem.W.kitOne K (.ref c3) (.type "TypeError") = some false)
    (q4_0 : PySem.W.kitOne K (.ref c4) (.ref c0) = some false)
    (q4_1 : PySem.W.kitOne K (.ref c4) (.ref c1) = some false)
    (q4_2 : PySem.W.kitOne K (.ref c4) (.ref c2) = some false)
    (q4_3 : PySem.W.kitOne K (.ref c4) (.ref c3) = some false)
    (q4_4 : PySem.W.kitOne K (.ref c4) (.ref c4) = some true)
    (q4_5 : PySem.W.kitOne K (.ref c4) (.ref c5) = some false)
    (q4_6 : PySem.W.kitOne K (.ref c4) (.ref c6) = some false)
    (q4_7 : PySem.W.kitOne K (.ref c4) (.ref c7) = some false)
    (q4_8 : PySem.W.kitOne K (.ref c4) (.ref c8) = some false)
    (q4_9 : PySem.W.kitOne K (.ref c4) (.ref c9) = some true)
    (q4_10 : PySem.W.kitOne K (.ref c4) (.type "ValueError") = some true)
    (q4_11 : PySem.W.kitOne K (.ref c4) (.type "OverflowError") = some false)
    (q4_12 : PySem.W.kitOne K (.ref c4) (.type "LookupError") = some false)
    (q4_13 : PySem.W.kitOne K (.ref c4) (.type "RuntimeError") = some false)
    (q4_14 : PySem.W.kitOne K (.ref c4) (.type "TypeError") = some false)
    (q5_0 : PySem.W.kitOne K (.ref c5) (.ref c0) = some false)
    (q5_1 : PySem.W.kitOne K (.ref c5) (.ref c1) = some false)
    (q5_2 : PySem.W.kitOne K (.ref c5) (.ref c2) = some false)
    (q5_3 : PySem.W.kitOne K (.ref c5) (.ref c3) = some false)
    (q5_4 : PySem.W.kitOne K (.ref c5) (.ref c4) = some false)
    (q5_5 : PySem.W.kitOne K (.ref c5) (.ref c5) = some true)
    (q5_6 : PySem.W.kitOne K (.ref c5) (.ref c6) = some false)
    (q5_7 : PySem.W.kitOne K (.ref c5) (.ref c7) = some false)
    (q5_8 : PySem.W.kitOne K (.ref c5) (.ref c8) = some false)
    (q5_9 : PySem.W.kitOne K (.ref c5) (.ref c9) = some true)
    (q5_10 : PySem.W.kitOne K (.ref c5) (.type "ValueError") = some true)
    (q5_11 : PySem.W.kitOne K (.ref c5) (.type "OverflowError") = some false)
    (q5_12 : PySem.W.kitOne K (.ref c5) (.type "LookupError") = some false)
    (q5_13 : PySem.W.kitOne K (.ref c5) (.type "RuntimeError") = some false)
    (q5_14 : PySem.W.kitOne K (.ref c5) (.type "TypeError") = some false)
    (q6_0 : PySem.W.kitOne K (.ref c6) (.ref c0) = some false)
    (q6_1 : PySem.W.kitOne K (.ref c6) (.ref c1) = some false)
    (q6_2 : PySem.W.kitOne K (.ref c6) (.ref c2) = some false)
    (q6_3 : PySem.W.kitOne K (.ref c6) (.ref c3) = some false)
    (q6_4 : PySem.W.kitOne K (.ref c6) (.ref c4) = some false)
    (q6_5 : PySem.W.kitOne K (.ref c6) (.ref c5) = some false)
    (q6_6 : PySem.W.kitOne K (.ref c6) (.ref c6) = some true)
    (q6_7 : PySem.W.kitOne K (.ref c6) (.ref c7) = some false)
    (q6_8 : PySem.W.kitOne K (.ref c6) (.ref c8) = some false)
    (q6_9 : PySem.W.kitOne K (.ref c6) (.ref c9) = some true)
    (q6_10 : PySem.W.kitOne K (.ref c6) (.type "ValueError") = some true)
    (q6_11 : PySem.W.kitOne K (.ref c6) (.type "OverflowError") = some false)
    (q6_12 : PySem.W.kitOne K (.ref c6) (.type "LookupError") = some false)
    (q6_13 : PySem.W.kitOne K (.ref c6) (.type "RuntimeError") = some false)
    (q6_14 : PySem.W.kitOne K (.ref c6) (.type "TypeError") = some false)
    (q7_0 : PySem.W.kitOne K (.ref c7) (.ref c0) = some false)
    (q7_1 : PySem.W.kitOne K (.ref c7) (.ref c1) = some false)
    (q7_2 : PySem.W.kitOne K (.ref c7) (.ref c2) = some false)
    (q7_3 : PySem.W.kitOne K (.ref c7) (.ref c3) = some false)
    (q7_4 : PySem.W.kitOne K (.ref c7) (.ref c4) = some false)
    (q7_5 : PySem.W.kitOne K (.ref c7) (.ref c5) = some false)
    (q7_6 : PySem.W.kitOne K (.ref c7) (.ref c6) = some false)
    (q7_7 : PySem.W.kitOne K (.ref c7) (.ref c7) = some true)
    (q7_8 : PySem.W.kitOne K (.ref c7) (.ref c8) = some false)
    (q7_9 : PySem.W.kitOne K (.ref c7) (.ref c9) = some true)
    (q7_10 : PySem.W.kitOne K (.ref c7) (.type "ValueError") = some true)
    (q7_11 : PySem.W.kitOne K (.ref c7) (.type "OverflowError") = some false)
    (q7_12 : PySem.W.kitOne K (.ref c7) (.type "LookupError") = some false)
    (q7_13 : PySem.W.kitOne K (.ref c7) (.type "RuntimeError") = some false)
    (q7_14 : PySem.W.kitOne K (.ref c7) (.type "TypeError") = some false)
    (q8_0 : PySem.W.kitOne K (.ref c8) (.ref c0) = some false)
    (q8_1 : PySem.W.kitOne K (.ref c8) (.ref c1) = some false)
    (q8_2 : PySem.W.kitOne K (.ref c8) (.ref c2) = some false)
    (q8_3 : PySem.W.kitOne K (.ref c8) (.ref c3) = some false)
    (q8_4 : PySem.W.kitOne K (.ref c8) (.ref c4) = some false)
    (q8_5 : PySem.W.kitOne K (.ref c8) (.ref c5) = some false)
    (q8_6 : PySem.W.kitOne K (.ref c8) (.ref c6) = some false)
    (q8_7 : PySem.W.kitOne K (.ref c8) (.ref c7) = some false)
    (q8_8 : PySem.W.kitOne K (.ref c8) (.ref c8) = some true)
    (q8_9 : PySem.W.kitOne K (.ref c8) (.ref c9) = some false)
    (q8_10 : PySem.W.kitOne K (.ref c8) (.type "ValueError") = some false)
    (q8_11 : PySem.W.kitOne K (.ref c8) (.type "OverflowError") = some true)
    (q8_12 : PySem.W.kitOne K (.ref c8) (.type "LookupError") = some false)
    (q8_13 : PySem.W.kitOne K (.ref c8) (.type "RuntimeError") = some false)
    (q8_14 : PySem.W.kitOne K (.ref c8) (.type "TypeError") = some false)
    (q9_0 : PySem.W.kitOne K (.ref c9) (.ref c0) = some false)
    (q9_1 : PySem.W.kitOne K (.ref c9) (.ref c1) = some false)
    (q9_2 : PySem.W.kitOne K (.ref c9) (.ref c2) = some false)
    (q9_3 : PySem.W.kitOne K (.ref c9) (.ref c3) = some false)
    (q9_4 : PySem.W.kitOne K (.ref c9) (.ref c4) = some false)
    (q9_5 : PySem.W.kitOne K (.ref c9) (.ref c5) = some false)
    (q9_6 : PySem.W.kitOne K (.ref c9) (.ref c6) = some false)
    (q9_7 : PySem.W.kitOne K (.ref c9) (.ref c7) = some false)
    (q9_8 : PySem.W.kitOne K (.ref c9) (.ref c8) = some false)
    (q9_9 : PySem.W.kitOne K (.ref c9) (.ref c9) = some true)
    (q9_10 : PySem.W.kitOne K (.ref c9) (.type "ValueError") = some true)
    (q9_11 : PySem.W.kitOne K (.ref c9) (.type "OverflowError") = some false)
    (q9_12 : PySem.W.kitOne K (.ref c9) (.type "LookupError") = some false)
    (q9_13 : PySem.W.kitOne K (.ref c9) (.type "RuntimeError") = some false)
    (q9_14 : PySem.W.kitOne K (.ref c9) (.type "TypeError") = some false)
    (r0_9 : PySem.W.exmOne K (.ref c0) (.ref c9) = some true)
    (r0_8 : PySem.W.exmOne K (.ref c0) (.ref c8) = some false)
    (r1_9 : PySem.W.exmOne K (.ref c1) (.ref c9) = some true)
    (r1_8 : PySem.W.exmOne K (.ref c1) (.ref c8) = some false)
    (r2_9 : PySem.W.exmOne K (.ref c2) (.ref c9) = some true)
    (r2_8 : PySem.W.exmOne K (.ref c2) (.ref c8) = some false)
    (r3_9 : PySem.W.exmOne K (.ref c3) (.ref c9) = some true)
    (r3_8 : PySem.W.exmOne K (.ref c3) (.ref c8) = some false)
    (r4_9 : PySem.W.exmOne K (.ref c4) (.ref c9) = some true)
    (r4_8 : PySem.W.exmOne K (.ref c4) (.ref c8) = some false)
    (r5_9 : PySem.W.exmOne K (.ref c5) (.ref c9) = some true)
    (r5_8 : PySem.W.exmOne K (.ref c5) (.ref c8) = some false)
    (r6_9 : PySem.W.exmOne K (.ref c6) (.ref c9) = some true)
    (r6_8 : PySem.W.exmOne K (.ref c6) (.ref c8) = some false)
    (r7_9 : PySem.W.exmOne K (.ref c7) (.ref c9) = some true)
    (r7_8 : PySem.W.exmOne K (.ref c7) (.ref c8) = some false)
    (r8_9 : PySem.W.exmOne K (.ref c8) (.ref c9) = some false)
    (r8_8 : PySem.W.exmOne K (.ref c8) (.ref c8) = some true)
    : ∃ (fd : FuncData) (cA tA : Addr) (sp : Sp), PySem.W.CodeHd h cA tA ∧ h.get? tA = some { cls := .none, data := .fields #[] } ∧ K.lookup tA = none ∧ (∀ (s : Shared) (u : Value), BindsTo s fd ⟨[u], []⟩ [("script", u)]) ∧
        (∀ (H : Hp) (a : Addr) (ns : List Int), ns.length ≤ 63 → H tA = some (.tbl #[]) → SqL K H a (ns.map V.int) → sp [.ref a] H (fun v _ => v = .bl true) E0) ∧
        ∀ base : Heap, K.In base → base.Ns mainGlobals mg → TabB base mg cA tA → FnG l.prog w K mg base 15 fa fd ["script"] sp := by
  have e := hfa.symm.trans (PySem.W.mg_of X G a_la)
  cases e
  have y_int := PySem.W.mg_none_of X G z_int
  have y_range := PySem.W.mg_none_of X G z_range
  have y_enumerate := PySem.W.mg_none_of X G z_enumerate
  have y_len := PySem.W.mg_none_of X G z_len
  have y_min := PySem.W.mg_none_of X G z_min
  have y_isinstance := PySem.W.mg_none_of X G z_isinstance
  have y_repr := PySem.W.mg_none_of X G z_repr
  have y_bool := PySem.W.mg_none_of X G z_bool
  have y_tuple := PySem.W.mg_none_of X G z_tuple
  have y_all := PySem.W.mg_none_of X G z_all
  have y_any := PySem.W.mg_none_of X G z_any
  have y_zip := PySem.W.mg_none_of X G z_zip
  have y_list := PySem.W.mg_none_of X G z_list
  have y_sorted := PySem.W.mg_none_of X G z_sorted
  have y_OverflowError := PySem.W.mg_none_of X G z_OverflowError
  have y_ValueError := PySem.W.mg_none_of X G z_ValueError
  have y_LookupError := PySem.W.mg_none_of X G z_LookupError
  have y_RuntimeError := PySem.W.mg_none_of X G z_RuntimeError
  have y_TypeError := PySem.W.mg_none_of X G z_TypeError
  let c : Nat → Addr := fun i => match i with | 0 => c0 | 1 => c1 | 2 => c2 | 3 => c3 | 4 => c4 | 5 => c5 | 6 => c6 | 7 => c7 | 8 => c8 | 9 => c9 | _ => c0
  have NM : Nms mg c := ⟨PySem.W.mg_of X G n0, PySem.W.mg_of X G n1, PySem.W.mg_of X G n2, PySem.W.mg_of X G n3, PySem.W.mg_of X G n4, PySem.W.mg_of X G n5, PySem.W.mg_of X G n6, PySem.W.mg_of X G n7, PySem.W.mg_of X G n8, PySem.W.mg_of X G n9, y_ValueError, y_OverflowError, y_LookupError, y_RuntimeError, y_TypeError⟩
  have F_nu := fun_mk (st := sNum) l_nu c_nu k_nu
  have b_nu := F_nu.binds (ps := ["value", "least", "most"]) fun _ _ _ _ _ _ us hl => match us, hl with | [_, _, _], _ => rfl
  have d_nu : Dfn K mg "is_number" f_nu _ ["value", "least", "most"] := ⟨PySem.W.mg_of X G a_nu, k_nu, b_nu⟩
  have F_nn := fun_mk (st := sNNum) l_nn c_nn k_nn
  have b_nn := F_nn.binds (ps := ["value", "least", "most"]) fun _ _ _ _ _ _ us hl => match us, hl with | [_, _, _], _ => rfl
  have d_nn : Dfn K mg "need_number" f_nn _ ["value", "least", "most"] := ⟨PySem.W.mg_of X G a_nn, k_nn, b_nn⟩
  have F_tu := fun_mk (st := sTup) l_tu c_tu k_tu
  have b_tu := F_tu.binds (ps := ["value", "least", "most"]) fun _ _ _ _ _ _ us hl => match us, hl with | [_, _, _], _ => rfl
  have d_tu : Dfn K mg "is_tuple" f_tu _ ["value", "least", "most"] := ⟨PySem.W.mg_of X G a_tu, k_tu, b_tu⟩
  have F_se := fun_mk (st := sSet) l_se c_se k_se
  have b_se := F_se.binds (ps := ["values", "value"]) fun _ _ _ _ _ _ us hl => match us, hl with | [_, _], _ => rfl
  have d_se : Dfn K mg "is_setting" f_se _ ["values", "value"] := ⟨PySem.W.mg_of X G a_se, k_se, b_se⟩
  have F_ss := fun_mk (st := sStgs) l_ss c_ss k_ss
  have b_ss := F_ss.binds (ps := ["values", "value", "least", "most"]) fun _ _ _ _ _ _ us hl => match us, hl with | [_, _, _, _], _ => rfl
  have d_ss : Dfn K mg "is_settings" f_ss _ ["values", "value", "least", "most"] := ⟨PySem.W.mg_of X G a_ss, k_ss, b_ss⟩
  have F_lo := fun_mk (st := sLot) l_lo c_lo k_lo
  have b_lo := F_lo.binds (ps := ["values", "value"]) fun _ _ _ _ _ _ us hl => match us, hl with | [_, _], _ => rfl
  have d_lo : Dfn K mg "is_lot" f_lo _ ["values", "value"] := ⟨PySem.W.mg_of X G a_lo, k_lo, b_lo⟩
  have F_ro := fun_mk (st := sRow) l_ro c_ro k_ro
  have b_ro := F_ro.binds (ps := ["values", "value"]) fun _ _ _ _ _ _ us hl => match us, hl with | [_, _], _ => rfl
  have d_ro : Dfn K mg "is_row" f_ro _ ["values", "value"] := ⟨PySem.W.mg_of X G a_ro, k_ro, b_ro⟩
  have F_fw := fun_mk (st := sFw) l_fw c_fw k_fw
  have b_fw := F_fw.binds (ps := ["values", "lots"]) fun _ _ _ _ _ _ us hl => match us, hl with | [_, _], _ => rfl
  have d_fw : Dfn K mg "first_wrong_lot" f_fw _ ["values", "lots"] := ⟨PySem.W.mg_of X G a_fw, k_fw, b_fw⟩
  have F_va := fun_mk (st := sVals) l_va c_va k_va
  have b_va := F_va.binds (ps := ["values"]) fun _ _ _ _ _ _ us hl => match us, hl with | [_], _ => rfl
  have d_va : Dfn K mg "need_values" f_va _ ["values"] := ⟨PySem.W.mg_of X G a_va, k_va, b_va⟩
  have F_ba := fun_mk (st := sBar) l_ba c_ba k_ba
  have b_ba := F_ba.binds (ps := ["values", "barred"]) fun _ _ _ _ _ _ us hl => match us, hl with | [_, _], _ => rfl
  have d_ba : Dfn K mg "need_barred" f_ba _ ["values", "barred"] := ⟨PySem.W.mg_of X G a_ba, k_ba, b_ba⟩
  have F_ri := fun_mk (st := sRig) l_ri c_ri k_ri
  have b_ri := F_ri.binds (ps := ["rig"]) fun _ _ _ _ _ _ us hl => match us, hl with | [_], _ => rfl
  have d_ri : Dfn K mg "need_rig" f_ri _ ["rig"] := ⟨PySem.W.mg_of X G a_ri, k_ri, b_ri⟩
  have F_nl := fun_mk (st := sNLot) l_nl c_nl k_nl
  have b_nl := F_nl.binds (ps := ["rig", "lot"]) fun _ _ _ _ _ _ us hl => match us, hl with | [_, _], _ => rfl
  have d_nl : Dfn K mg "need_lot" f_nl _ ["rig", "lot"] := ⟨PySem.W.mg_of X G a_nl, k_nl, b_nl⟩
  have F_me := fun_mk (st := sMeets) l_me c_me k_me
  have b_me := F_me.binds (ps := ["row", "lot"]) fun _ _ _ _ _ _ us hl => match us, hl with | [_, _], _ => rfl
  have d_me : Dfn K mg "meets" f_me _ ["row", "lot"] := ⟨PySem.W.mg_of X G a_me, k_me, b_me⟩
  have F_ma := fun_mk (st := sMeetsAny) l_ma c_ma k_ma
  have b_ma := F_ma.binds (ps := ["row", "lots"]) fun _ _ _ _ _ _ us hl => match us, hl with | [_, _], _ => rfl
  have d_ma : Dfn K mg "meets_any" f_ma _ ["row", "lots"] := ⟨PySem.W.mg_of X G a_ma, k_ma, b_ma⟩
  have F_le := fun_mk (st := sLet) l_le c_le k_le
  have b_le := F_le.binds (ps := ["rig", "value"]) fun _ _ _ _ _ _ us hl => match us, hl with | [_, _], _ => rfl
  have d_le : Dfn K mg "is_let" f_le _ ["rig", "value"] := ⟨PySem.W.mg_of X G a_le, k_le, b_le⟩
  have F_lr := fun_mk (st := sLetRows) l_lr c_lr k_lr
  have b_lr := F_lr.binds (ps := ["rig"]) fun _ _ _ _ _ _ us hl => match us, hl with | [_], _ => rfl
  have d_lr : Dfn K mg "let_rows" f_lr _ ["rig"] := ⟨PySem.W.mg_of X G a_lr, k_lr, b_lr⟩
  have F_rm := fun_mk (st := sMeeting) l_rm c_rm k_rm
  have b_rm := F_rm.binds (ps := ["rig", "lot"]) fun _ _ _ _ _ _ us hl => match us, hl with | [_, _], _ => rfl
  have d_rm : Dfn K mg "rows_meeting" f_rm _ ["rig", "lot"] := ⟨PySem.W.mg_of X G a_rm, k_rm, b_rm⟩
  have F_im := fun_mk (st := sIsMet) l_im c_im k_im
  have b_im := F_im.binds (ps := ["rig", "lot"]) fun _ _ _ _ _ _ us hl => match us, hl with | [_, _], _ => rfl
  have d_im : Dfn K mg "is_met" f_im _ ["rig", "lot"] := ⟨PySem.W.mg_of X G a_im, k_im, b_im⟩
  have F_sh := fun_mk (st := sShape) l_sh c_sh k_sh
  have b_sh := F_sh.binds (ps := ["values", "value"]) fun _ _ _ _ _ _ us hl => match us, hl with | [_, _], _ => rfl
  have d_sh : Dfn K mg "is_shape" f_sh _ ["values", "value"] := ⟨PySem.W.mg_of X G a_sh, k_sh, b_sh⟩
  have F_nsh := fun_mk (st := sNShape) l_nsh c_nsh k_nsh
  have b_nsh := F_nsh.binds (ps := ["rig", "shape"]) fun _ _ _ _ _ _ us hl => match us, hl with | [_, _], _ => rfl
  have d_nsh : Dfn K mg "need_shape" f_nsh _ ["rig", "shape"] := ⟨PySem.W.mg_of X G a_nsh, k_nsh, b_nsh⟩
  have F_isf := fun_mk (st := sIsFaults) l_isf c_isf k_isf
  have b_isf := F_isf.binds (ps := ["rig", "shape", "marks", "value"]) fun _ _ _ _ _ _ us hl => match us, hl with | [_, _, _, _], _ => rfl
  have d_isf : Dfn K mg "is_faults" f_isf _ ["rig", "shape", "marks", "value"] := ⟨PySem.W.mg_of X G a_isf, k_isf, b_isf⟩
  have F_nf := fun_mk (st := KR.sNFaults) l_nf c_nf k_nf
  have b_nf := F_nf.binds (ps := ["rig", "shape", "faults"]) fun _ _ _ _ _ _ us hl => match us, hl with | [_, _, _], _ => rfl
  have d_nf : Dfn K mg "need_faults" f_nf _ ["rig", "shape", "faults"] := ⟨PySem.W.mg_of X G a_nf, k_nf, b_nf⟩
  have F_su := fun_mk (st := sNSuite) l_su c_su k_su
  have b_su := F_su.binds (ps := ["rig", "suite"]) fun _ _ _ _ _ _ us hl => match us, hl with | [_, _], _ => rfl
  have d_su : Dfn K mg "need_suite" f_su _ ["rig", "suite"] := ⟨PySem.W.mg_of X G a_su, k_su, b_su⟩
  have F_nr := fun_mk (st := sNRows) l_nr c_nr k_nr
  have b_nr := F_nr.binds (ps := ["rig", "shape", "suite"]) fun _ _ _ _ _ _ us hl => match us, hl with | [_, _, _], _ => rfl
  have d_nr : Dfn K mg "need_rows" f_nr _ ["rig", "shape", "suite"] := ⟨PySem.W.mg_of X G a_nr, k_nr, b_nr⟩
  have F_io := fun_mk (st := sIsOut) l_io c_io k_io
  have b_io := F_io.binds (ps := ["suite", "value"]) fun _ _ _ _ _ _ us hl => match us, hl with | [_, _], _ => rfl
  have d_io : Dfn K mg "is_outcomes" f_io _ ["suite", "value"] := ⟨PySem.W.mg_of X G a_io, k_io, b_io⟩
  have F_nh := fun_mk (st := sNHeard) l_nh c_nh k_nh
  have b_nh := F_nh.binds (ps := ["suite", "heard"]) fun _ _ _ _ _ _ us hl => match us, hl with | [_, _], _ => rfl
  have d_nh : Dfn K mg "need_heard" f_nh _ ["suite", "heard"] := ⟨PySem.W.mg_of X G a_nh, k_nh, b_nh⟩
  have F_nw := fun_mk (st := sNWrong) l_nw c_nw k_nw
  have b_nw := F_nw.binds (ps := ["wrong"]) fun _ _ _ _ _ _ us hl => match us, hl with | [_], _ => rfl
  have d_nw : Dfn K mg "need_wrong" f_nw _ ["wrong"] := ⟨PySem.W.mg_of X G a_nw, k_nw, b_nw⟩
  have F_lm := fun_mk (st := sLotsMet) l_lm c_lm k_lm
  have b_lm := F_lm.binds (ps := ["row", "size"]) fun _ _ _ _ _ _ us hl => match us, hl with | [_, _], _ => rfl
  have d_lm : Dfn K mg "lots_met" f_lm _ ["row", "size"] := ⟨PySem.W.mg_of X G a_lm, k_lm, b_lm⟩
  have F_mk := fun_mk (st := sLotMarks) l_mk c_mk k_mk
  have b_mk := F_mk.binds (ps := ["rows", "size"]) fun _ _ _ _ _ _ us hl => match us, hl with | [_, _], _ => rfl
  have d_mk : Dfn K mg "lot_marks" f_mk _ ["rows", "size"] := ⟨PySem.W.mg_of X G a_mk, k_mk, b_mk⟩
  have F_lk := fun_mk (st := sLetMarks) l_lk c_lk k_lk
  have b_lk := F_lk.binds (ps := ["rig", "shape"]) fun _ _ _ _ _ _ us hl => match us, hl with | [_, _], _ => rfl
  have d_lk : Dfn K mg "let_marks" f_lk _ ["rig", "shape"] := ⟨PySem.W.mg_of X G a_lk, k_lk, b_lk⟩
  have F_cf := fun_mk (st := sCanFail) l_cf c_cf k_cf
  have b_cf := F_cf.binds (ps := ["rig", "shape"]) fun _ _ _ _ _ _ us hl => match us, hl with | [_, _], _ => rfl
  have d_cf : Dfn K mg "lots_that_can_fail" f_cf _ ["rig", "shape"] := ⟨PySem.W.mg_of X G a_cf, k_cf, b_cf⟩
  have F_co := fun_mk (st := sCount) l_co c_co k_co
  have b_co := F_co.binds (ps := ["many_lots", "most"]) fun _ _ _ _ _ _ us hl => match us, hl with | [_, _], _ => rfl
  have d_co : Dfn K mg "count_faults" f_co _ ["many_lots", "most"] := ⟨PySem.W.mg_of X G a_co, k_co, b_co⟩
  have F_af := fun_mk (st := sAll) l_af c_af k_af
  have b_af := F_af.binds (ps := ["rig", "shape"]) fun _ _ _ _ _ _ us hl => match us, hl with | [_, _], _ => rfl
  have d_af : Dfn K mg "all_faults" f_af _ ["rig", "shape"] := ⟨PySem.W.mg_of X G a_af, k_af, b_af⟩
  have F_fa := fun_mk (st := sFail) l_fa c_fa k_fa
  have b_fa := F_fa.binds (ps := ["rig", "shape", "faults"]) fun _ _ _ _ _ _ us hl => match us, hl with | [_, _, _], _ => rfl
  have d_fa : Dfn K mg "failing_rows" f_fa _ ["rig", "shape", "faults"] := ⟨PySem.W.mg_of X G a_fa, k_fa, b_fa⟩
  have F_lw := fun_mk (st := sLeast) l_lw c_lw k_lw
  have b_lw := F_lw.binds (ps := ["rig", "shape", "suite", "heard"]) fun _ _ _ _ _ _ us hl => match us, hl with | [_, _, _, _], _ => rfl
  have d_lw : Dfn K mg "least_wrong" f_lw _ ["rig", "shape", "suite", "heard"] := ⟨PySem.W.mg_of X G a_lw, k_lw, b_lw⟩
  have F_hf := fun_mk (st := sForm) l_hf c_hf k_hf
  have b_hf := F_hf.binds (ps := ["paper", "word", "many"]) fun _ _ _ _ _ _ us hl => match us, hl with | [_, _, _], _ => rfl
  have d_hf : Dfn K mg "has_form" f_hf _ ["paper", "word", "many"] := ⟨PySem.W.mg_of X G a_hf, k_hf, b_hf⟩
  have F_na := fun_mk (st := sNames) l_na c_na k_na
  have b_na := F_na.binds (ps := ["rig", "shape", "suite"]) fun _ _ _ _ _ _ us hl => match us, hl with | [_, _, _], _ => rfl
  have d_na : Dfn K mg "names" f_na _ ["rig", "shape", "suite"] := ⟨PySem.W.mg_of X G a_na, k_na, b_na⟩
  have F_be := fun_mk (st := sBears) l_be c_be k_be
  have b_be := F_be.binds (ps := ["rig", "shape", "suite", "wrong"]) fun _ _ _ _ _ _ us hl => match us, hl with | [_, _, _, _], _ => rfl
  have d_be : Dfn K mg "bears" f_be _ ["rig", "shape", "suite", "wrong"] := ⟨PySem.W.mg_of X G a_be, k_be, b_be⟩
  have F_cn := fun_mk (st := sCheck) l_cn c_cn k_cn
  have b_cn := F_cn.binds (ps := ["rig", "shape", "suite", "wrong", "paper"]) fun _ _ _ _ _ _ us hl => match us, hl with | [_, _, _, _, _], _ => rfl
  have d_cn : Dfn K mg "check_names" f_cn _ ["rig", "shape", "suite", "wrong", "paper"] := ⟨PySem.W.mg_of X G a_cn, k_cn, b_cn⟩
  have F_mi := fun_mk (st := sMixed) l_mi c_mi k_mi
  have b_mi := F_mi.binds (ps := ["cell", "n"]) fun _ _ _ _ _ _ us hl => match us, hl with | [_, _], _ => rfl
  have d_mi : Dfn K mg "_law_mixed" f_mi _ ["cell", "n"] := ⟨PySem.W.mg_of X G a_mi, k_mi, b_mi⟩
  have F_fo := fun_mk (st := sFolded) l_fo c_fo k_fo
  have b_fo := F_fo.binds (ps := ["script"]) fun _ _ _ _ _ _ us hl => match us, hl with | [_], _ => rfl
  have d_fo : Dfn K mg "_law_folded" f_fo _ ["script"] := ⟨PySem.W.mg_of X G a_fo, k_fo, b_fo⟩
  have F_dr := fun_mk (st := sDraw) l_dr c_dr k_dr
  have b_dr := F_dr.binds (ps := ["m", "limit"]) fun _ _ _ _ _ _ us hl => match us, hl with | [_, _], _ => rfl
  have d_dr : Dfn K mg "_law_draw" f_dr _ ["m", "limit"] := ⟨PySem.W.mg_of X G a_dr, k_dr, b_dr⟩
  have F_bg := fun_mk (st := sBegun) l_bg c_bg k_bg
  have b_bg := F_bg.binds (ps := ["script"]) fun _ _ _ _ _ _ us hl => match us, hl with | [_], _ => rfl
  have d_bg : Dfn K mg "_law_begun" f_bg _ ["script"] := ⟨PySem.W.mg_of X G a_bg, k_bg, b_bg⟩
  have F_li := fun_mk (st := sLike) l_li c_li k_li
  have b_li := F_li.binds (ps := ["heard", "due"]) fun _ _ _ _ _ _ us hl => match us, hl with | [_, _], _ => rfl
  have d_li : Dfn K mg "_law_like" f_li _ ["heard", "due"] := ⟨PySem.W.mg_of X G a_li, k_li, b_li⟩
  have F_of := fun_mk (st := sOf) l_of c_of k_of
  have b_of := F_of.binds (ps := ["m", "some"]) fun _ _ _ _ _ _ us hl => match us, hl with | [_, _], _ => rfl
  have d_of : Dfn K mg "_law_of" f_of _ ["m", "some"] := ⟨PySem.W.mg_of X G a_of, k_of, b_of⟩
  have F_od := fun_mk (st := sOdds) l_od c_od k_od
  have b_od := F_od.binds (ps := []) fun _ _ _ _ _ _ us hl => match us, hl with | [], _ => rfl
  have d_od : Dfn K mg "_law_odds" f_od _ [] := ⟨PySem.W.mg_of X G a_od, k_od, b_od⟩
  have F_mr := fun_mk (st := sMarks) l_mr c_mr k_mr
  have b_mr := F_mr.binds (ps := ["error"]) fun _ _ _ _ _ _ us hl => match us, hl with | [_], _ => rfl
  have d_mr : Dfn K mg "_law_marks" f_mr _ ["error"] := ⟨PySem.W.mg_of X G a_mr, k_mr, b_mr⟩
  have F_ab := fun_mk (st := sAbove) l_ab c_ab k_ab
  have b_ab := F_ab.binds (ps := ["error"]) fun _ _ _ _ _ _ us hl => match us, hl with | [_], _ => rfl
  have d_ab : Dfn K mg "_law_above" f_ab _ ["error"] := ⟨PySem.W.mg_of X G a_ab, k_ab, b_ab⟩
  have F_md := fun_mk (st := sMR) l_md c_md k_md
  have b_md := F_md.binds (ps := ["thing"]) fun _ _ _ _ _ _ us hl => match us, hl with | [_], _ => rfl
  have d_md : Dfn K mg "_law_made_right" f_md _ ["thing"] := ⟨PySem.W.mg_of X G a_md, k_md, b_md⟩
  have F_rd := fun_mk (st := sRaised) l_rd c_rd k_rd
  have b_rd := F_rd.binds (ps := ["call"]) fun _ _ _ _ _ _ us hl => match us, hl with | [_], _ => rfl
  have d_rd : Dfn K mg "_law_raised" f_rd _ ["call"] := ⟨PySem.W.mg_of X G a_rd, k_rd, b_rd⟩
  have F_rr := fun_mk (st := sRR) l_rr c_rr k_rr
  have b_rr := F_rr.binds (ps := []) fun _ _ _ _ _ _ us hl => match us, hl with | [], _ => rfl
  have d_rr : Dfn K mg "_law_raised_right" f_rr _ [] := ⟨PySem.W.mg_of X G a_rr, k_rr, b_rr⟩
  have F_la := fun_mk (st := sLaw) l_la c_la k_la
  have F0 := fun_mk (st := sRigI) lI0 cI0 kI0
  have b0 := F0.binds (ps := ["self", "path"]) fun _ _ _ _ _ _ us hl => match us, hl with | [_, _], _ => rfl
  have ec0 : ExcC K c0 := ⟨ga0, gg0, sb0, by unfold PySem.W.hasDictIn; rw [cls_of x0]; rfl, cc0, hn, ht, oo0⟩
  have xb0 : XB K c0 "ValueError.__new__" ve := xb_of x0 (tailV c9) sa0 kc0
  have F1 := fun_mk (st := sShapeI) lI1 cI1 kI1
  have b1 := F1.binds (ps := ["self", "value"]) fun _ _ _ _ _ _ us hl => match us, hl with | [_, _], _ => rfl
  have ec1 : ExcC K c1 := ⟨ga1, gg1, sb1, by unfold PySem.W.hasDictIn; rw [cls_of x1]; rfl, cc1, hn, ht, oo1⟩
  have xb1 : XB K c1 "ValueError.__new__" ve := xb_of x1 (tailV c9) sa1 kc1
  have F2 := fun_mk (st := sLotI) lI2 cI2 kI2
  have b2 := F2.binds (ps := ["self", "value"]) fun _ _ _ _ _ _ us hl => match us, hl with | [_, _], _ => rfl
  have ec2 : ExcC K c2 := ⟨ga2, gg2, sb2, by unfold PySem.W.hasDictIn; rw [cls_of x2]; rfl, cc2, hn, ht, oo2⟩
  have xb2 : XB K c2 "ValueError.__new__" ve := xb_of x2 (tailV c9) sa2 kc2
  have F3 := fun_mk (st := sFaultsI) lI3 cI3 kI3
  have b3 := F3.binds (ps := ["self", "value"]) fun _ _ _ _ _ _ us hl => match us, hl with | [_, _], _ => rfl
  have ec3 : ExcC K c3 := ⟨ga3, gg3, sb3, by unfold PySem.W.hasDictIn; rw [cls_of x3]; rfl, cc3, hn, ht, oo3⟩
  have xb3 : XB K c3 "ValueError.__new__" ve := xb_of x3 (tailV c9) sa3 kc3
  have F4 := fun_mk (st := sSuiteI) lI4 cI4 kI4
  have b4 := F4.binds (ps := ["self", "place"]) fun _ _ _ _ _ _ us hl => match us, hl with | [_, _], _ => rfl
  have ec4 : ExcC K c4 := ⟨ga4, gg4, sb4, by unfold PySem.W.hasDictIn; rw [cls_of x4]; rfl, cc4, hn, ht, oo4⟩
  have xb4 : XB K c4 "ValueError.__new__" ve := xb_of x4 (tailV c9) sa4 kc4
  have F5 := fun_mk (st := sOutI) lI5 cI5 kI5
  have b5 := F5.binds (ps := ["self", "value"]) fun _ _ _ _ _ _ us hl => match us, hl with | [_, _], _ => rfl
  have ec5 : ExcC K c5 := ⟨ga5, gg5, sb5, by unfold PySem.W.hasDictIn; rw [cls_of x5]; rfl, cc5, hn, ht, oo5⟩
  have xb5 : XB K c5 "ValueError.__new__" ve := xb_of x5 (tailV c9) sa5 kc5
  have F6 := fun_mk (st := sNumI) lI6 cI6 kI6
  have b6 := F6.binds (ps := ["self", "value"]) fun _ _ _ _ _ _ us hl => match us, hl with | [_, _], _ => rfl
  have ec6 : ExcC K c6 := ⟨ga6, gg6, sb6, by unfold PySem.W.hasDictIn; rw [cls_of x6]; rfl, cc6, hn, ht, oo6⟩
  have xb6 : XB K c6 "ValueError.__new__" ve := xb_of x6 (tailV c9) sa6 kc6
  have F7 := fun_mk (st := sPaperI) lI7 cI7 kI7
  have b7 := F7.binds (ps := ["self", "word"]) fun _ _ _ _ _ _ us hl => match us, hl with | [_, _], _ => rfl
  have ec7 : ExcC K c7 := ⟨ga7, gg7, sb7, by unfold PySem.W.hasDictIn; rw [cls_of x7]; rfl, cc7, hn, ht, oo7⟩
  have xb7 : XB K c7 "ValueError.__new__" ve := xb_of x7 (tailV c9) sa7 kc7
  have F8 := fun_mk (st := sGreatI) lI8 cI8 kI8
  have b8 := F8.binds (ps := ["self", "most"]) fun _ _ _ _ _ _ us hl => match us, hl with | [_, _], _ => rfl
  have ec8 : ExcC K c8 := ⟨ga8, gg8, sb8, by unfold PySem.W.hasDictIn; rw [cls_of x8]; rfl, cc8, hn, ht, oo8⟩
  have xb8 : XB K c8 "OverflowError.__new__" oeB := xb_of x8 tailO sa8 kc8
  have ec9 : ExcC K c9 := ⟨ga9, gg9, sb9, hd9, cc9, hn, ht, oo9⟩
  have FEt : FE K mg c9 := ⟨PySem.W.mg_of X G n9, fga, frd, ffc⟩
  have KS : Kits K c := ⟨lt9 ⟨ec0, lt9 q0_0 q0_1 q0_2 q0_3 q0_4 q0_5 q0_6 q0_7 q0_8⟩ ⟨ec1, lt9 q1_0 q1_1 q1_2 q1_3 q1_4 q1_5 q1_6 q1_7 q1_8⟩ ⟨ec2, lt9 q2_0 q2_1 q2_2 q2_3 q2_4 q2_5 q2_6 q2_7 q2_8⟩ ⟨ec3, lt9 q3_0 q3_1 q3_2 q3_3 q3_4 q3_5 q3_6 q3_7 q3_8⟩ ⟨ec4, lt9 q4_0 q4_1 q4_2 q4_3 q4_4 q4_5 q4_6 q4_7 q4_8⟩ ⟨ec5, lt9 q5_0 q5_1 q5_2 q5_3 q5_4 q5_5 q5_6 q5_7 q5_8⟩ ⟨ec6, lt9 q6_0 q6_1 q6_2 q6_3 q6_4 q6_5 q6_6 q6_7 q6_8⟩ ⟨ec7, lt9 q7_0 q7_1 q7_2 q7_3 q7_4 q7_5 q7_6 q7_7 q7_8⟩ ⟨ec8, lt9 q8_0 q8_1 q8_2 q8_3 q8_4 q8_5 q8_6 q8_7 q8_8⟩, lt9 r0_9 r1_9 r2_9 r3_9 r4_9 r5_9 r6_9 r7_9 r8_9, lt9 r0_8 r1_8 r2_8 r3_8 r4_8 r5_8 r6_8 r7_8 r8_8⟩
  have K6 : Kit6 K c := ⟨lt9 q0_9 q1_9 q2_9 q3_9 q4_9 q5_9 q6_9 q7_9 q8_9, lt9 q0_10 q1_10 q2_10 q3_10 q4_10 q5_10 q6_10 q7_10 q8_10, lt9 q0_11 q1_11 q2_11 q3_11 q4_11 q5_11 q6_11 q7_11 q8_11, lt9 q0_12 q1_12 q2_12 q3_12 q4_12 q5_12 q6_12 q7_12 q8_12, lt9 q0_13 q1_13 q2_13 q3_13 q4_13 q5_13 q6_13 q7_13 q8_13, lt9 q0_14 q1_14 q2_14 q3_14 q4_14 q5_14 q6_14 q7_14 q8_14⟩
  have KF : KitF K c := ⟨ex9, kc9, ec9, lt9 q9_0 q9_1 q9_2 q9_3 q9_4 q9_5 q9_6 q9_7 q9_8, q9_9, q9_10, q9_11, q9_12, q9_13, q9_14⟩
  refine ⟨PySem.W.fnOf "law" "law" (defArgs sLaw) (defBody sLaw) (defScope sLaw) .none kV_la dc_la pm_la an_la cd_la ct_la, cA, tA, spLaw K [(tA, qLam)], PySem.W.codeHd_of_K X cT, hT, nT, fun s v => .of_eq rfl, fun H a ns hl hH hS => ⟨a, ns, rfl, hS, hl, fun p hp => by
    rw [List.mem_singleton.mp hp]
    exact hH, fun _ => rfl⟩, fun base _ _ TB => ?_⟩
  have O0 : OwG l.prog w K mg base "ValueError.__new__" KR.ve Okd "BadRig" "path" c0 := ⟨PySem.W.mg_of X G n0, xb0, taker_of no0, sb0, ty0, f0, _, iI0, tI0, (ok_rigI F0 FEt), b0⟩
  have V0 : OwV l.prog w K mg base "ValueError.__new__" KR.ve Okd "BadRig" "path" c0 := ⟨PySem.W.mg_of X G n0, xb0, no0, taker_of no0, ec0, f0, _, iI0, tI0, (ok_rigI F0 FEt), b0, fun s v0 ws hl => match ws, hl with | [_], _ => .of_eq rfl⟩
  have O1 : OwG l.prog w K mg base "ValueError.__new__" KR.ve Any "BadShape" "value" c1 := ⟨PySem.W.mg_of X G n1, xb1, taker_of no1, sb1, ty1, f1, _, iI1, tI1, (ok_shapeI F1 FEt), b1⟩
  have V1 : OwV l.prog w K mg base "ValueError.__new__" KR.ve Any "BadShape" "value" c1 := ⟨PySem.W.mg_of X G n1, xb1, no1, taker_of no1, ec1, f1, _, iI1, tI1, (ok_shapeI F1 FEt), b1, fun s v0 ws hl => match ws, hl with | [_], _ => .of_eq rfl⟩
  have O2 : OwG l.prog w K mg base "ValueError.__new__" KR.ve Any "BadLot" "value" c2 := ⟨PySem.W.mg_of X G n2, xb2, taker_of no2, sb2, ty2, f2, _, iI2, tI2, (ok_lotI F2 FEt), b2⟩
  have V2 : OwV l.prog w K mg base "ValueError.__new__" KR.ve Any "BadLot" "value" c2 := ⟨PySem.W.mg_of X G n2, xb2, no2, taker_of no2, ec2, f2, _, iI2, tI2, (ok_lotI F2 FEt), b2, fun s v0 ws hl => match ws, hl with | [_], _ => .of_eq rfl⟩
  have O3 : OwG l.prog w K mg base "ValueError.__new__" KR.ve Any "BadFaults" "value" c3 := ⟨PySem.W.mg_of X G n3, xb3, taker_of no3, sb3, ty3, f3, _, iI3, tI3, (ok_faultsI F3 FEt), b3⟩
  have V3 : OwV l.prog w K mg base "ValueError.__new__" KR.ve Any "BadFaults" "value" c3 := ⟨PySem.W.mg_of X G n3, xb3, no3, taker_of no3, ec3, f3, _, iI3, tI3, (ok_faultsI F3 FEt), b3, fun s v0 ws hl => match ws, hl with | [_], _ => .of_eq rfl⟩
  have O4 : OwG l.prog w K mg base "ValueError.__new__" KR.ve Okd "BadSuite" "place" c4 := ⟨PySem.W.mg_of X G n4, xb4, taker_of no4, sb4, ty4, f4, _, iI4, tI4, (ok_suiteI F4 FEt), b4⟩
  have V4 : OwV l.prog w K mg base "ValueError.__new__" KR.ve Okd "BadSuite" "place" c4 := ⟨PySem.W.mg_of X G n4, xb4, no4, taker_of no4, ec4, f4, _, iI4, tI4, (ok_suiteI F4 FEt), b4, fun s v0 ws hl => match ws, hl with | [_], _ => .of_eq rfl⟩
  have O5 : OwG l.prog w K mg base "ValueError.__new__" KR.ve Any "BadOutcomes" "value" c5 := ⟨PySem.W.mg_of X G n5, xb5, taker_of no5, sb5, ty5, f5, _, iI5, tI5, (ok_outI F5 FEt), b5⟩
  have V5 : OwV l.prog w K mg base "ValueError.__new__" KR.ve Any "BadOutcomes" "value" c5 := ⟨PySem.W.mg_of X G n5, xb5, no5, taker_of no5, ec5, f5, _, iI5, tI5, (ok_outI F5 FEt), b5, fun s v0 ws hl => match ws, hl with | [_], _ => .of_eq rfl⟩
  have O6 : OwG l.prog w K mg base "ValueError.__new__" KR.ve Any "BadNumber" "value" c6 := ⟨PySem.W.mg_of X G n6, xb6, taker_of no6, sb6, ty6, f6, _, iI6, tI6, (ok_numI F6 FEt), b6⟩
  have V6 : OwV l.prog w K mg base "ValueError.__new__" KR.ve Any "BadNumber" "value" c6 := ⟨PySem.W.mg_of X G n6, xb6, no6, taker_of no6, ec6, f6, _, iI6, tI6, (ok_numI F6 FEt), b6, fun s v0 ws hl => match ws, hl with | [_], _ => .of_eq rfl⟩
  have O7 : OwG l.prog w K mg base "ValueError.__new__" KR.ve Okd "BadPaper" "word" c7 := ⟨PySem.W.mg_of X G n7, xb7, taker_of no7, sb7, ty7, f7, _, iI7, tI7, (ok_paperI F7 FEt), b7⟩
  have V7 : OwV l.prog w K mg base "ValueError.__new__" KR.ve Okd "BadPaper" "word" c7 := ⟨PySem.W.mg_of X G n7, xb7, no7, taker_of no7, ec7, f7, _, iI7, tI7, (ok_paperI F7 FEt), b7, fun s v0 ws hl => match ws, hl with | [_], _ => .of_eq rfl⟩
  have O8 : OwG l.prog w K mg base "OverflowError.__new__" oeB Okd "TooGreat" "most" c8 := ⟨PySem.W.mg_of X G n8, xb8, taker_of no8, sb8, ty8, f8, _, iI8, tI8, (ok_greatI F8 y_OverflowError ofc), b8⟩
  have V8 : OwV l.prog w K mg base "OverflowError.__new__" oeB Okd "TooGreat" "most" c8 := ⟨PySem.W.mg_of X G n8, xb8, no8, taker_of no8, ec8, f8, _, iI8, tI8, (ok_greatI F8 y_OverflowError ofc), b8, fun s v0 ws hl => match ws, hl with | [_], _ => .of_eq rfl⟩
  have VS : Errs l.prog w K mg base c := ⟨V0, V1, V2, V3, V4, V5, V6, V7, V8⟩
  have G_nu1 : FnOk l.prog w K mg base CX0 1 f_nu _ ["value", "least", "most"] spNum := ok_num F_nu y_isinstance y_bool y_int
  have G_tu1 : FnOk l.prog w K mg base CX0 1 f_tu _ ["value", "least", "most"] spTup := ok_tup F_tu y_isinstance y_tuple y_len
  have G_nu2 : FnOk l.prog w K mg base CX0 2 f_nu _ ["value", "least", "most"] spNum := ok_num F_nu y_isinstance y_bool y_int
  have G_tu2 : FnOk l.prog w K mg base CX0 2 f_tu _ ["value", "least", "most"] spTup := ok_tup F_tu y_isinstance y_tuple y_len
  have G_nu3 : FnOk l.prog w K mg base CX0 3 f_nu _ ["value", "least", "most"] spNum := ok_num F_nu y_isinstance y_bool y_int
  have G_tu3 : FnOk l.prog w K mg base CX0 3 f_tu _ ["value", "least", "most"] spTup := ok_tup F_tu y_isinstance y_tuple y_len
  have G_se : FnOk l.prog w K mg base CX0 2 f_se _ ["values", "value"] spSet := ok_set F_se d_nu G_nu1 d_tu G_tu1 y_len
  have G_ss : FnOk l.prog w K mg base CX0 3 f_ss _ ["values", "value", "least", "most"] spStgs := ok_stgs F_ss d_se G_se d_tu G_tu2
  have G_lo : FnOk l.prog w K mg base CX0 4 f_lo _ ["values", "value"] spLot := ok_lot F_lo d_ss G_ss (PySem.W.mg_of X G g3)
  have G_ro : FnOk l.prog w K mg base CX0 2 f_ro _ ["values", "value"] spRow := ok_row F_ro d_nu G_nu1 d_tu G_tu1 y_len y_all y_zip
  have G_fw : FnOk l.prog w K mg base CX0 5 f_fw _ ["values", "lots"] spFw := ok_fw F_fw d_lo G_lo y_enumerate
  have G_va : FnX l.prog w K mg base 3 f_va _ ["values"] (spVals c0) := ok_vals F_va O0.ow d_nu G_nu1 d_tu G_tu1 (PySem.W.mg_of X G g0) (PySem.W.mg_of X G g1) (PySem.W.mg_of X G g2) y_enumerate
  have G_ba : FnX l.prog w K mg base 6 f_ba _ ["values", "barred"] (spBar c0) := ok_bar F_ba O0.ow d_tu G_tu1 d_fw G_fw (PySem.W.mg_of X G g4)
  have G_ri : FnX l.prog w K mg base 7 f_ri _ ["rig"] (spRig c0) := ok_rig F_ri O0.ow d_tu G_tu1 d_va G_va d_ba G_ba
  have G_nl : FnX l.prog w K mg base 8 f_nl _ ["rig", "lot"] (spNLot c0 c2) := ok_nlot F_nl O2.ow d_ri G_ri d_lo G_lo
  have G_me : FnOk l.prog w K mg base CX0 1 f_me _ ["row", "lot"] spMeets := ok_meets F_me y_all
  have G_ma : FnOk l.prog w K mg base CX0 2 f_ma _ ["row", "lots"] spMeetsAny := ok_meetsAny F_ma d_me G_me y_any
  have G_le : FnX l.prog w K mg base 8 f_le _ ["rig", "value"] (spLet c0) := ok_let F_le d_ri G_ri d_ro G_ro d_ma G_ma
  have G_lr : FnX l.prog w K mg base 8 f_lr _ ["rig"] (spLetRows c0) := ok_letRows F_lr d_ri G_ri d_ma G_ma y_range y_tuple
  have G_rm : FnX l.prog w K mg base 9 f_rm _ ["rig", "lot"] (spMeeting c0 c2) := ok_meeting F_rm d_nl G_nl d_lr G_lr d_me G_me y_tuple
  have G_im : FnX l.prog w K mg base 10 f_im _ ["rig", "lot"] (spIsMet c0 c2) := ok_isMet F_im d_rm G_rm y_len
  have G_sh : FnOk l.prog w K mg base CX0 2 f_sh _ ["values", "value"] spShape := ok_shape F_sh d_nu G_nu1 d_tu G_tu1 (PySem.W.mg_of X G g3) (PySem.W.mg_of X G g5) y_len y_min
  have G_nsh : FnX l.prog w K mg base 8 f_nsh _ ["rig", "shape"] (spNShape c0 c1) := ok_nshape F_nsh O1.ow d_ri G_ri d_sh G_sh
  have G_isf : FnOk l.prog w K mg base CX0 2 f_isf _ ["rig", "shape", "marks", "value"] spIsFaults0 := ok_isFaults0 F_isf d_tu G_tu1
  have G_lm : FnOk l.prog w K mg base CX0 1 f_lm _ ["row", "size"] spLM := ok_lotsMet F_lm (PySem.W.mg_of X G ncomb) y_range y_len y_int y_tuple
  have G_mk : FnOk l.prog w K mg base CX0 2 f_mk _ ["rows", "size"] (spMk l.prog w) := ok_lotMarks F_mk d_lm G_lm y_enumerate
  have G_lk : FnX l.prog w K mg base 9 f_lk _ ["rig", "shape"] (spLetMk l.prog w c0 c1) := ok_letMarks F_lk d_nsh G_nsh d_lr G_lr d_mk G_mk
  have G_nf : FnX l.prog w K mg base 10 f_nf _ ["rig", "shape", "faults"] (spNFaults0 c0 c1 c3) := ok_nfaults0 F_nf O3.ow d_nsh G_nsh d_lk G_lk d_isf G_isf
  have G_su : FnX l.prog w K mg base 9 f_su _ ["rig", "suite"] (spNSuite c0 c4) := ok_nsuite F_su O4.ow d_ri G_ri d_le G_le (PySem.W.mg_of X G g6) y_isinstance y_list y_tuple y_len y_enumerate
  have G_nr : FnX l.prog w K mg base 10 f_nr _ ["rig", "shape", "suite"] (spNRows c0 c1 c4) := ok_nrows F_nr d_nsh G_nsh d_su G_su
  have G_io : FnOk l.prog w K mg base CX0 2 f_io _ ["suite", "value"] spIsOut0 := ok_isOut0 F_io d_tu G_tu1 y_len
  have G_nh : FnX l.prog w K mg base 4 f_nh _ ["suite", "heard"] (spNHeard0 c5) := ok_nheard0 F_nh O5.ow d_io G_io
  have G_nn : FnX l.prog w K mg base 3 f_nn _ ["value", "least", "most"] (spNNum c6) := ok_nnum F_nn O6.ow d_nu G_nu1
  have G_nw : FnX l.prog w K mg base 4 f_nw _ ["wrong"] (spNWrong c6) := ok_nwrong F_nw d_nn G_nn (PySem.W.mg_of X G g8)
  have G_cf : FnX l.prog w K mg base 10 f_cf _ ["rig", "shape"] (spCan c0 c1) := ok_can F_cf d_lk G_lk y_tuple y_sorted y_list
  have G_co : FnOk l.prog w K mg base CX0 1 f_co _ ["many_lots", "most"] spCount := ok_count F_co
  have G_af : FnX l.prog w K mg base 11 f_af _ ["rig", "shape"] (spAll0 c8) := ok_all0 F_af O8 d_cf G_cf d_co G_co (PySem.W.mg_of X G g7) y_len
  have G_fa : FnX l.prog w K mg base 11 f_fa _ ["rig", "shape", "faults"] (spFail0 c3) := ok_fail0 F_fa d_nf G_nf
  have G_na : FnX l.prog w K mg base 11 f_na _ ["rig", "shape", "suite"] (spNames0 c4) := ok_names0 F_na d_nr G_nr
  have G_lw : FnX l.prog w K mg base 11 f_lw _ ["rig", "shape", "suite", "heard"] (spLeast0 c5) := ok_least0 F_lw d_nr G_nr d_nh G_nh
  have G_be : FnX l.prog w K mg base 11 f_be _ ["rig", "shape", "suite", "wrong"] (spBears0 c6) := ok_bears0 F_be d_nr G_nr d_nw G_nw
  have G_hf : FnOk l.prog w K mg base CX0 2 f_hf _ ["paper", "word", "many"] spForm0 := ok_form0 F_hf d_tu G_tu1
  have G_cn : FnX l.prog w K mg base 11 f_cn _ ["rig", "shape", "suite", "wrong", "paper"] (spCheck0 c7) := ok_check0 F_cn O7.ow d_nr G_nr d_nw G_nw d_hf G_hf
  have CS : Calls l.prog w K mg base c := ⟨⟨_, _, d_ri, G_ri⟩, ⟨_, _, d_nsh, G_nsh⟩, ⟨_, _, d_im, G_im⟩, ⟨_, _, d_fa, G_fa⟩, ⟨_, _, d_na, G_na⟩, ⟨_, _, d_lw, G_lw⟩, ⟨_, _, d_be, G_be⟩, ⟨_, _, d_cn, G_cn⟩, ⟨_, _, d_af, G_af⟩⟩
  have G_mr : FnG l.prog w K mg base 1 f_mr _ ["error"] (spMarks K c) := ok_marks F_mr NM y_isinstance
  have G_ab : FnG l.prog w K mg base 1 f_ab _ ["error"] (spAbove K c) := ok_above F_ab NM y_isinstance
  have G_li : FnG l.prog w K mg base 1 f_li _ ["heard", "due"] spLike := ok_like F_li y_repr
  have G_od : FnG l.prog w K mg base 1 f_od _ [] spOdds := ok_odds F_od
  have G_dr : FnOk l.prog w K mg base CX0 2 f_dr _ ["m", "limit"] spDraw := ok_draw F_dr F_mi b_mi (PySem.W.mg_of X G a_mi) y_int y_len
  have G_of : FnOk l.prog w K mg base CX0 3 f_of _ ["m", "some"] spOf := ok_of F_of d_dr G_dr y_len
  have G_bg : FnOk l.prog w K mg base CX0 2 f_bg _ ["script"] (spBegun K) := ok_begun F_bg F_fo b_fo (PySem.W.mg_of X G a_fo) y_int y_range y_enumerate
  have G_md : FnG l.prog w K mg base 3 f_md _ ["thing"] spMR := ok_MR F_md VS KS K6 d_li G_li d_mr G_mr d_ab G_ab y_enumerate y_range
  have GP : FnP l.prog w K mg base 1 f_mr _ ["error"] (spMarksP K c) := ok_marksP F_mr NM y_isinstance
  have G_rr : FnG l.prog w K mg base 14 f_rr _ [] (spRR [(tA, qLam)]) := ok_RR l_rr c_rr l_rd c_rd (PySem.W.mg_of X G a_rd) k_rd b_rd NM GP (PySem.W.mg_of X G a_mr) k_mr b_mr CS KS y_range TB (List.mem_singleton.mpr rfl) (fun p hp _ => by rw [List.mem_singleton.mp hp])
  exact ok_law F_la NM KF d_bg G_bg d_of G_of d_od G_od d_md G_md d_mr G_mr d_ab G_ab d_rr G_rr y_range y_min y_len
end K17

set_option Elab.async false
set_option linter.all false
set_option maxRecDepth 100000
open PySem PySem.W PyProof.Rows
set_option maxRecDepth 100000 in
set_option maxHeartbeats 0 in
theorem PySem.Challenge.cw_rowsthatname_k17_errors_of_the_first_par_holds : PySem.Challenge.rw_rowsthatname_k17_errors_of_the_first_par.Holds := by
  w_on; o_law; k_head; (case hw => w_witness2)
  k_fill
  refine KG.walk_ofTG (l := PySem.Challenge.rw_rowsthatname_k17_errors_of_the_first_par) (n := 63) (k := 15) (x := "script") rfl (by decide) rfl ⟨rfl, by decide, by decide⟩ (fun w h Y => PySem.W.km_in_of Y) ?F
  case F =>
    intro w mg fa h Y KX G hmg
    refine' K17.all_mk 627 KX G hmg (PySem.W.km_tabs_of Y 627 (by decide)) ?zz_n0 ?zz_n1 ?zz_n2 ?zz_n3 ?zz_n4 ?zz_n5 ?zz_n6 ?zz_n7 ?zz_n8 ?zz_n9 ?zz_ncomb ?zz_g0 ?zz_g1 ?zz_g2 ?zz_g3 ?zz_g4 ?zz_g5 ?zz_g6 ?zz_g7 ?zz_g8 ?zz_a_nu ?zz_l_nu ?zz_c_nu ?zz_k_nu ?zz_a_nn ?zz_l_nn ?zz_c_nn ?zz_k_nn ?zz_a_tu ?zz_l_tu ?zz_c_tu ?zz_k_tu ?zz_a_se ?zz_l_se ?zz_c_se ?zz_k_se ?zz_a_ss ?zz_l_ss ?zz_c_ss ?zz_k_ss ?zz_a_lo ?zz_l_lo ?zz_c_lo ?zz_k_lo ?zz_a_ro ?zz_l_ro ?zz_c_ro ?zz_k_ro ?zz_a_fw ?zz_l_fw ?zz_c_fw ?zz_k_fw ?zz_a_va ?zz_l_va ?zz_c_va ?zz_k_va ?zz_a_ba ?zz_l_ba ?zz_c_ba ?zz_k_ba ?zz_a_ri ?zz_l_ri ?zz_c_ri ?zz_k_ri ?zz_a_nl ?zz_l_nl ?zz_c_nl ?zz_k_nl ?zz_a_me ?zz_l_me ?zz_c_me ?zz_k_me ?zz_a_ma ?zz_l_ma ?zz_c_ma ?zz_k_ma ?zz_a_le ?zz_l_le ?zz_c_le ?zz_k_le ?zz_a_lr ?zz_l_lr ?zz_c_lr ?zz_k_lr ?zz_a_rm ?zz_l_rm ?zz_c_rm ?zz_k_rm ?zz_a_im ?zz_l_im ?zz_c_im ?zz_k_im ?zz_a_sh ?zz_l_sh ?zz_c_sh ?zz_k_sh ?zz_a_nsh ?zz_l_nsh ?zz_c_nsh ?zz_k_nsh ?zz_a_isf ?zz_l_isf ?zz_c_isf ?zz_k_isf ?zz_a_nf ?zz_l_nf ?zz_c_nf ?zz_k_nf ?zz_a_su ?zz_l_su ?zz_c_su ?zz_k_su ?zz_a_nr ?zz_l_nr ?zz_c_nr ?zz_k_nr ?zz_a_io ?zz_l_io ?zz_c_io ?zz_k_io ?zz_a_nh ?zz_l_nh ?zz_c_nh ?zz_k_nh ?zz_a_nw ?zz_l_nw ?zz_c_nw ?zz_k_nw ?zz_a_lm ?zz_l_lm ?zz_c_lm ?zz_k_lm ?zz_a_mk ?zz_l_mk ?zz_c_mk ?zz_k_mk ?zz_a_lk ?zz_l_lk ?zz_c_lk ?zz_k_lk ?zz_a_cf ?zz_l_cf ?zz_c_cf ?zz_k_cf ?zz_a_co ?zz_l_co ?zz_c_co ?zz_k_co ?zz_a_af ?zz_l_af ?zz_c_af ?zz_k_af ?zz_a_fa ?zz_l_fa ?zz_c_fa ?zz_k_fa ?zz_a_lw ?zz_l_lw ?zz_c_lw ?zz_k_lw ?zz_a_hf ?zz_l_hf ?zz_c_hf ?zz_k_hf ?zz_a_na ?zz_l_na ?zz_c_na ?zz_k_na ?zz_a_be ?zz_l_be ?zz_c_be ?zz_k_be ?zz_a_cn ?zz_l_cn ?zz_c_cn ?zz_k_cn ?zz_a_mi ?zz_l_mi ?zz_c_mi ?zz_k_mi ?zz_a_fo ?zz_l_fo ?zz_c_fo ?zz_k_fo ?zz_a_dr ?zz_l_dr ?zz_c_dr ?zz_k_dr ?zz_a_bg ?zz_l_bg ?zz_c_bg ?zz_k_bg ?zz_a_li ?zz_l_li ?zz_c_li ?zz_k_li ?zz_a_of ?zz_l_of ?zz_c_of ?zz_k_of ?zz_a_od ?zz_l_od ?zz_c_od ?zz_k_od ?zz_a_mr ?zz_l_mr ?zz_c_mr ?zz_k_mr ?zz_a_ab ?zz_l_ab ?zz_c_ab ?zz_k_ab ?zz_a_md ?zz_l_md ?zz_c_md ?zz_k_md ?zz_a_rd ?zz_l_rd ?zz_c_rd ?zz_k_rd ?zz_a_rr ?zz_l_rr ?zz_c_rr ?zz_k_rr ?zz_a_la ?zz_l_la ?zz_c_la ?zz_k_la ?zz_cT ?zz_nT ?zz_x0 ?zz_sa0 ?zz_ga0 ?zz_gg0 ?zz_sb0 ?zz_cc0 ?zz_oo0 ?zz_kc0 ?zz_ty0 ?zz_no0 ?zz_iI0 ?zz_tI0 ?zz_lI0 ?zz_cI0 ?zz_kI0 ?zz_x1 ?zz_sa1 ?zz_ga1 ?zz_gg1 ?zz_sb1 ?zz_cc1 ?zz_oo1 ?zz_kc1 ?zz_ty1 ?zz_no1 ?zz_iI1 ?zz_tI1 ?zz_lI1 ?zz_cI1 ?zz_kI1 ?zz_x2 ?zz_sa2 ?zz_ga2 ?zz_gg2 ?zz_sb2 ?zz_cc2 ?zz_oo2 ?zz_kc2 ?zz_ty2 ?zz_no2 ?zz_iI2 ?zz_tI2 ?zz_lI2 ?zz_cI2 ?zz_kI2 ?zz_x3 ?zz_sa3 ?zz_ga3 ?zz_gg3 ?zz_sb3 ?zz_cc3 ?zz_oo3 ?zz_kc3 ?zz_ty3 ?zz_no3 ?zz_iI3 ?zz_tI3 ?zz_lI3 ?zz_cI3 ?zz_kI3 ?zz_x4 ?zz_sa4 ?zz_ga4 ?zz_gg4 ?zz_sb4 ?zz_cc4 ?zz_oo4 ?zz_kc4 ?zz_ty4 ?zz_no4 ?zz_iI4 ?zz_tI4 ?zz_lI4 ?zz_cI4 ?zz_kI4 ?zz_x5 ?zz_sa5 ?zz_ga5 ?zz_gg5 ?zz_sb5 ?zz_cc5 ?zz_oo5 ?zz_kc5 ?zz_ty5 ?zz_no5 ?zz_iI5 ?zz_tI5 ?zz_lI5 ?zz_cI5 ?zz_kI5 ?zz_x6 ?zz_sa6 ?zz_ga6 ?zz_gg6 ?zz_sb6 ?zz_cc6 ?zz_oo6 ?zz_kc6 ?zz_ty6 ?zz_no6 ?zz_iI6 ?zz_tI6 ?zz_lI6 ?zz_cI6 ?zz_kI6 ?zz_x7 ?zz_sa7 ?zz_ga7 ?zz_gg7 ?zz_sb7 ?zz_cc7 ?zz_oo7 ?zz_kc7 ?zz_ty7 ?zz_no7 ?zz_iI7 ?zz_tI7 ?zz_lI7 ?zz_cI7 ?zz_kI7 ?zz_x8 ?zz_sa8 ?zz_ga8 ?zz_gg8 ?zz_sb8 ?zz_cc8 ?zz_oo8 ?zz_kc8 ?zz_ty8 ?zz_no8 ?zz_iI8 ?zz_tI8 ?zz_lI8 ?zz_cI8 ?zz_kI8 ?zz_ga9 ?zz_gg9 ?zz_sb9 ?zz_hd9 ?zz_cc9 ?zz_oo9 ?zz_ex9 ?zz_kc9 ?zz_hn ?zz_ht ?zz_fga ?zz_frd ?zz_ffc ?zz_ofc ?zz_z_int ?zz_z_range ?zz_z_enumerate ?zz_z_len ?zz_z_min ?zz_z_isinstance ?zz_z_repr ?zz_z_bool ?zz_z_tuple ?zz_z_all ?zz_z_any ?zz_z_zip ?zz_z_list ?zz_z_sorted ?zz_z_OverflowError ?zz_z_ValueError ?zz_z_LookupError ?zz_z_RuntimeError ?zz_z_TypeError ?zz_q0_0 ?zz_q0_1 ?zz_q0_2 ?zz_q0_3 ?zz_q0_4 ?zz_q0_5 ?zz_q0_6 ?zz_q0_7 ?zz_q0_8 ?zz_q0_9 ?zz_q0_10 ?zz_q0_11 ?zz_q0_12 ?zz_q0_13 ?zz_q0_14 ?zz_q1_0 ?zz_q1_1 ?zz_q1_2 ?zz_q1_3 ?zz_q1_4 ?zz_q1_5 ?zz_q1_6 ?zz_q1_7 ?zz_q1_8 ?zz_q1_9 ?zz_q1_10 ?zz_q1_11 ?zz_q1_12 ?zz_q1_13 ?zz_q1_14 ?zz_q2_0 ?zz_q2_1 ?zz_q2_2 ?zz_q2_3 ?zz_q2_4 ?zz_q2_5 ?zz_q2_6 ?zz_q2_7 ?zz_q2_8 ?zz_q2_9 ?zz_q2_10 ?zz_q2_11 ?zz_q2_12 ?zz_q2_13 ?zz_q2_14 ?zz_q3_0 ?zz_q3_1 ?zz_q3_2 ?zz_q3_3 ?zz_q3_4 ?zz_q3_5 ?zz_q3_6 ?zz_q3_7 ?zz_q3_8 ?zz_q3_9 ?zz_q3_10 ?zz_q3_11 ?zz_q3_12 ?zz_q3_13 ?zz_q3_14 ?zz_q4_0 ?zz_q4_1 ?zz_q4_2 ?zz_q4_3 ?zz_q4_4 ?zz_q4_5 ?zz_q4_6 ?zz_q4_7 ?zz_q4_8 ?zz_q4_9 ?zz_q4_10 ?zz_q4_11 ?zz_q4_12 ?zz_q4_13 ?zz_q4_14 ?zz_q5_0 ?zz_q5_1 ?zz_q5_2 ?zz_q5_3 ?zz_q5_4 ?zz_q5_5 ?zz_q5_6 ?zz_q5_7 ?zz_q5_8 ?zz_q5_9 ?zz_q5_10 ?zz_q5_11 ?zz_q5_12 ?zz_q5_13 ?zz_q5_14 ?zz_q6_0 ?zz_q6_1 ?zz_q6_2 ?zz_q6_3 ?zz_q6_4 ?zz_q6_5 ?zz_q6_6 ?zz_q6_7 ?zz_q6_8 ?zz_q6_9 ?zz_q6_10 ?zz_q6_11 ?zz_q6_12 ?zz_q6_13 ?zz_q6_14 ?zz_q7_0 ?zz_q7_1 ?zz_q7_2 ?zz_q7_3 ?zz_q7_4 ?zz_q7_5 ?zz_q7_6 ?zz_q7_7 ?zz_q7_8 ?zz_q7_9 ?zz_q7_10 ?zz_q7_11 ?zz_q7_12 ?zz_q7_13 ?zz_q7_14 ?zz_q8_0 ?zz_q8_1 ?zz_q8_2 ?zz_q8_3 ?zz_q8_4 ?zz_q8_5 ?zz_q8_6 ?zz_q8_7 ?zz_q8_8 ?zz_q8_9 ?zz_q8_10 ?zz_q8_11 ?zz_q8_12 ?zz_q8_13 ?zz_q8_14 ?zz_q9_0 ?zz_q9_1 ?zz_q9_2 ?zz_q9_3 ?zz_q9_4 ?zz_q9_5 ?zz_q9_6 ?zz_q9_7 ?zz_q9_8 ?zz_q9_9 ?zz_q9_10 ?zz_q9_11 ?zz_q9_12 ?zz_q9_13 ?zz_q9_14 ?zz_r0_9 ?zz_r0_8 ?zz_r1_9 ?zz_r1_8 ?zz_r2_9 ?zz_r2_8 ?zz_r3_9 ?zz_r3_8 ?zz_r4_9 ?zz_r4_8 ?zz_r5_9 ?zz_r5_8 ?zz_r6_9 ?zz_r6_8 ?zz_r7_9 ?zz_r7_8 ?zz_r8_9 ?zz_r8_8
    (case zz_n0 => k_is)
    (case zz_n1 => k_is)
    (case zz_n2 => k_is)
    (case zz_n3 => k_is)
    (case zz_n4 => k_is)
    (case zz_n5 => k_is)
    (case zz_n6 => k_is)
    (case zz_n7 => k_is)
    (case zz_n8 => k_is)
    (case zz_n9 => k_is)
    (case zz_ncomb => k_is)
    (case zz_g0 => k_is)
    (case zz_g1 => k_is)
    (case zz_g2 => k_is)
    (case zz_g3 => k_is)
    (case zz_g4 => k_is)
    (case zz_g5 => k_is)
    (case zz_g6 => k_is)
    (case zz_g7 => k_is)
    (case zz_g8 => k_is)
    (case zz_a_nu => k_is)
    (case zz_l_nu => k_is)
    (case zz_c_nu => k_is)
    (case zz_k_nu => k_is)
    (case zz_a_nn => k_is)
    (case zz_l_nn => k_is)
    (case zz_c_nn => k_is)
    (case zz_k_nn => k_is)
    (case zz_a_tu => k_is)
    (case zz_l_tu => k_is)
    (case zz_c_tu => k_is)
    (case zz_k_tu => k_is)
    (case zz_a_se => k_is)
    (case zz_l_se => k_is)
    (case zz_c_se => k_is)
    (case zz_k_se => k_is)
    (case zz_a_ss => k_is)
    (case zz_l_ss => k_is)
    (case zz_c_ss => k_is)
    (case zz_k_ss => k_is)
    (case zz_a_lo => k_is)
    (case zz_l_lo => k_is)
    (case zz_c_lo => k_is)
    (case zz_k_lo => k_is)
    (case zz_a_ro => k_is)
    (case zz_l_ro => k_is)
    (case zz_c_ro => k_is)
    (case zz_k_ro => k_is)
    (case zz_a_fw => k_is)
    (case zz_l_fw => k_is)
    (case zz_c_fw => k_is)
    (case zz_k_fw => k_is)
    (case zz_a_va => k_is)
    (case zz_l_va => k_is)
    (case zz_c_va => k_is)
    (case zz_k_va => k_is)
    (case zz_a_ba => k_is)
    (case zz_l_ba => k_is)
    (case zz_c_ba => k_is)
    (case zz_k_ba => k_is)
    (case zz_a_ri => k_is)
    (case zz_l_ri => k_is)
    (case zz_c_ri => k_is)
    (case zz_k_ri => k_is)
    (case zz_a_nl => k_is)
    (case zz_l_nl => k_is)
    (case zz_c_nl => k_is)
    (case zz_k_nl => k_is)
    (case zz_a_me => k_is)
    (case zz_l_me => k_is)
    (case zz_c_me => k_is)
    (case zz_k_me => k_is)
    (case zz_a_ma => k_is)
    (case zz_l_ma => k_is)
    (case zz_c_ma => k_is)
    (case zz_k_ma => k_is)
    (case zz_a_le => k_is)
    (case zz_l_le => k_is)
    (case zz_c_le => k_is)
    (case zz_k_le => k_is)
    (case zz_a_lr => k_is)
    (case zz_l_lr => k_is)
    (case zz_c_lr => k_is)
    (case zz_k_lr => k_is)
    (case zz_a_rm => k_is)
    (case zz_l_rm => k_is)
    (case zz_c_rm => k_is)
    (case zz_k_rm => k_is)
    (case zz_a_im => k_is)
    (case zz_l_im => k_is)
    (case zz_c_im => k_is)
    (case zz_k_im => k_is)
    (case zz_a_sh => k_is)
    (case zz_l_sh => k_is)
    (case zz_c_sh => k_is)
    (case zz_k_sh => k_is)
    (case zz_a_nsh => k_is)
    (case zz_l_nsh => k_is)
    (case zz_c_nsh => k_is)
    (case zz_k_nsh => k_is)
    (case zz_a_isf => k_is)
    (case zz_l_isf => k_is)
    (case zz_c_isf => k_is)
    (case zz_k_isf => k_is)
    (case zz_a_nf => k_is)
    (case zz_l_nf => k_is)
    (case zz_c_nf => k_is)
    (case zz_k_nf => k_is)
    (case zz_a_su => k_is)
    (case zz_l_su => k_is)
    (case zz_c_su => k_is)
    (case zz_k_su => k_is)
    (case zz_a_nr => k_is)
    (case zz_l_nr => k_is)
    (case zz_c_nr => k_is)
    (case zz_k_nr => k_is)
    (case zz_a_io => k_is)
    (case zz_l_io => k_is)
    (case zz_c_io => k_is)
    (case zz_k_io => k_is)
    (case zz_a_nh => k_is)
    (case zz_l_nh => k_is)
    (case zz_c_nh => k_is)
    (case zz_k_nh => k_is)
    (case zz_a_nw => k_is)
    (case zz_l_nw => k_is)
    (case zz_c_nw => k_is)
    (case zz_k_nw => k_is)
    (case zz_a_lm => k_is)
    (case zz_l_lm => k_is)
    (case zz_c_lm => k_is)
    (case zz_k_lm => k_is)
    (case zz_a_mk => k_is)
    (case zz_l_mk => k_is)
    (case zz_c_mk => k_is)
    (case zz_k_mk => k_is)
    (case zz_a_lk => k_is)
    (case zz_l_lk => k_is)
    (case zz_c_lk => k_is)
    (case zz_k_lk => k_is)
    (case zz_a_cf => k_is)
    (case zz_l_cf => k_is)
    (case zz_c_cf => k_is)
    (case zz_k_cf => k_is)
    (case zz_a_co => k_is)
    (case zz_l_co => k_is)
    (case zz_c_co => k_is)
    (case zz_k_co => k_is)
    (case zz_a_af => k_is)
    (case zz_l_af => k_is)
    (case zz_c_af => k_is)
    (case zz_k_af => k_is)
    (case zz_a_fa => k_is)
    (case zz_l_fa => k_is)
    (case zz_c_fa => k_is)
    (case zz_k_fa => k_is)
    (case zz_a_lw => k_is)
    (case zz_l_lw => k_is)
    (case zz_c_lw => k_is)
    (case zz_k_lw => k_is)
    (case zz_a_hf => k_is)
    (case zz_l_hf => k_is)
    (case zz_c_hf => k_is)
    (case zz_k_hf => k_is)
    (case zz_a_na => k_is)
    (case zz_l_na => k_is)
    (case zz_c_na => k_is)
    (case zz_k_na => k_is)
    (case zz_a_be => k_is)
    (case zz_l_be => k_is)
    (case zz_c_be => k_is)
    (case zz_k_be => k_is)
    (case zz_a_cn => k_is)
    (case zz_l_cn => k_is)
    (case zz_c_cn => k_is)
    (case zz_k_cn => k_is)
    (case zz_a_mi => k_is)
    (case zz_l_mi => k_is)
    (case zz_c_mi => k_is)
    (case zz_k_mi => k_is)
    (case zz_a_fo => k_is)
    (case zz_l_fo => k_is)
    (case zz_c_fo => k_is)
    (case zz_k_fo => k_is)
    (case zz_a_dr => k_is)
    (case zz_l_dr => k_is)
    (case zz_c_dr => k_is)
    (case zz_k_dr => k_is)
    (case zz_a_bg => k_is)
    (case zz_l_bg => k_is)
    (case zz_c_bg => k_is)
    (case zz_k_bg => k_is)
    (case zz_a_li => k_is)
    (case zz_l_li => k_is)
    (case zz_c_li => k_is)
    (case zz_k_li => k_is)
    (case zz_a_of => k_is)
    (case zz_l_of => k_is)
    (case zz_c_of => k_is)
    (case zz_k_of => k_is)
    (case zz_a_od => k_is)
    (case zz_l_od => k_is)
    (case zz_c_od => k_is)
    (case zz_k_od => k_is)
    (case zz_a_mr => k_is)
    (case zz_l_mr => k_is)
    (case zz_c_mr => k_is)
    (case zz_k_mr => k_is)
    (case zz_a_ab => k_is)
    (case zz_l_ab => k_is)
    (case zz_c_ab => k_is)
    (case zz_k_ab => k_is)
    (case zz_a_md => k_is)
    (case zz_l_md => k_is)
    (case zz_c_md => k_is)
    (case zz_k_md => k_is)
    (case zz_a_rd => k_is)
    (case zz_l_rd => k_is)
    (case zz_c_rd => k_is)
    (case zz_k_rd => k_is)
    (case zz_a_rr => k_is)
    (case zz_l_rr => k_is)
    (case zz_c_rr => k_is)
    (case zz_k_rr => k_is)
    (case zz_a_la => k_is)
    (case zz_l_la => k_is)
    (case zz_c_la => k_is)
    (case zz_k_la => k_is)
    (case zz_cT => first | k_is | rfl | decide +kernel)
    (case zz_nT => first | rfl | k_is)
    (case zz_x0 => k_is)
    (case zz_sa0 => k_is)
    (case zz_ga0 => k_is)
    (case zz_gg0 => k_is)
    (case zz_sb0 => k_is)
    (case zz_cc0 => k_is)
    (case zz_oo0 => k_is)
    (case zz_kc0 => k_is)
    (case zz_ty0 => k_is)
    (case zz_no0 => k_is)
    (case zz_iI0 => k_is)
    (case zz_tI0 => k_is)
    (case zz_lI0 => k_is)
    (case zz_cI0 => k_is)
    (case zz_kI0 => k_is)
    (case zz_x1 => k_is)
    (case zz_sa1 => k_is)
    (case zz_ga1 => k_is)
    (case zz_gg1 => k_is)
    (case zz_sb1 => k_is)
    (case zz_cc1 => k_is)
    (case zz_oo1 => k_is)
    (case zz_kc1 => k_is)
    (case zz_ty1 => k_is)
    (case zz_no1 => k_is)
    (case zz_iI1 => k_is)
    (case zz_tI1 => k_is)
    (case zz_lI1 => k_is)
    (case zz_cI1 => k_is)
    (case zz_kI1 => k_is)
    (case zz_x2 => k_is)
    (case zz_sa2 => k_is)
    (case zz_ga2 => k_is)
    (case zz_gg2 => k_is)
    (case zz_sb2 => k_is)
    (case zz_cc2 => k_is)
    (case zz_oo2 => k_is)
    (case zz_kc2 => k_is)
    (case zz_ty2 => k_is)
    (case zz_no2 => k_is)
    (case zz_iI2 => k_is)
    (case zz_tI2 => k_is)
    (case zz_lI2 => k_is)
    (case zz_cI2 => k_is)
    (case zz_kI2 => k_is)
    (case zz_x3 => k_is)
    (case zz_sa3 => k_is)
    (case zz_ga3 => k_is)
    (case zz_gg3 => k_is)
    (case zz_sb3 => k_is)
    (case zz_cc3 => k_is)
    (case zz_oo3 => k_is)
    (case zz_kc3 => k_is)
    (case zz_ty3 => k_is)
    (case zz_no3 => k_is)
    (case zz_iI3 => k_is)
    (case zz_tI3 => k_is)
    (case zz_lI3 => k_is)
    (case zz_cI3 => k_is)
    (case zz_kI3 => k_is)
    (case zz_x4 => k_is)
    (case zz_sa4 => k_is)
    (case zz_ga4 => k_is)
    (case zz_gg4 => k_is)
    (case zz_sb4 => k_is)
    (case zz_cc4 => k_is)
    (case zz_oo4 => k_is)
    (case zz_kc4 => k_is)
    (case zz_ty4 => k_is)
    (case zz_no4 => k_is)
    (case zz_iI4 => k_is)
    (case zz_tI4 => k_is)
    (case zz_lI4 => k_is)
    (case zz_cI4 => k_is)
    (case zz_kI4 => k_is)
    (case zz_x5 => k_is)
    (case zz_sa5 => k_is)
    (case zz_ga5 => k_is)
    (case zz_gg5 => k_is)
    (case zz_sb5 => k_is)
    (case zz_cc5 => k_is)
    (case zz_oo5 => k_is)
    (case zz_kc5 => k_is)
    (case zz_ty5 => k_is)
    (case zz_no5 => k_is)
    (case zz_iI5 => k_is)
    (case zz_tI5 => k_is)
    (case zz_lI5 => k_is)
    (case zz_cI5 => k_is)
    (case zz_kI5 => k_is)
    (case zz_x6 => k_is)
    (case zz_sa6 => k_is)
    (case zz_ga6 => k_is)
    (case zz_gg6 => k_is)
    (case zz_sb6 => k_is)
    (case zz_cc6 => k_is)
    (case zz_oo6 => k_is)
    (case zz_kc6 => k_is)
    (case zz_ty6 => k_is)
    (case zz_no6 => k_is)
    (case zz_iI6 => k_is)
    (case zz_tI6 => k_is)
    (case zz_lI6 => k_is)
    (case zz_cI6 => k_is)
    (case zz_kI6 => k_is)
    (case zz_x7 => k_is)
    (case zz_sa7 => k_is)
    (case zz_ga7 => k_is)
    (case zz_gg7 => k_is)
    (case zz_sb7 => k_is)
    (case zz_cc7 => k_is)
    (case zz_oo7 => k_is)
    (case zz_kc7 => k_is)
    (case zz_ty7 => k_is)
    (case zz_no7 => k_is)
    (case zz_iI7 => k_is)
    (case zz_tI7 => k_is)
    (case zz_lI7 => k_is)
    (case zz_cI7 => k_is)
    (case zz_kI7 => k_is)
    (case zz_x8 => k_is)
    (case zz_sa8 => k_is)
    (case zz_ga8 => k_is)
    (case zz_gg8 => k_is)
    (case zz_sb8 => k_is)
    (case zz_cc8 => k_is)
    (case zz_oo8 => k_is)
    (case zz_kc8 => k_is)
    (case zz_ty8 => k_is)
    (case zz_no8 => k_is)
    (case zz_iI8 => k_is)
    (case zz_tI8 => k_is)
    (case zz_lI8 => k_is)
    (case zz_cI8 => k_is)
    (case zz_kI8 => k_is)
    (case zz_ga9 => k_is)
    (case zz_gg9 => k_is)
    (case zz_sb9 => k_is)
    (case zz_hd9 => first | k_is | k_exc | rfl)
    (case zz_cc9 => k_is)
    (case zz_oo9 => k_is)
    (case zz_ex9 => first | k_is | k_exc | rfl)
    (case zz_kc9 => k_is)
    (case zz_hn => k_is)
    (case zz_ht => k_is)
    (case zz_fga => k_is)
    (case zz_frd => k_is)
    (case zz_ffc => k_is)
    (case zz_ofc => k_is)
    (case zz_z_int => k_is)
    (case zz_z_range => k_is)
    (case zz_z_enumerate => k_is)
    (case zz_z_len => k_is)
    (case zz_z_min => k_is)
    (case zz_z_isinstance => k_is)
    (case zz_z_repr => k_is)
    (case zz_z_bool => k_is)
    (case zz_z_tuple => k_is)
    (case zz_z_all => k_is)
    (case zz_z_any => k_is)
    (case zz_z_zip => k_is)
    (case zz_z_list => k_is)
    (case zz_z_sorted => k_is)
    (case zz_z_OverflowError => k_is)
    (case zz_z_ValueError => k_is)
    (case zz_z_LookupError => k_is)
    (case zz_z_RuntimeError => k_is)
    (case zz_z_TypeError => k_is)
    (case zz_q0_0 => first | k_is | kit_is | rfl)
    (case zz_q0_1 => first | k_is | kit_is | rfl)
    (case zz_q0_2 => first | k_is | kit_is | rfl)
    (case zz_q0_3 => first | k_is | kit_is | rfl)
    (case zz_q0_4 => first | k_is | kit_is | rfl)
    (case zz_q0_5 => first | k_is | kit_is | rfl)
    (case zz_q0_6 => first | k_is | kit_is | rfl)
    (case zz_q0_7 => first | k_is | kit_is | rfl)
    (case zz_q0_8 => first | k_is | kit_is | rfl)
    (case zz_q0_9 => first | k_is | kit_is | rfl)
    (case zz_q0_10 => first | k_is | kit_is | rfl)
    (case zz_q0_11 => first | k_is | kit_is | rfl)
    (case zz_q0_12 => first | k_is | kit_is | rfl)
    (case zz_q0_13 => first | k_is | kit_is | rfl)
    (case zz_q0_14 => first | k_is | kit_is | rfl)
    (case zz_q1_0 => first | k_is | kit_is | rfl)
    (case zz_q1_1 => first | k_is | kit_is | rfl)
    (case zz_q1_2 => first | k_is | kit_is | rfl)
    (case zz_q1_3 => first | k_is | kit_is | rfl)
    (case zz_q1_4 => first | k_is | kit_is | rfl)
    (case zz_q1_5 => first | k_is | kit_is | rfl)
    (case zz_q1_6 => first | k_is | kit_is | rfl)
    (case zz_q1_7 => first | k_is | kit_is | rfl)
    (case zz_q1_8 => first | k_is | kit_is | rfl)
    (case zz_q1_9 => first | k_is | kit_is | rfl)
    (case zz_q1_10 => first | k_is | kit_is | rfl)
    (case zz_q1_11 => first | k_is | kit_is | rfl)
    (case zz_q1_12 => first | k_is | kit_is | rfl)
    (case zz_q1_13 => first | k_is | kit_is | rfl)
    (case zz_q1_14 => first | k_is | kit_is | rfl)
    (case zz_q2_0 => first | k_is | kit_is | rfl)
    (case zz_q2_1 => first | k_is | kit_is | rfl)
    (case zz_q2_2 => first | k_is | kit_is | rfl)
    (case zz_q2_3 => first | k_is | kit_is | rfl)
    (case zz_q2_4 => first | k_is | kit_is | rfl)
    (case zz_q2_5 => first | k_is | kit_is | rfl)
    (case zz_q2_6 => first | k_is | kit_is | rfl)
    (case zz_q2_7 => first | k_is | kit_is | rfl)
    (case zz_q2_8 => first | k_is | kit_is | rfl)
    (case zz_q2_9 => first | k_is | kit_is | rfl)
    (case zz_q2_10 => first | k_is | kit_is | rfl)
    (case zz_q2_11 => first | k_is | kit_is | rfl)
    (case zz_q2_12 => first | k_is | kit_is | rfl)
    (case zz_q2_13 => first | k_is | kit_is | rfl)
    (case zz_q2_14 => first | k_is | kit_is | rfl)
    (case zz_q3_0 => first | k_is | kit_is | rfl)
    (case zz_q3_1 => first | k_is | kit_is | rfl)
    (case zz_q3_2 => first | k_is | kit_is | rfl)
    (case zz_q3_3 => first | k_is | kit_is | rfl)
    (case zz_q3_4 => first | k_is | kit_is | rfl)
    (case zz_q3_5 => first | k_is | kit_is | rfl)
    (case zz_q3_6 => first | k_is | kit_is | rfl)
    (case zz_q3_7 => first | k_is | kit_is | rfl)
    (case zz_q3_8 => first | k_is | kit_is | rfl)
    (case zz_q3_9 => first | k_is | kit_is | rfl)
    (case zz_q3_10 => first | k_is | kit_is | rfl)
    (case zz_q3_11 => first | k_is | kit_is | rfl)
    (case zz_q3_12 => first | k_is | kit_is | rfl)
    (case zz_q3_13 => first | k_is | kit_is | rfl)
    (case zz_q3_14 => first | k_is | kit_is | rfl)
    (case zz_q4_0 => first | k_is | kit_is | rfl)
    (case zz_q4_1 => first | k_is | kit_is | rfl)
    (case zz_q4_2 => first | k_is | kit_is | rfl)
    (case zz_q4_3 => first | k_is | kit_is | rfl)
    (case zz_q4_4 => first | k_is | kit_is | rfl)
    (case zz_q4_5 => first | k_is | kit_is | rfl)
    (case zz_q4_6 => first | k_is | kit_is | rfl)
    (case zz_q4_7 => first | k_is | kit_is | rfl)
    (case zz_q4_8 => first | k_is | kit_is | rfl)
    (case zz_q4_9 => first | k_is | kit_is | rfl)
    (case zz_q4_10 => first | k_is | kit_is | rfl)
    (case zz_q4_11 => first | k_is | kit_is | rfl)
    (case zz_q4_12 => first | k_is | kit_is | rfl)
    (case zz_q4_13 => first | k_is | kit_is | rfl)
    (case zz_q4_14 => first | k_is | kit_is | rfl)
    (case zz_q5_0 => first | k_is | kit_is | rfl)
    (case zz_q5_1 => first | k_is | kit_is | rfl)
    (case zz_q5_2 => first | k_is | kit_is | rfl)
    (case zz_q5_3 => first | k_is | kit_is | rfl)
    (case zz_q5_4 => first | k_is | kit_is | rfl)
    (case zz_q5_5 => first | k_is | kit_is | rfl)
    (case zz_q5_6 => first | k_is | kit_is | rfl)
    (case zz_q5_7 => first | k_is | kit_is | rfl)
    (case zz_q5_8 => first | k_is | kit_is | rfl)
    (case zz_q5_9 => first | k_is | kit_is | rfl)
    (case zz_q5_10 => first | k_is | kit_is | rfl)
    (case zz_q5_11 => first | k_is | kit_is | rfl)
    (case zz_q5_12 => first | k_is | kit_is | rfl)
    (case zz_q5_13 => first | k_is | kit_is | rfl)
    (case zz_q5_14 => first | k_is | kit_is | rfl)
    (case zz_q6_0 => first | k_is | kit_is | rfl)
    (case zz_q6_1 => first | k_is | kit_is | rfl)
    (case zz_q6_2 => first | k_is | kit_is | rfl)
    (case zz_q6_3 => first | k_is | kit_is | rfl)
    (case zz_q6_4 => first | k_is | kit_is | rfl)
    (case zz_q6_5 => first | k_is | kit_is | rfl)
    (case zz_q6_6 => first | k_is | kit_is | rfl)
    (case zz_q6_7 => first | k_is | kit_is | rfl)
    (case zz_q6_8 => first | k_is | kit_is | rfl)
    (case zz_q6_9 => first | k_is | kit_is | rfl)
    (case zz_q6_10 => first | k_is | kit_is | rfl)
    (case zz_q6_11 => first | k_is | kit_is | rfl)
    (case zz_q6_12 => first | k_is | kit_is | rfl)
    (case zz_q6_13 => first | k_is | kit_is | rfl)
    (case zz_q6_14 => first | k_is | kit_is | rfl)
    (case zz_q7_0 => first | k_is | kit_is | rfl)
    (case zz_q7_1 => first | k_is | kit_is | rfl)
    (case zz_q7_2 => first | k_is | kit_is | rfl)
    (case zz_q7_3 => first | k_is | kit_is | rfl)
    (case zz_q7_4 => first | k_is | kit_is | rfl)
    (case zz_q7_5 => first | k_is | kit_is | rfl)
    (case zz_q7_6 => first | k_is | kit_is | rfl)
    (case zz_q7_7 => first | k_is | kit_is | rfl)
    (case zz_q7_8 => first | k_is | kit_is | rfl)
    (case zz_q7_9 => first | k_is | kit_is | rfl)
    (case zz_q7_10 => first | k_is | kit_is | rfl)
    (case zz_q7_11 => first | k_is | kit_is | rfl)
    (case zz_q7_12 => first | k_is | kit_is | rfl)
    (case zz_q7_13 => first | k_is | kit_is | rfl)
    (case zz_q7_14 => first | k_is | kit_is | rfl)
    (case zz_q8_0 => first | k_is | kit_is | rfl)
    (case zz_q8_1 => first | k_is | kit_is | rfl)
    (case zz_q8_2 => first | k_is | kit_is | rfl)
    (case zz_q8_3 => first | k_is | kit_is | rfl)
    (case zz_q8_4 => first | k_is | kit_is | rfl)
    (case zz_q8_5 => first | k_is | kit_is | rfl)
    (case zz_q8_6 => first | k_is | kit_is | rfl)
    (case zz_q8_7 => first | k_is | kit_is | rfl)
    (case zz_q8_8 => first | k_is | kit_is | rfl)
    (case zz_q8_9 => first | k_is | kit_is | rfl)
    (case zz_q8_10 => first | k_is | kit_is | rfl)
    (case zz_q8_11 => first | k_is | kit_is | rfl)
    (case zz_q8_12 => first | k_is | kit_is | rfl)
    (case zz_q8_13 => first | k_is | kit_is | rfl)
    (case zz_q8_14 => first | k_is | kit_is | rfl)
    (case zz_q9_0 => first | k_is | kit_is | rfl)
    (case zz_q9_1 => first | k_is | kit_is | rfl)
    (case zz_q9_2 => first | k_is | kit_is | rfl)
    (case zz_q9_3 => first | k_is | kit_is | rfl)
    (case zz_q9_4 => first | k_is | kit_is | rfl)
    (case zz_q9_5 => first | k_is | kit_is | rfl)
    (case zz_q9_6 => first | k_is | kit_is | rfl)
    (case zz_q9_7 => first | k_is | kit_is | rfl)
    (case zz_q9_8 => first | k_is | kit_is | rfl)
    (case zz_q9_9 => first | k_is | kit_is | rfl)
    (case zz_q9_10 => first | k_is | kit_is | rfl)
    (case zz_q9_11 => first | k_is | kit_is | rfl)
    (case zz_q9_12 => first | k_is | kit_is | rfl)
    (case zz_q9_13 => first | k_is | kit_is | rfl)
    (case zz_q9_14 => first | k_is | kit_is | rfl)
    (case zz_r0_9 => first | k_is | kit_is | rfl)
    (case zz_r0_8 => first | k_is | kit_is | rfl)
    (case zz_r1_9 => first | k_is | kit_is | rfl)
    (case zz_r1_8 => first | k_is | kit_is | rfl)
    (case zz_r2_9 => first | k_is | kit_is | rfl)
    (case zz_r2_8 => first | k_is | kit_is | rfl)
    (case zz_r3_9 => first | k_is | kit_is | rfl)
    (case zz_r3_8 => first | k_is | kit_is | rfl)
    (case zz_r4_9 => first | k_is | kit_is | rfl)
    (case zz_r4_8 => first | k_is | kit_is | rfl)
    (case zz_r5_9 => first | k_is | kit_is | rfl)
    (case zz_r5_8 => first | k_is | kit_is | rfl)
    (case zz_r6_9 => first | k_is | kit_is | rfl)
    (case zz_r6_8 => first | k_is | kit_is | rfl)
    (case zz_r7_9 => first | k_is | kit_is | rfl)
    (case zz_r7_8 => first | k_is | kit_is | rfl)
    (case zz_r8_9 => first | k_is | kit_is | rfl)
    (case zz_r8_8 => first | k_is | kit_is | rfl)
