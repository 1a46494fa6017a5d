import PyProof.Rows.All
import Wide.All
import OpenK.AllK
import Wide.FinOn
import HandS.ForMost
import HandS.Wide
import HandS.Walk
import HandS.Small
import HandS.Exc
import HandS.ExcInit
import HandS.ExcIs
import HandS.IsInst
import HandS.FStr
import PyProof.ReprRoads
import KE.KExcIs
import KE.KExcInit
import PySem.Challenge.RW_rowsthatname_k80_errors_of_the_third_par
/-! part D1 -/
set_option Elab.async false
set_option linter.all false
set_option maxRecDepth 100000
set_option maxHeartbeats 2000000
namespace K80
open PySem PySem.Spec PyProof.Rows L2
def topS (i : Nat) : Stmt := PySem.Challenge.pw_rowsthatname_k80_errors_of_the_third_par.main.body.getD i (.Pass ⟨0, 0, 0, 0⟩)
abbrev sMixed : Stmt := topS 15
abbrev sFolded : Stmt := topS 16
abbrev sDraw : Stmt := topS 17
abbrev sBegun : Stmt := topS 18
theorem scMixed : FnScope ["cell", "n", "blend"] ["cell", "n"] (defScope sMixed) := ⟨rfl, rfl, rfl, by decide +kernel, rfl, by decide +kernel, by decide +kernel⟩
section
variable {P : Program} {w : World} {K : PySem.W.Frag} {mg : Str → Option Value} {base : Heap}
def spMixed : Sp := fun vs H Q _ => ∃ (c n : Int), vs = [.int c, .int n] ∧ 0 ≤ n ∧ n < 1000000 ∧ ∀ r : Int, 0 ≤ r → r < 2147483647 → Q (.int r) H
theorem ok_mixed {f : Addr} {fd : FuncData} {k : Nat} (F : Fun K "_law_mixed" "_law_mixed" sMixed f fd) (zi : mg "int" = none) : FnOk P w K mg base CX0 (k + 1) f fd ["cell", "n"] spMixed := by
  refine F.ok scMixed (fun vs H Q E h => ?_) (fun cdv A outer s H vs Q E hr h => ?_)
  · obtain ⟨c, n, rfl, _⟩ := h
    rfl
  · obtain ⟨c, n, rfl, hn0, hn1, q⟩ := h
    refine ⟨_, pss_cons (ps_set (i := 2) scMixed.nd rfl (.inl rfl) (pe_op op_add (pe_op op_add (pe_op op_mod (pe_callTy call_int1 (by rfl) zi (by decide +kernel) (pa_cons (pe_op op_mul (pe_op op_mul (pv 0) (pe_op op_add pe_int (pe_op op_mul pe_int (pv 1)))) pe_int) pa_nil)) pe_int) (pe_op op_mul (pe_op op_mul pe_int (pv 1)) (pv 1))) (pe_op op_mul pe_int (pv 1))))
      (pss_one (ps_ret (pe_op op_fdiv (pe_op op_mod (pe_callTy call_int1 (by rfl) zi (by decide +kernel) (pa_cons (pe_op op_mul (pv 2) pe_int) pa_nil)) pe_int) pe_int))), ?_⟩
    refine ⟨_, rfl, _, rfl, _, _, rfl, rfl, .inl (by decide), _, _, rfl, rfl, _, _, rfl, rfl, .inr (by constructor <;> omega), _, _, rfl, rfl, .inr (by decide), .inl ⟨_, rfl, ?_⟩⟩
    refine ⟨_, _, rfl, rfl, (by show (0 : Int) < 2147483647; decide), _, rfl, _, _, rfl, rfl, .inl (by decide), _, rfl, _, _, rfl, rfl, .inr (by constructor <;> omega), _, _, rfl, rfl, _, rfl, _, _, rfl, rfl, .inl (by decide), _, _, rfl, rfl, ?_⟩
    generalize c * (1 + 2 * n) * 48271 % 2147483647 + 7919 * n * n + 104729 * n = b
    refine ⟨_, rfl, _, _, rfl, rfl, .inr (by decide), .inl ⟨_, rfl, ?_⟩⟩
    refine ⟨_, _, rfl, rfl, (by show (0 : Int) < 2147483629; decide), _, _, rfl, rfl, ⟨by decide, by decide⟩, ?_⟩
    exact q _ (by omega) (by omega)
theorem iteR {σ : L2.St} {p : Bool → Hp → Prop} {B : Hp → Prop} {Hh : Hp} (h : p true Hh) : tYes σ Hh (fun b H3 => if b = true then p b H3 else B H3) := by
  show if true = true then p true Hh else B Hh
  rw [if_pos rfl]
  exact h
theorem same_upd {H : Hp} {p : Addr} {o : HO} (h : H p = none) : Same H (upd H p o) := fun b x e => by
  rw [upd_ne (ne_of_none e h)]
  exact e
theorem same_upd2 {H H' : Hp} {p : Addr} {o : HO} (h : H p = none) (s : Same H H') : Same H (upd H' p o) := fun b x e => by
  rw [upd_ne (ne_of_none e h)]
  exact s _ _ e
theorem at_int {ns : List Int} {i : Int} (h0 : 0 ≤ i) (h1 : i < ns.length) : ∃ z : Int, atI (ns.map V.int) i = some (V.int z) := by
  have hj : i.toNat < ns.length := by omega
  refine ⟨ns[i.toNat], ?_⟩
  refine at_of (j := i.toNat) (by omega) ?_
  rw [List.getElem?_map, List.getElem?_eq_getElem hj]
  rfl
theorem ix_int {n : Nat} {i : Int} (h0 : 0 ≤ i) (h1 : i < n) : ixN n i = some i.toNat := by
  unfold ixN
  rw [if_pos h0, if_pos h1]
theorem scFolded : FnScope ["script", "n", "found", "cell"] ["script"] (defScope sFolded) := ⟨rfl, rfl, rfl, by decide +kernel, rfl, by decide +kernel, by decide +kernel⟩
theorem blkF : blkC ["script", "n", "found", "cell"] (defScope sFolded) { kind := .function, names := [(".0", .local), ("n", .local)], isGenerator := false, isCoroutine := false } [("n", 1)] = true := by decide +kernel
/-- a list of 64 ints stands at p -/
def Cells (H : Hp) (p : Addr) : Prop := ∃ ns : List Int, ns.length = 64 ∧ H p = some (.lst (ns.map V.int))
def spFolded (K : PySem.W.Frag) : Sp := fun vs H Q _ => ∃ (a : Addr) (ns : List Int), vs = [.ref a] ∧ SqL K H a (ns.map V.int) ∧ ns.length ≤ 63 ∧ ∀ H' p, Same H H' → H p = none → Cells H' p → Q (.ref p) H'
theorem ok_folded {f : Addr} {fd : FuncData} {k : Nat} (F : Fun K "_law_folded" "_law_folded" sFolded f fd) (zi : mg "int" = none) (zr : mg "range" = none) (ze : mg "enumerate" = none) : FnOk P w K mg base CX0 (k + 1) f fd ["script"] (spFolded K) := by
  refine F.ok scFolded (fun vs H Q E h => ?_) (fun cdv A outer s H vs Q E hr h => ?_)
  · obtain ⟨a, ns, rfl, _⟩ := h
    rfl
  · obtain ⟨a, ns, rfl, hS, hlen, q⟩ := h
    refine ⟨_, pss_cons (ps_setLc (i := 2) rfl scFolded.nd rfl rfl (sw_true rfl rfl rfl rfl) (pi_range1 (by rfl) zr (pa_cons pe_int pa_nil)) (blkOk_by (own := [("n", 1)]) blkF) (fun s H C cl fp => pg_name (i := 1) scFolded.nd rfl (.inl rfl)) (fun _ _ _ _ _ => pts_nil) (fun _ _ _ _ _ => pe_op op_add pe_int (pv 1)))
      (pss_cons (ps_for PassesOwn.never rfl (pi_enum (by rfl) ze (pa_cons (pv 0) pa_nil)) (pg_tup rfl (pgs_cons (pg_name (i := 1) scFolded.nd rfl (.inl rfl)) (pgs_cons (pg_name (i := 3) scFolded.nd rfl (.inl rfl)) pgs_nil)))
        (pss_one (ps_asg (pe_op op_mod (pe_callTy call_int1 (by rfl) zi (by decide +kernel) (pa_cons (pe_op op_add (pe_op op_mul (pe_ix ix_list (pv 2) (pe_op op_mod (pe_callTy call_int1 (by rfl) zi (by decide +kernel) (pa_cons (pv 1) pa_nil)) pe_int) (fun _ _ => rfl)) pe_int) (pv 3)) pa_nil)) pe_int)
          (pg_sub (pv 2) (pe_op op_mod (pe_callTy call_int1 (by rfl) zi (by decide +kernel) (pa_cons (pv 1) pa_nil)) pe_int) set_list))))
      (pss_cons (ps_for PassesOwn.never rfl (pi_range2 (by rfl) zr (pa_cons pe_int (pa_cons pe_int pa_nil))) (pg_name (i := 1) scFolded.nd rfl (.inl rfl))
        (pss_one (ps_asg (pe_op op_mod (pe_callTy call_int1 (by rfl) zi (by decide +kernel) (pa_cons (pe_op op_add (pe_ix ix_list (pv 2) (pv 1) (fun _ _ => rfl)) (pe_op op_mul (pe_ix ix_list (pv 2) (pe_op op_sub (pv 1) pe_int) (fun _ _ => rfl)) pe_int)) pa_nil)) pe_int)
          (pg_sub (pv 2) (pv 1) set_list))))
      (pss_one (ps_ret (pv 2))))), ?_⟩
    refine ⟨64, rfl, by decide, by decide, fun D nD => lc_range (fun i Hh => ∃ ns : List Int, ns.length = i ∧ Hh D = some (.lst (ns.map V.int)) ∧ Same H Hh) ⟨[], rfl, upd_same, same_upd nD⟩ ?_ ?_⟩
    · rintro i Hh hi ⟨ms, hm, hD, sm⟩
      refine ⟨rfl, ?_⟩
      refine iteR ?_
      refine ⟨_, rfl, _, _, rfl, rfl, _, hD, by rw [List.length_map, hm]; exact small1000 (by omega), ms ++ [17 + (0 + (i : Int))], by rw [List.length_append, hm] <;> rfl, ?_, same_upd2 nD sm⟩
      rw [upd_same, List.map_append] <;> rfl
    · rintro Hh ⟨ms, hm, hD, sm⟩
      refine ⟨_, rfl, a, ns.map V.int, rfl, sm.seq hS, ?_⟩
      refine for_it (walk_enum (xs := ns.map V.int)) (fun i σ H3 => ∃ (y1 y3 : Option V) (ms : List Int), σ = [some (.ref a), y1, some (.ref D), y3] ∧ ms.length = 64 ∧ H3 D = some (.lst (ms.map V.int)) ∧ Same H H3) ⟨_, _, ms, rfl, hm, hD, sm⟩ (fun i σ H3 _ ⟨_, _, _, _, _, _, s3⟩ => s3.seq hS) ?_ ?_
      · rintro i x σ H3 H4 hi ⟨y1, y3, ms, rfl, hm, hD, sm⟩ hy
        obtain ⟨T, x1, x2, rfl, nT, rfl, e1, e2⟩ := hy
        cases e1
        obtain ⟨c, rfl⟩ : ∃ c, x2 = V.int c := by
          replace e2 : (ns.map V.int)[i]? = some x2 := e2
          rw [List.getElem?_map] at e2
          cases e : ns[i]? with
          | none =>
            rw [e] at e2
            cases e2
          | some z =>
            rw [e] at e2
            exact ⟨z, (Option.some.inj e2).symm⟩
        have hil : i < 64 := by
          rw [List.length_map] at hi
          omega
        have hDT : (upd H3 T (.tup [.int (i : Nat), .int c])) D = some (.lst (ms.map V.int)) := by
          rw [upd_ne (ne_of_none hD nT)]
          exact hD
        obtain ⟨z, hz⟩ := at_int (ns := ms) (i := ((i : Nat) : Int) % 64) (by omega) (by omega)
        refine ⟨T, _, rfl, .inl (.inl upd_same), rfl, _, _, rfl, _, _, rfl, rfl, ?_⟩
        refine ⟨.ref D, rfl, _, rfl, .inl ⟨_, rfl, ?_⟩⟩
        refine ⟨_, _, rfl, rfl, (by show (0 : Int) < 64; decide), _, _, _, _, rfl, rfl, .inl (.inl hDT), hz, _, _, rfl, rfl, .inr (by decide), _, rfl, _, _, rfl, rfl, .inl ⟨_, rfl, ?_⟩⟩
        refine ⟨_, _, rfl, rfl, (by show (0 : Int) < 2147483647; decide), .ref D, rfl, _, rfl, .inl ⟨_, rfl, _, _, rfl, rfl, (by show (0 : Int) < 64; decide), ?_⟩⟩
        refine ⟨D, _, _, _, rfl, rfl, hDT, ix_int (by omega) (by rw [List.length_map]; omega), ?_⟩
        refine ⟨_, _, ms.set (((i : Nat) : Int) % 64).toNat ((z * 48271 + c) % 2147483647), rfl, by rw [List.length_set]; exact hm, ?_, same_upd2 nD (same_upd2 (sm.free nT) sm)⟩
        rw [upd_same, List.map_set]
      · rintro σ H3 ⟨y1, y3, ms, rfl, hm, hD, sm⟩
        refine ⟨_, _, rfl, by decide, for_range (fun i σ H4 => ∃ (y1 : Option V) (ms : List Int), σ = [some (.ref a), y1, some (.ref D), y3] ∧ ms.length = 64 ∧ H4 D = some (.lst (ms.map V.int)) ∧ Same H H4) ⟨_, ms, rfl, hm, hD, sm⟩ ?_ ?_⟩
        · rintro i σ H4 hi ⟨y1, ms, rfl, hm, hD, sm⟩
          have hi' : i < 63 := hi
          obtain ⟨z, hz⟩ := at_int (ns := ms) (i := 1 + (i : Int)) (by omega) (by omega)
          obtain ⟨z2, hz2⟩ := at_int (ns := ms) (i := 1 + (i : Int) - 1) (by omega) (by omega)
          refine ⟨.ref D, rfl, _, rfl, _, _, _, _, rfl, rfl, .inl (.inl hD), hz, .ref D, rfl, _, rfl, _, _, rfl, rfl, _, _, _, _, rfl, rfl, .inl (.inl hD), hz2, _, _, rfl, rfl, .inr (by decide), _, _, rfl, rfl, .inl ⟨_, rfl, ?_⟩⟩
          refine ⟨_, _, rfl, rfl, (by show (0 : Int) < 2147483647; decide), .ref D, rfl, _, rfl, D, _, _, _, rfl, rfl, hD, ix_int (by omega) (by rw [List.length_map]; omega), ?_⟩
          refine ⟨_, ms.set (1 + (i : Int)).toNat ((z + z2 * 16807) % 2147483647), rfl, by rw [List.length_set]; exact hm, ?_, same_upd2 nD sm⟩
          rw [upd_same, List.map_set]
        · rintro σ H4 ⟨y1, ms, rfl, hm, hD, sm⟩
          exact ⟨_, rfl, q H4 D sm nD ⟨ms, hm, hD⟩⟩
theorem dps {K : PySem.W.Frag} {H : Hp} : ∀ gs : List Int, DpAll K H (gs.map V.int) (gs.map PyData.int)
  | [] => .nil
  | x :: r => .cons (.int x) (dps r)
theorem lay_ints : ∀ gs : List Int, PyData.canLayAll0 (gs.map PyData.int) = true
  | [] => rfl
  | x :: r => by
    show (PyData.canLay0 (.int x) && PyData.canLayAll0 (r.map PyData.int)) = true
    rw [lay_ints r] <;> rfl
theorem depth_ints : ∀ gs : List Int, PyData.depthAll (gs.map PyData.int) = 0
  | [] => by simp [PyData.depthAll]
  | x :: r => by
    have ih := depth_ints r
    simp [PyData.depthAll, PyData.depth, ih]
theorem shaped_ints (gs : List Int) : SeqAt.shaped (.list (gs.map PyData.int)) = true := by
  unfold SeqAt.shaped
  have h1 : PyData.canLay0 (.list (gs.map PyData.int)) = true := lay_ints gs
  have h2 : PyData.depth (.list (gs.map PyData.int)) ≤ 64 := by
    simp [PyData.depth, depth_ints]
  rw [h1, decide_eq_true h2] <;> rfl
theorem scDraw : FnScope ["m", "limit", "n", "lot", "here", "cell"] ["m", "limit"] (defScope sDraw) := ⟨rfl, rfl, rfl, by decide +kernel, rfl, by decide +kernel, by decide +kernel⟩
/-- the state of the draws stands at m: 64 cells at c, great ones at g, the next place -/
structure Drw (H : Hp) (m c g : Addr) (sp : Int) : Prop where
  dm : H m = some (.dK [(.inr "cells", .ref c), (.inr "great", .ref g), (.inr "spot", .int sp)])
  cs : Cells H c
  gs : ∃ gs : List Int, gs.length ≤ 63 ∧ H g = some (.lst (gs.map V.int))
  cg : c ≠ g
/-- all that was tracked, m and g apart, is as it was -/
def SameD (m g : Addr) (H H' : Hp) : Prop := ∀ b o, b ≠ m → b ≠ g → H b = some o → H' b = some o
def spDraw : Sp := fun vs H Q _ => ∃ (m c g : Addr) (sp lim : Int), vs = [.ref m, .int lim] ∧ Drw H m c g sp ∧ 0 ≤ sp ∧ sp < 900000 ∧ 0 < lim ∧ lim < 1073741824 ∧ ∀ (r : Int) H', 0 ≤ r → r < lim → Drw H' m c g (sp + 1) → SameD m g H H' → Q (.int r) H'
theorem ok_draw {f fM : Addr} {fd fdM : FuncData} {k : Nat} (F : Fun K "_law_draw" "_law_draw" sDraw f fd) (FM : Fun K "_law_mixed" "_law_mixed" sMixed fM fdM) (bM : Binds K fdM ["cell", "n"] []) (gM : mg "_law_mixed" = some (.ref fM)) (zi : mg "int" = none) (zl : mg "len" = none) : FnOk P w K mg base CX0 (k + 2) f fd ["m", "limit"] spDraw := by
  have GM : FnOk P w K mg base CX0 (k + 1) fM fdM ["cell", "n"] spMixed := ok_mixed FM zi
  refine F.ok scDraw (fun vs H Q E h => ?_) (fun cdv A outer s H vs Q E hr h => ?_)
  · obtain ⟨m, c, g, sp, lim, rfl, _⟩ := h
    rfl
  · obtain ⟨m, c, g, sp, lim, rfl, D, hs0, hs1, hl0, hl1, q⟩ := h
    have hu := hu_of hr
    have hu64 := hr.units
    obtain ⟨⟨ns, hn, hc⟩, ⟨gs, hgl, hg⟩⟩ := And.intro D.cs D.gs
    have hm := D.dm
    have mc : m ≠ c := ne_of hm hc (by intro z; cases z)
    have mgn : m ≠ g := ne_of hm hg (by intro z; cases z)
    refine ⟨_, pss_cons (ps_set (i := 2) scDraw.nd rfl (.inl rfl) (pe_dget hu (pv 0) pe_str (fun _ _ => rfl)))
      (pss_cons (ps_dput hu (pv 0) pe_str (pe_op op_add (pv 2) pe_int) rfl)
      (pss_cons (ps_if (pt_cmpR (op_neD hr.units) (pe_dget hu (pv 0) pe_str (fun _ _ => rfl)) (pe_lst pa_nil) (nomark _))
        (pss_cons (ps_set (i := 3) scDraw.nd rfl (.inl rfl) (pe_dget hu (pv 0) pe_str (fun _ _ => rfl)))
        (pss_cons (ps_set (i := 4) scDraw.nd rfl (.inl rfl) (pe_op op_mod (pe_callTy call_int1 (by rfl) zi (by decide +kernel) (pa_cons (pv 2) pa_nil)) (pe_callB call_len_seq (by rfl) zl PySem.boot_len (pa_cons (pv 3) pa_nil))))
        (pss_cons (ps_set (i := 5) scDraw.nd rfl (.inl rfl) (pe_ix ix_list (pv 3) (pv 4) (fun _ _ => rfl)))
        (pss_one (ps_if (pt_cmpR op_gt (pv 5) pe_int (nomark _))
          (pss_cons (ps_asg (pe_op op_fdiv (pv 5) (pv 1)) (pg_sub (pv 3) (pv 4) set_list))
          (pss_one (ps_ret (pe_op op_mod (pe_callTy call_int1 (by rfl) zi (by decide +kernel) (pa_cons (pv 5) pa_nil)) (pv 1)))))
          pss_nil)))))
        pss_nil)
      (pss_cons (ps_set (i := 3) scDraw.nd rfl (.inl rfl) (pe_dget hu (pv 0) pe_str (fun _ _ => rfl)))
      (pss_one (ps_ret (pe_op op_mod (pe_callTy call_int1 (by rfl) zi (by decide +kernel) (pa_cons
        (pe_call GM hr (by rfl) gM FM.kp bM .nil pass0 (pa_cons
          (pe_call GM hr (by rfl) gM FM.kp bM .nil pass0 (pa_cons (pe_op op_add (pe_ix ix_list (pv 3) (pe_op op_mod (pe_callTy call_int1 (by rfl) zi (by decide +kernel) (pa_cons (pv 2) pa_nil)) pe_int) (fun _ _ => rfl)) (pe_op op_mul pe_int (pe_op op_fdiv (pv 2) pe_int))) (pa_cons (pv 2) pa_nil)))
          (pa_cons (pe_op op_add (pv 2) pe_int) pa_nil))) pa_nil)) (pv 1))))))), ?_⟩
    have eS : ∀ (sp : Int) Hh, Hh m = some (.dK [((.inr "cells" : Key), V.ref c), (.inr "great", .ref g), (.inr "spot", .int sp)]) → DGet Hh m (.str "spot") (some (.int sp)) := fun sp Hh h => DGet.k (k := .inr "spot") h
    have eG : ∀ (sp : Int) Hh, Hh m = some (.dK [((.inr "cells" : Key), V.ref c), (.inr "great", .ref g), (.inr "spot", .int sp)]) → DGet Hh m (.str "great") (some (.ref g)) := fun sp Hh h => DGet.k (k := .inr "great") h
    have eC : ∀ (sp : Int) Hh, Hh m = some (.dK [((.inr "cells" : Key), V.ref c), (.inr "great", .ref g), (.inr "spot", .int sp)]) → DGet Hh m (.str "cells") (some (.ref c)) := fun sp Hh h => DGet.k (k := .inr "cells") h
    refine ⟨_, rfl, m, _, rfl, eS _ _ hm, ?_⟩
    refine ⟨_, rfl, _, _, rfl, rfl, _, rfl, m, _, rfl, DPut.k (k := .inr "spot") hm (show 3 < sizeLine by decide), ?_⟩
    have hHm0 : (upd H m (.dK (putK [((.inr "cells" : Key), V.ref c), (.inr "great", .ref g), (.inr "spot", .int sp)] (.inr "spot") (.int (sp + 1))))) m = some (.dK [((.inr "cells" : Key), V.ref c), (.inr "great", .ref g), (.inr "spot", .int (sp + 1))]) := upd_same
    have hHc0 : (upd H m (.dK (putK [((.inr "cells" : Key), V.ref c), (.inr "great", .ref g), (.inr "spot", .int sp)] (.inr "spot") (.int (sp + 1))))) c = some (.lst (ns.map V.int)) := by
      rw [upd_ne mc.symm]
      exact hc
    have hHg0 : (upd H m (.dK (putK [((.inr "cells" : Key), V.ref c), (.inr "great", .ref g), (.inr "spot", .int sp)] (.inr "spot") (.int (sp + 1))))) g = some (.lst (gs.map V.int)) := by
      rw [upd_ne mgn.symm]
      exact hg
    have hS0 : SameD m g H (upd H m (.dK (putK [((.inr "cells" : Key), V.ref c), (.inr "great", .ref g), (.inr "spot", .int sp)] (.inr "spot") (.int (sp + 1))))) := fun b o h1 h2 e => by
      rw [upd_ne h1]
      exact e
    generalize upd H m (.dK (putK [((.inr "cells" : Key), V.ref c), (.inr "great", .ref g), (.inr "spot", .int sp)] (.inr "spot") (.int (sp + 1)))) = H0 at hHm0 hHc0 hHg0 hS0
    refine ⟨_, rfl, m, _, rfl, eG _ _ hHm0, Nat.zero_le _, fun p np => ?_⟩
    have hHm : (upd H0 p (.lst [])) m = some (.dK [((.inr "cells" : Key), V.ref c), (.inr "great", .ref g), (.inr "spot", .int (sp + 1))]) := same_upd np _ _ hHm0
    have hHc : (upd H0 p (.lst [])) c = some (.lst (ns.map V.int)) := same_upd np _ _ hHc0
    have hHg : (upd H0 p (.lst [])) g = some (.lst (gs.map V.int)) := same_upd np _ _ hHg0
    have hSD : SameD m g H (upd H0 p (.lst [])) := fun b o h1 h2 e => same_upd np _ _ (hS0 b o h1 h2 e)
    refine ⟨_, _, .lst (.inl (.inl hHg)) (dps gs), .lst (.inl (.inl upd_same)) .nil, shaped_ints gs, shaped_ints [], _, rfl, ?_⟩
    cases gs with
    | nil =>
        have hD : Drw (upd H0 p (.lst [])) m c g (sp + 1) := ⟨hHm, ⟨ns, hn, hHc⟩, ⟨[], by decide, hHg⟩, D.cg⟩
        refine iteF ?_
        obtain ⟨z, hz⟩ := at_int (ns := ns) (i := sp % 64) (by omega) (by omega)
        refine ⟨_, rfl, m, _, rfl, eC _ _ hHm, ?_⟩
        refine ⟨.ref c, rfl, _, rfl, .inl ⟨_, rfl, _, _, rfl, rfl, (by show (0 : Int) < 64; decide), _, _, _, _, rfl, rfl, .inl (.inl hHc), hz, _, rfl, _, _, rfl, rfl, ⟨by decide, by decide⟩, _, _, rfl, rfl, .inl (by decide), _, _, rfl, rfl, _, rfl, ?_⟩⟩
        refine ⟨_, _, rfl, by omega, by omega, fun r1 _ _ => ?_⟩
        refine ⟨_, rfl, _, _, rfl, rfl, ?_⟩
        refine ⟨_, _, rfl, by omega, by omega, fun r2 _ _ => .inl ⟨_, rfl, ?_⟩⟩
        refine ⟨_, rfl, _, _, rfl, rfl, hl0, ?_⟩
        exact q _ _ (Int.emod_nonneg _ (by omega)) (Int.emod_lt_of_pos _ hl0) hD hSD
    | cons x r =>
        refine iteT ?_
        have hlen : 0 < ((x :: r).length : Int) := by
          rw [List.length_cons]
          omega
        generalize x :: r = gs at *
        have h0 : 0 ≤ sp % (gs.length : Int) := Int.emod_nonneg _ (by omega)
        have h1 : sp % (gs.length : Int) < gs.length := Int.emod_lt_of_pos _ hlen
        obtain ⟨y, hy⟩ := at_int (ns := gs) h0 h1
        have hD : Drw (upd H0 p (.lst [])) m c g (sp + 1) := ⟨hHm, ⟨ns, hn, hHc⟩, ⟨gs, hgl, hHg⟩, D.cg⟩
        refine ⟨_, rfl, m, _, rfl, eG _ _ hHm, ?_⟩
        refine ⟨_, rfl, .inl ⟨_, rfl, .ref g, rfl, g, _, rfl, .inl (.inl (.inl hHg)), _, _, rfl, rfl, ?_, ?_⟩⟩
        · show (0 : Int) < ((gs.map V.int).length : Int)
          rw [List.length_map]
          exact hlen
        rw [List.length_map]
        refine ⟨.ref g, rfl, _, rfl, g, _, _, _, rfl, rfl, .inl (.inl hHg), hy, ?_⟩
        refine ⟨_, rfl, _, _, rfl, rfl, _, rfl, ?_⟩
        refine ite2 (fun hpos => ?_) (fun hneg => ?_)
        · refine ⟨_, rfl, _, rfl, _, _, rfl, rfl, ⟨hl0, hl1⟩, .ref g, rfl, _, rfl, g, _, _, _, rfl, rfl, hHg, ix_int h0 (by rw [List.length_map]; exact h1), ?_⟩
          refine ⟨_, rfl, .inl ⟨_, rfl, _, rfl, _, _, rfl, rfl, hl0, ?_⟩⟩
          refine q _ _ (Int.emod_nonneg _ (by omega)) (Int.emod_lt_of_pos _ hl0) ⟨?_, ⟨ns, hn, ?_⟩, ⟨gs.set (sp % (gs.length : Int)).toNat (y / lim), by rw [List.length_set]; exact hgl, ?_⟩, D.cg⟩ fun b o h1 h2 e => ?_
          · rw [upd_ne mgn]
            exact hHm
          · rw [upd_ne D.cg]
            exact hHc
          · rw [upd_same, List.map_set]
          · rw [upd_ne h2]
            exact hSD b o h1 h2 e
        · obtain ⟨z, hz⟩ := at_int (ns := ns) (i := sp % 64) (by omega) (by omega)
          refine ⟨_, rfl, m, _, rfl, eC _ _ hHm, ?_⟩
          refine ⟨.ref c, rfl, _, rfl, .inl ⟨_, rfl, _, _, rfl, rfl, (by show (0 : Int) < 64; decide), _, _, _, _, rfl, rfl, .inl (.inl hHc), hz, _, rfl, _, _, rfl, rfl, ⟨by decide, by decide⟩, _, _, rfl, rfl, .inl (by decide), _, _, rfl, rfl, _, rfl, ?_⟩⟩
          refine ⟨_, _, rfl, by omega, by omega, fun r1 _ _ => ?_⟩
          refine ⟨_, rfl, _, _, rfl, rfl, ?_⟩
          refine ⟨_, _, rfl, by omega, by omega, fun r2 _ _ => .inl ⟨_, rfl, ?_⟩⟩
          refine ⟨_, rfl, _, _, rfl, rfl, hl0, ?_⟩
          exact q _ _ (Int.emod_nonneg _ (by omega)) (Int.emod_lt_of_pos _ hl0) hD hSD
end
end K80

/-! part D2 -/
set_option Elab.async false
set_option linter.all false
set_option maxRecDepth 100000
set_option maxHeartbeats 2000000
namespace K80
open PySem PySem.Spec PyProof.Rows L2
section
variable {P : Program} {w : World} {K : PySem.W.Frag} {mg : Str → Option Value} {base : Heap}
theorem scBegun : FnScope ["script", "m", "cell"] ["script"] (defScope sBegun) := ⟨rfl, rfl, rfl, by decide +kernel, rfl, by decide +kernel, by decide +kernel⟩
theorem blkB : blkC ["script", "m", "cell"] (defScope sBegun) { kind := .function, names := [(".0", .local), ("cell", .local)], isGenerator := false, isCoroutine := false } [("cell", 2)] = true := by decide +kernel
def spBegun (K : PySem.W.Frag) : Sp := fun vs H Q _ => ∃ (a : Addr) (ns : List Int), vs = [.ref a] ∧ SqL K H a (ns.map V.int) ∧ ns.length ≤ 63 ∧ ∀ H' m c g, Same H H' → H m = none → H c = none → H g = none → Drw H' m c g 0 → Q (.ref m) H'
theorem ok_begun {f fF : Addr} {fd fdF : FuncData} {k : Nat} (F : Fun K "_law_begun" "_law_begun" sBegun f fd) (FF : Fun K "_law_folded" "_law_folded" sFolded fF fdF) (bF : Binds K fdF ["script"] []) (gF : mg "_law_folded" = some (.ref fF)) (zi : mg "int" = none) (zr : mg "range" = none) (ze : mg "enumerate" = none) : FnOk P w K mg base CX0 (k + 2) f fd ["script"] (spBegun K) := by
  have GF : FnOk P w K mg base CX0 (k + 1) fF fdF ["script"] (spFolded K) := ok_folded FF zi zr ze
  refine F.ok scBegun (fun vs H Q E h => ?_) (fun cdv A outer s H vs Q E hr h => ?_)
  · obtain ⟨a, ns, rfl, _⟩ := h
    rfl
  · obtain ⟨a, ns, rfl, hS, hlen, q⟩ := h
    have hu := hu_of hr
    refine ⟨_, pss_cons (ps_set (i := 1) scBegun.nd rfl (.inl rfl) (pe_disp (pps_cons pe_str (pe_call GF hr (by rfl) gF FF.kp bF .nil pass0 (pa_cons (pv 0) pa_nil)) (pps_cons pe_str (pe_lst pa_nil) (pps_cons pe_str pe_int pps_nil))) (by rfl) (by rfl) (by simp) (by simp)))
      (pss_cons (ps_dput hu (pv 1) pe_str (pe_lc rfl scBegun.nd (pi_list (pv 0)) (blkOk_by (own := [("cell", 2)]) blkB) (fun s H C cl fp => pg_name (i := 2) scBegun.nd rfl (.inl rfl)) (fun _ _ _ _ _ => pts_nil) (fun _ _ _ _ _ => pe_ifExp (pt_cmpR op_ge (pv 2) (pe_op op_pow pe_int pe_int) (nomark _)) (pv 2) pe_int)) rfl)
      (pss_one (ps_ret (pv 1)))), ?_⟩
    -- m = {..}
    intro m nm
    refine ⟨_, rfl, a, ns, rfl, (same_upd nm).seq hS, hlen, fun H1 c sm1 nc hc => ?_⟩
    have hm1 : H1 m = some (.dK []) := sm1 _ _ upd_same
    have smH1 : Same H H1 := (same_upd nm).trans sm1
    have ncH : H c = none := (same_upd nm).free nc
    have cm : c ≠ m := fun z => by
      rw [z, upd_same] at nc
      cases nc
    refine ⟨Nat.zero_le _, fun p np => ?_⟩
    have pm : p ≠ m := fun z => by
      rw [z, hm1] at np
      cases np
    have hm2 : (upd H1 p (.lst [])) m = some (.dK []) := by
      rw [upd_ne pm.symm]
      exact hm1
    refine ⟨hm2, [(.inr "cells", .ref c), (.inr "great", .ref p), (.inr "spot", .int 0)], rfl, by simp, ?_⟩
    -- m['great'] = [..]
    have hm3 : (upd (upd H1 p (.lst [])) m (.dK (mergeK [] [((.inr "cells" : Key), V.ref c), (.inr "great", .ref p), (.inr "spot", .int 0)]))) m = some (.dK [(.inr "cells", .ref c), (.inr "great", .ref p), (.inr "spot", .int 0)]) := upd_same
    have hs3 : Same H (upd (upd H1 p (.lst [])) m (.dK (mergeK [] [((.inr "cells" : Key), V.ref c), (.inr "great", .ref p), (.inr "spot", .int 0)]))) := same_upd2 nm (same_upd2 (smH1.free np) smH1)
    have hc3 : Cells (upd (upd H1 p (.lst [])) m (.dK (mergeK [] [((.inr "cells" : Key), V.ref c), (.inr "great", .ref p), (.inr "spot", .int 0)]))) c := by
      obtain ⟨zs, h1, h2⟩ := hc
      refine ⟨zs, h1, ?_⟩
      rw [upd_ne cm, upd_ne (ne_of_none h2 np)]
      exact h2
    generalize upd (upd H1 p (.lst [])) m (.dK (mergeK [] [((.inr "cells" : Key), V.ref c), (.inr "great", .ref p), (.inr "spot", .int 0)])) = H3 at hm3 hs3 hc3
    refine ⟨.ref a, rfl, a, rfl, ⟨_, hs3.seq hS⟩, fun g ng => ?_⟩
    have hmc : Same H3 (upd H3 g (.lst [])) := same_upd ng
    refine lc_list (a := a) (xs := ns.map V.int) (fun i Hh => i ≤ ns.length ∧ ∃ gs : List Int, gs.length = i ∧ Hh g = some (.lst (gs.map V.int)) ∧ Same H3 Hh) ⟨Nat.zero_le _, [], rfl, upd_same, same_upd ng⟩ (fun i Hh _ ⟨_, _, _, _, s4⟩ => s4.seq (hs3.seq hS)) ?_ ?_
    · rintro i x Hh hx ⟨hi, gs, hgl, hg, s4⟩
      have hil : i < (ns.map V.int).length := (List.getElem?_eq_some_iff.mp hx).1
      rw [List.length_map] at hil
      obtain ⟨y, rfl⟩ : ∃ y, x = V.int y := by
        rw [List.getElem?_map] at hx
        cases e : ns[i]? with
        | none =>
          rw [e] at hx
          cases hx
        | some z =>
          rw [e] at hx
          exact ⟨z, (Option.some.inj hx).symm⟩
      have fin : ∀ v : Int, ∃ acc, Hh g = some (.lst acc) ∧ acc.length < sizeLine ∧ (i + 1 ≤ ns.length ∧ ∃ gs : List Int, gs.length = i + 1 ∧ (upd Hh g (.lst (acc ++ [V.int v]))) g = some (.lst (gs.map V.int)) ∧ Same H3 (upd Hh g (.lst (acc ++ [V.int v])))) := fun v => by
        refine ⟨_, hg, by rw [List.length_map, hgl]; exact small1000 (by omega), by omega, gs ++ [v], by rw [List.length_append, hgl] <;> rfl, ?_, same_upd2 ng s4⟩
        rw [upd_same, List.map_append] <;> rfl
      refine ⟨rfl, ?_⟩
      refine iteR ?_
      refine ⟨_, rfl, _, _, rfl, rfl, ⟨by decide, by decide, by decide⟩, _, _, rfl, rfl, _, rfl, ?_⟩
      refine ite2 (fun _ => ?_) (fun _ => ?_)
      · exact ⟨_, rfl, fin y⟩
      · exact fin 0
    · rintro Hh ⟨hi, gs, hgl, hg, s4⟩
      rw [List.length_map] at hgl
      have hm4 : Hh m = some (.dK [((.inr "cells" : Key), V.ref c), (.inr "great", .ref p), (.inr "spot", .int 0)]) := s4 _ _ hm3
      have gm : g ≠ m := fun z => by
        rw [z, hm3] at ng
        cases ng
      refine ⟨_, rfl, m, _, rfl, DPut.k (k := .inr "great") hm4 (show 3 < sizeLine by decide), ?_⟩
      refine ⟨_, rfl, q _ m c g (fun b o e => ?_) nm ncH (hs3.free ng) ⟨upd_same, ?_, ⟨gs, by omega, ?_⟩, ?_⟩⟩
      · rw [upd_ne (ne_of_none e nm)]
        exact s4 _ _ (hs3 _ _ e)
      · obtain ⟨zs, h1, h2⟩ := hc3
        refine ⟨zs, h1, ?_⟩
        rw [upd_ne cm]
        exact s4 _ _ h2
      · rw [upd_ne gm]
        exact hg
      · intro z
        obtain ⟨zs, h1, h2⟩ := hc3
        rw [z, ng] at h2
        cases h2
end
end K80

/-! part G1 -/
set_option Elab.async false
set_option linter.all false
set_option maxRecDepth 100000
set_option maxHeartbeats 2000000
/-! ### Promises of defs that are called where no repr is under way (the layer's own FnOk says nothing of that, and repr asks it) -/
namespace KG
open PySem PySem.Spec PyProof.Rows L2
/-- as FnOk, of callers under which no repr is under way -/
structure FnG (P : Program) (w : World) (K : PySem.W.Frag) (mg : Str → Option Value) (base : Heap) (k : Nat) (f : Addr) (fd : FuncData) (ps : List Str) (sp : Sp) : Prop where
  len : ∀ vs H Q E, sp vs H Q E → vs.length = ps.length
  run : ∀ (A : Around) (outer : List Env) (s : Shared) (H : Hp) (args : Args) (us : List Value) (vs : List V) (Q : VK) (E : XK), A.guards = some [] → Room k A → Env0 P w K mg base A outer s H → BindsTo s fd args (ps.zip us) → Vals vs us → sp vs H Q E →
    codeAny (model P w) A (.call (.ref f) args) (CR CX0 outer P w H s Q E) s
theorem gd_deeper (A : Around) (e : Env) : (A.deeper e).guards = A.guards := by
  rfl
section
variable {P : Program} {w : World} {K : PySem.W.Frag} {mg : Str → Option Value} {base : Heap}
theorem fnG_of {k : Nat} {f : Addr} {x qual : Str} {st : Stmt} {fd : FuncData} {N ps : List Str} {sp : Sp} (F : Fun K x qual st f fd) (S : FnScope N ps (defScope st))
    (len : ∀ vs H Q E, sp vs H Q E → vs.length = ps.length)
    (hbody : ∀ (cdv : Value) (A : Around) (outer : List Env) (s : Shared) (H : Hp) (vs : List V) (Q : VK) (E : XK), (A.deeper (envOfC qual (defScope st) s.heap.objs.size f cdv)).guards = some [] → Room k (A.deeper (envOfC qual (defScope st) s.heap.objs.size f cdv)) → sp vs H Q E →
      ∃ t, PSs (cxOf CX0 P w K mg base N qual (defScope st) f cdv A outer s H E).nox (defBody st) t ∧ t { nx := fun _ H' => Q .non H', rt := Q } (start N vs) H) : FnG P w K mg base (k + 1) f fd ps sp := by
  obtain ⟨oc, od, kV, doc, pm, an, cdv, ct, osl, rfl, lk, hcd⟩ := F.ex
  refine ⟨len, fun A outer s H args us vs Q E hgd hr e0 hb r hsp => ?_⟩
  have old : ∀ b o, base.get? b = some o → s.heap.get? b = some o := fun b o e => (e0.bs b o e).1
  have kinds : ∀ y ∈ ps.zip us, (defScope st).names.lookup y.1 = some .local ∨ ((defScope st).names.lookup y.1 = some .cell ∧ ((cellsFrom (s.heap.objs.size + 1) (defScope st).names []).lookup y.1).isSome = true) := fun y hy => by
    obtain ⟨n, v⟩ := y
    exact (S.par n (List.of_mem_zip hy).1).imp id fun q => ⟨q, PySem.W.cellsFrom_some _ _ _ (.inl q)⟩
  have KX : K.In s.heap := e0.mod.kin.keeps old
  refine codeAny_call_function hr.depth (KX _ _ lk) rfl S.co S.gen rfl (PySem.W.codeRec_of KX hcd) (hb _ _ _ _ ?_)
  refine wpAny_newFunctionEnv_cells S.kind kinds fun env he s1 x => ?_
  subst he
  refine ⟨(e0.mod.nolimit.keeps old).keeps x.toInCall.keep, codeAny_func ?_⟩
  obtain ⟨t, ht, hq⟩ := hbody cdv A outer s H vs Q E hgd (hr.deeper _) hsp
  have I := inv_start (CX := CX0) (E := E) S hr.hd e0 (len _ _ _ _ hsp) r x
  refine wpAny_mono (ht.nox.run [] s1 (start N vs) H _ I hq) (fun fl s' hs => ?_) fun e s' hs => hs
  cases fl with
  | ret u => exact let ⟨v, σ', H', J, rv, q⟩ := hs; ⟨v, H', J.os, J.bare, J.base, J.hok, rv, q⟩
  | next => exact let ⟨σ', H', J, q⟩ := hs; ⟨V.non, H', J.os, J.bare, J.base, J.hok, rfl, q⟩
  | brk => exact let ⟨_, _, _, q⟩ := hs; q.elim
  | cont => exact let ⟨_, _, _, q⟩ := hs; q.elim
end
section
variable {X : Cx} {k : Nat} {f : Addr} {fd : FuncData} {ps : List Str} {sp : Sp} {ds : List Value} {dvs : List V} {x : Str} {e : Expr} {es : List Expr} {t : TA} {p pos : Pos}
/-- a call of such a def where no repr is under way -/
theorem pe_callG (F : FnG X.prog X.w X.K X.mg X.base k f fd ps sp) (hgd : X.A.guards = some []) (hr : Room k X.A) (hg : Gl X x) (hm : X.mg x = some (.ref f)) (hk : PySem.W.keepIn X.K (.ref f) = true) (hb : Binds X.K fd ps []) (ha : PA X (e :: es) t)
    (hdb : (x == ("__debug__" : Str)) = false := by decide) (he : starEach (e :: es) X.env = (false, eval e X.env) :: starEach es X.env := by rfl) (hpl : (backTo pos (starEach es X.env)).any (·.1) = false := by rfl) :
    PE X (.Call (.Name x p) (e :: es) [] pos) (tCall sp [] E0 t) := by
  refine ⟨fun pins s σ H Q I h => wpAny_Call_Name_kw (ld_glob I hg hm ?_ hdb)⟩
  refine PySem.W.callWith_K (h₀ := X.base) I.ok.mod.kin hk (thn (ha.run pos pins s σ H _ I h) fun us s1 ⟨vs, H1, I1, r, q⟩ => ⟨I1.kIn, ?_⟩) he hpl
  have r2 : Vals (vs ++ []) (us ++ []) := r.append .nil
  have hl : (us ++ []).length = ps.length := r2.length.symm.trans (F.len _ _ _ _ q)
  refine wpAny_call (codeAny_mono (F.run X.A X.stack s1 H1 ⟨us, []⟩ (us ++ []) (vs ++ []) Q E0 hgd hr I1.env0 (hb s1 us I1.kIn hl) r2 q) fun r s' hq => ?_)
  cases r with
  | error e => exact pass0 pins σ H1 s1 e s' I1 hq
  | ok fl => cases fl with
    | ret u => exact I1.after hq
    | next => exact hq.elim
    | brk => exact hq.elim
    | cont => exact hq.elim
end
end KG

/-! part G2 -/
set_option Elab.async false
set_option linter.all false
set_option maxRecDepth 100000
set_option maxHeartbeats 2000000
/-! ### Nested values and their texts -/
namespace KG
open PySem PySem.Spec PyProof.Rows L2
mutual
/-- a value is this datum: lists, tuples, dicts of texts to ints, nested -/
inductive Dq (H : Hp) : V → PyData → Prop
  | non : Dq H .non .none
  | bl (b : Bool) : Dq H (.bl b) (.bool b)
  | int (i : Int) : Dq H (.int i) (.int i)
  | str (x : Str) : Dq H (.str x) (.str x)
  | lst {a : Addr} {xs : List V} {ds : List PyData} : H a = some (.lst xs) → a ≠ sysModules → DqA H xs ds → Dq H (.ref a) (.list ds)
  | tup {a : Addr} {xs : List V} {ds : List PyData} : H a = some (.tup xs) → DqA H xs ds → Dq H (.ref a) (.tuple ds)
  | dct {a : Addr} {ks : List (Str × Int)} : H a = some (.dK (ks.map fun p => ((.inr p.1 : Key), V.int p.2))) → Dq H (.ref a) (.dict (ks.map fun p => (PyData.str p.1, PyData.int p.2)))
inductive DqA (H : Hp) : List V → List PyData → Prop
  | nil : DqA H [] []
  | cons {v : V} {vs : List V} {d : PyData} {ds : List PyData} : Dq H v d → DqA H vs ds → DqA H (v :: vs) (d :: ds)
end
mutual
theorem Dq.same {H H' : Hp} (S : Same H H') : ∀ (d : PyData) (v : V), Dq H v d → Dq H' v d
  | .none, _, h => by cases h; exact .non
  | .bool b, _, h => by cases h; exact .bl b
  | .int i, _, h => by cases h; exact .int i
  | .str x, _, h => by cases h; exact .str x
  | .list ds, _, h => by
    cases h with
    | lst e n r => exact .lst (S _ _ e) n (DqA.same S ds _ r)
  | .tuple ds, _, h => by
    cases h with
    | tup e r => exact .tup (S _ _ e) (DqA.same S ds _ r)
  | .dict kvs, v, h => by
    generalize hd : PyData.dict kvs = d at h
    cases h with
    | dct e => rw [← hd]; injection hd with hd; rw [hd]; exact .dct (S _ _ e)
    | _ => cases hd
theorem DqA.same {H H' : Hp} (S : Same H H') : ∀ (ds : List PyData) (vs : List V), DqA H vs ds → DqA H' vs ds
  | [], _, h => by cases h; exact .nil
  | d :: ds, _, h => by
    cases h with
    | cons h1 h2 => exact .cons (Dq.same S d _ h1) (DqA.same S ds _ h2)
end
section
variable {X : Cx} {pins : List (Addr × Obj)} {σ : L2.St} {H : Hp} {s : Shared}
theorem keys_read {h : Heap} {prog : Program} {w : World} : ∀ {es : List DictEntry} {vs : List (Key × Value)} {ks : List (Str × Int)}, Pairs (mixKind prog w) es vs → KV (ks.map fun p => ((.inr p.1 : Key), V.int p.2)) vs →
    ReadsAll h (es.map (·.key)) (ks.map fun p => PyData.str p.1) [] ∧ ReadsAll h (es.map (·.val)) (ks.map fun p => PyData.int p.2) [] := by
  intro es vs ks hp
  induction hp generalizing ks with
  | nil =>
    intro hk
    cases ks with
    | nil => exact ⟨.nil, .nil⟩
    | cons k r => cases hk
  | @cons e kv es kvs h1 h2 h3 ih =>
    intro hk
    cases ks with
    | nil => cases hk
    | cons k r =>
      cases hk with
      | cons q hr =>
        obtain ⟨i1, i2⟩ := ih hr
        obtain ⟨q1, q2⟩ := q
        have q1 : (Sum.inr k.1 : Key) = kv.1 := q1
        rw [← q1] at h1
        obtain ⟨t, ht⟩ : ∃ t, e.key = Value.str k.1 t := by
          rcases keyIs_shape (show keyIs (.inr k.1) e.key = true from h1) with ⟨i, t, e1, _⟩ | ⟨x, t, e1, e2⟩
          · cases e1
          · cases e1
            exact ⟨t, e2⟩
        obtain ⟨u, hu⟩ : ∃ u, e.val = Value.int k.2 u := by
          obtain ⟨u, hu⟩ := (show ∃ u, kv.2 = Value.int k.2 u from q2)
          exact ⟨u, h2.trans hu⟩
        refine ⟨?_, ?_⟩
        · show ReadsAll h (e.key :: es.map (·.key)) (PyData.str k.1 :: r.map fun p => PyData.str p.1) ([] ++ [])
          rw [ht]
          exact .cons (.str _ _) i1
        · show ReadsAll h (e.val :: es.map (·.val)) (PyData.int k.2 :: r.map fun p => PyData.int p.2) ([] ++ [])
          rw [hu]
          exact .cons (.int _ _) i2
mutual
theorem Dq.reads (I : Inv X pins σ H s) : ∀ (d : PyData) (v : V) (u : Value), Dq H v d → RelV v u → ∃ as, Reads s.heap u d as ∧ sysModules ∉ as
  | .none, _, _, h, r => by
    cases h
    cases r
    exact ⟨_, .none, by simp⟩
  | .bool b, _, _, h, r => by
    cases h
    cases r
    exact ⟨_, .bool _, by simp⟩
  | .int i, _, _, h, r => by
    cases h
    obtain ⟨t, rfl⟩ := r
    exact ⟨_, .int _ _, by simp⟩
  | .str x, _, _, h, r => by
    cases h
    obtain ⟨t, rfl⟩ := r
    exact ⟨_, .str _ _, by simp⟩
  | .list ds, _, _, h, r => by
    cases h with
    | lst e n ha =>
      cases r
      obtain ⟨its, m, rv, ho, _⟩ := I.lst e
      obtain ⟨as, h1, h2⟩ := DqA.reads I ds _ its ha rv
      exact ⟨_, .list ho rfl rfl h1, fun z => (List.mem_cons.mp z).elim (fun z => n z.symm) h2⟩
  | .tuple ds, _, _, h, r => by
    cases h with
    | tup e ha =>
      cases r
      obtain ⟨its, rv, ⟨o, ho, hc, n, hd⟩, _⟩ := I.tuple (xs := _) (.inl (.inl e))
      obtain ⟨as, h1, h2⟩ := DqA.reads I ds _ its ha rv
      exact ⟨_, .tuple ho hc hd h1, h2⟩
  | .dict kvs, _, _, h, r => by
    generalize hd : PyData.dict kvs = d at h
    cases h with
    | dct e =>
      rename_i a ks
      cases r
      obtain ⟨_, hn, vs, rk, o, es, ep, ho, hx, hdat, _, hp, _⟩ := dk_of I.hok e
      obtain ⟨r1, r2⟩ := keys_read (h := s.heap) hp rk
      refine ⟨a :: [] ++ [], .dict ho hx.1 hdat ?_ ?_, ?_⟩
      · rw [List.map_map]
        exact r1
      · rw [List.map_map]
        exact r2
      · intro z
        have z' : sysModules = a := by simpa using z
        rw [← z'] at hn
        exact absurd hn (by decide)
    | _ => cases hd
theorem DqA.reads (I : Inv X pins σ H s) : ∀ (ds : List PyData) (vs : List V) (us : List Value), DqA H vs ds → Vals vs us → ∃ as, ReadsAll s.heap us ds as ∧ sysModules ∉ as
  | [], _, _, h, r => by
    cases h
    cases r
    exact ⟨_, .nil, by simp⟩
  | d :: ds, _, _, h, r => by
    cases h with
    | cons h1 h2 =>
      cases r with
      | cons r1 r2 =>
        obtain ⟨as, q1, n1⟩ := Dq.reads I d _ _ h1 r1
        obtain ⟨bs, q2, n2⟩ := DqA.reads I ds _ _ h2 r2
        exact ⟨_, .cons q1 q2, fun z => (List.mem_append.mp z).elim n1 n2⟩
end
end
section
variable {X : Cx}
/-- what can be shown with room to spare -/
structure Shw (d : PyData) : Prop where
  sh : d.showable = true
  dp : d.depth ≤ 8
  sz : d.shown.length ≤ 20000
  st : ∀ y : Str, d = .str y → y.length ≤ 20000
theorem Shw.line {d : PyData} (h : Shw d) : d.shown.length ≤ sizeLine := Nat.le_trans h.sz (by decide)
/-- repr(x) -/
theorem call_repr (hg : X.A.guards = some []) (hu : X.A.units + 64 < cLine) : CallR X (.builtin "repr") (fun xs H Q => ∃ v d, xs = [v] ∧ Dq H v d ∧ Shw d ∧ (∃ a, v = .ref a) ∧ Q (.str d.shown) H) := by
  intro pins s σ H xs us Q I r h
  obtain ⟨v, d, rfl, hd, hs, ⟨a, rfl⟩, q⟩ := h
  obtain ⟨u, rfl, ru⟩ := vals1 r
  obtain ⟨as, rd, n⟩ := Dq.reads I d _ u hd ru
  cases ru
  have z := hs.dp
  refine repr_of_reads' rd hs.sh (fun _ => n) hg (by omega) (fun _ _ e => e) (fun h' u tk k => ⟨.str d.shown, H, I.kept (t' := tk) fun b o e => k b o e, ⟨_, rfl⟩, q⟩) hs.line
/-- {x} in an f-string -/
def tFmtD (te : TE) : TE := fun σ H Q => te σ H fun x H1 => ∃ d, Dq H1 x d ∧ Shw d ∧ ∀ y : Str, y.length ≤ 20000 → Q (.str y) H1
theorem pe_fmtD {e : Expr} {te : TE} {pos : Pos} (hg : X.A.guards = some []) (hu : X.A.units + 64 < cLine) (he : PE X e te) : PE X (.FormattedValue e (-1) none pos) (tFmtD te) := by
  refine ⟨fun pins s σ H Q I h => ?_⟩
  refine wpAny_FormattedValue_plain (thn (he.run pins s σ H _ I h) fun v s1 hv => ?_)
  obtain ⟨x, H1, I1, r1, d, hd, hs, q⟩ := hv
  have hz := hs.sz
  have hl := hs.line
  have hp := hs.dp
  cases hd with
  | non =>
    cases r1
    exact wpAny_formatField_none ⟨.str "None", H1, I1.tok _, ⟨_, rfl⟩, q _ hz⟩
  | bl b =>
    cases r1
    exact wpAny_formatField_bool ⟨.str (if b then "True" else "False"), H1, I1.tok _, ⟨_, rfl⟩, q _ (by cases b <;> decide)⟩
  | int i =>
    obtain ⟨t, rfl⟩ := r1
    have hb : i.natAbs.log2 < 1920 := of_decide_eq_true hs.sh
    exact wpAny_formatField_int hb ⟨.str (toString i), H1, I1.tok _, ⟨_, rfl⟩, q _ hz⟩
  | str y =>
    obtain ⟨t, rfl⟩ := r1
    have hy : y.length ≤ 20000 := hs.st y rfl
    exact wpAny_formatField_str ⟨.str y, H1, I1, ⟨t, rfl⟩, q _ hy⟩ ⟨.str y, H1, I1.tok _, ⟨_, rfl⟩, q _ hy⟩ (Nat.le_trans hy (by decide))
  | lst e n ha =>
    obtain ⟨as, rd, n'⟩ := Dq.reads I1 _ _ v (.lst e n ha) r1
    cases r1
    exact formatField_of_reads rd hs.sh (fun _ => n') hg (by omega) (fun _ _ e => e) (fun h' u tk k => ⟨.str _, H1, I1.kept (t' := tk) fun b o e => k b o e, ⟨_, rfl⟩, q _ hz⟩) hl
  | tup e ha =>
    obtain ⟨as, rd, n'⟩ := Dq.reads I1 _ _ v (.tup e ha) r1
    cases r1
    exact formatField_of_reads rd hs.sh (fun _ => n') hg (by omega) (fun _ _ e => e) (fun h' u tk k => ⟨.str _, H1, I1.kept (t' := tk) fun b o e => k b o e, ⟨_, rfl⟩, q _ hz⟩) hl
  | dct e =>
    obtain ⟨as, rd, n'⟩ := Dq.reads I1 _ _ v (.dct e) r1
    cases r1
    exact formatField_of_reads rd hs.sh (fun _ => n') hg (by omega) (fun _ _ e => e) (fun h' u tk k => ⟨.str _, H1, I1.kept (t' := tk) fun b o e => k b o e, ⟨_, rfl⟩, q _ hz⟩) hl
/-- a list display, with one word more on its place -/
def tLstN (t : TA) : TE := fun σ H Q => t σ H fun xs H1 => xs.length ≤ sizeLine ∧ ∀ p, H1 p = none → p ≠ sysModules → Q (.ref p) (upd H1 p (.lst xs))
theorem pe_lstN {es : List Expr} {t : TA} {pos : Pos} (h : PA X es t) : PE X (.List es pos) (tLstN t) := by
  refine ⟨fun pins s σ H Q I hq => wpAny_List_spliced (thn (h.run pos pins s σ H _ I hq) fun us s1 hh => ?_)⟩
  obtain ⟨xs, H1, I1, r, z, q⟩ := hh
  have new : ObjOk X.prog X.w (upd H1 s1.heap.objs.size (.lst xs)) (s1.heap.push { cls := .type "list", data := .seq us.toArray }) s1.heap.objs.size (.lst xs) := ⟨z, us, 0, r, Heap.get?_push_size _ rfl⟩
  exact ⟨by rw [← r.length]; exact z, .ref s1.heap.objs.size, _, I1.laid (t' := s1.toks) (fun b u e => Heap.get?_push_of_some _ e) (Nat.le_refl _) new, rfl, q _ (I1.hok.fresh (Nat.le_refl _)) (Nat.ne_of_gt I1.big)⟩
/-- list + list, likewise -/
def rCatN : R2 := fun x y H Q => ∃ l b xs zs, x = .ref l ∧ y = .ref b ∧ H l = some (.lst xs) ∧ H b = some (.lst zs) ∧ xs.length + zs.length ≤ sizeLine ∧ ∀ p, H p = none → p ≠ sysModules → Q (.ref p) (upd H p (.lst (xs ++ zs)))
theorem op_catN : OpR X (binaryOp .Add) rCatN := by
  intro pins s σ H x y v u Q I rx ry h
  obtain ⟨l, b, xs, zs, rfl, rfl, hH, hB, hz, q⟩ := h
  cases rx
  cases ry
  obtain ⟨z, its, n, r, hl, e⟩ := I.lstM hH
  obtain ⟨z2, its2, n2, r2, hl2, e2⟩ := I.lstM hB
  refine PySem.P.add_list e e2 ?_ (by simp only [List.size_toArray]; omega)
  rw [show its.toArray ++ its2.toArray = (its ++ its2).toArray by simp]
  exact ⟨.ref s.heap.objs.size, _, I.lnew (t' := s.toks) (r.append r2) (by simp only [List.length_append]; omega), rfl, q _ I.fresh (Nat.ne_of_gt I.big)⟩
end
end KG

/-! part G3 -/
set_option Elab.async false
set_option linter.all false
set_option maxRecDepth 100000
set_option maxHeartbeats 4000000
/-! ### Own exceptions as values: made by place or by names, over any built-in base -/
namespace KG
open PySem PySem.Spec PyProof.Rows L2 PySem.HandSPX
section
variable {prog : Program} {w : World} {A : Around} {E : Value → Shared → Prop} {R : Result → Shared → Prop} {h : Heap} {g : Array GenState} {d : Drawn} {t : Nat} {os : OsState}
variable {nm q : Str} {C N : Addr} {bs bm bmB : List Value} {hdct : Bool} {sn : List Str} {sub : List Value} {ab : Bool} {col : Option Bool} {dd : Option Addr} {k0 k1 k2 k3 k5 : Option Value} {B newId initId : String}
theorem checkK (F : ExcBaseFacts B newId initId bmB) (hT : ∀ X : String, bm.contains (.type X) = bmB.contains (.type X)) {kw : List (Str × Value)} {Q : Unit → Shared → Prop} {M : Model}
    (hC : h.get? C = some (excClassObj nm q C N bs bm hdct sn sub ab col dd k0 k1 k2 k3 k5 newId)) (hq : Q () ⟨h, g, d, t, os⟩) : wpAny M A (checkBuiltinCall newId ⟨[.ref C], kw⟩) Q E ⟨h, g, d, t, os⟩ := by
  have own : (Value.ref C :: bm).contains (.type B) = true := by rw [List.contains_cons, hT, F.hasB, Bool.or_true]
  have star := F.noStar
  simp only [checkBuiltinCall, F.newKind, F.newSplit, F.newRow]
  repeat (first | refine wpAny_loadPart_at hC ?_ | (refine wpAny_isSubtype_exc hC ?_; rw [own]) | refine wpAny_staticBase_exc hC ?_ | refine wpAny_madeBy_exc hC ?_ | simp only [bne_self_eq_false, Bool.false_eq_true, if_false] | wp_step)
  exact hq
theorem newK (F : ExcBaseFacts B newId initId bmB) (hT : ∀ X : String, bm.contains (.type X) = bmB.contains (.type X)) {kw : List (Str × Value)}
    (hC : h.get? C = some (excClassObj nm q C N bs bm hdct sn sub ab col dd k0 k1 k2 k3 k5 newId))
    (hq : R (.ok (.ret (.ref (h.objs.size + 1)))) ⟨(h.push (PySem.W.kdv_tup [])).push (excO C h.objs.size), g, d, t, os⟩) :
    codeAny (model prog w) A (.builtin newId ⟨[.ref C], kw⟩) R ⟨h, g, d, t, os⟩ := by
  have ends := F.ends
  have c1 : (Value.ref C :: bm).contains (.type B) = true := by rw [List.contains_cons, hT, F.hasB, Bool.or_true]
  have c2 : (Value.ref C :: bm).contains (.type "AttributeError") = false := by rw [List.contains_cons, hT, F.noAttr]; rfl
  have c3 : (Value.ref C :: bm).contains (.type "NameError") = false := by rw [List.contains_cons, hT, F.noName]; rfl
  refine codeAny_builtinAt F.entry ?_
  unfold Builtin.«BaseException.__new__»
  refine PySem.wpAt_bind ?_
  show PySem.wpAt _ _ _ (stack >>= _) _ _ _
  refine PySem.wpAt_bind (PySem.wpAt_stack fun p below => PySem.wpAt_of_wpAny ?_)
  wp_walk
  refine PySem.wpAt_of_wpAny ?_
  rw [F.owner]
  repeat (first | with_reducible refine wpAny_madeHere_exc F.canon hC ?_ | with_reducible refine wpAny_loadPart_at hC ?_ | (with_reducible refine wpAny_isSubtype_exc hC ?_; first | rw [c1] | rw [c2] | rw [c3]) | wp_step)
  show R _ _
  rw [Heap.size_push]
  exact hq
theorem typeCallK (F : ExcBaseFacts B newId initId bmB) (hT : ∀ X : String, bm.contains (.type X) = bmB.contains (.type X)) {kw : List (Str × Value)} {fI : Addr} {Q : Fin → Shared → Prop}
    (hC : h.get? C = some (excClassObj nm q C N bs bm hdct sn sub ab col dd k0 k1 k2 k3 k5 newId))
    (hi : PySem.W.Looks (model prog w) h (typeLookup (.ref C) "__init__") (some (.ref fI))) (hb : ∀ self, PySem.W.Looks (model prog w) h (bindSpecial (.ref fI) self) (.ref fI, [self]))
    (hq : codeAny (model prog w) A (.call (.ref fI) ⟨[.ref (h.objs.size + 1)], kw⟩)
      (fun r s' => match r with | .ok (.ret v) => v = .none ∧ Q (.done (.ret (.ref (h.objs.size + 1)))) s' | .ok _ => False | .error e => E e s')
      ⟨(h.push (PySem.W.kdv_tup [])).push (excO C h.objs.size), g, d, t, os⟩) :
    wpAny (model prog w) A (Builtin.«type.__call__» ⟨[.ref C], kw⟩) Q E ⟨h, g, d, t, os⟩ := by
  repeat (first | with_reducible refine wpAny_loadPart_at hC ?_ | with_reducible refine wpAny_madeBy_exc hC ?_ | wp_step)
  refine codeAny_call_builtin_code (Code.quiet_builtin _ F.quiet) (checkK F hT hC ?_)
  refine newK F hT hC ?_
  show wpAny _ _ _ _ _ _
  have keep : ∀ b o, h.get? b = some o → ((h.push (PySem.W.kdv_tup [])).push (excO C h.objs.size)).get? b = some o := fun b o e => Heap.get?_push_of_some _ (Heap.get?_push_of_some _ e)
  have here : ((h.push (PySem.W.kdv_tup [])).push (excO C h.objs.size)).get? (h.objs.size + 1) = some (excO C h.objs.size) := by heap_get
  have cC : (Value.ref C :: bm).contains (.ref C) = true := by simp
  have hC1 := keep _ _ hC
  unfold isInstance
  repeat (first | with_reducible refine wpAny_loadPart_at here ?_ | (with_reducible refine wpAny_isSubtype_exc hC1 ?_; rw [cC]) | wp_step)
  show wpAny _ _ (typeLookup (.ref C) _) _ _ _
  refine (hi.keeps keep).at ?_
  refine wpAny_holding (wpAny_bind (((hb (.ref (h.objs.size + 1))).keeps keep).at ?_))
  refine wpAny_bind (wpAny_call (codeAny_mono hq fun r s' z => ?_))
  rcases r with e | (v | _ | _ | _) <;> first | exact z | exact z.elim | skip
  obtain ⟨rfl, z⟩ := z
  first
    | exact wpAny_pure (wpAny_pure z)
    | (wp_walk; exact z)
theorem callK (F : ExcBaseFacts B newId initId bmB) (hT : ∀ X : String, bm.contains (.type X) = bmB.contains (.type X)) {kw : List (Str × Value)} {fI : Addr}
    (hC : h.get? C = some (excClassObj nm q C N bs bm hdct sn sub ab col dd k0 k1 k2 k3 k5 newId))
    (hi : PySem.W.Looks (model prog w) h (typeLookup (.ref C) "__init__") (some (.ref fI))) (hb : ∀ self, PySem.W.Looks (model prog w) h (bindSpecial (.ref fI) self) (.ref fI, [self]))
    (hq : codeAny (model prog w) (A.under (.builtin "type.__call__" ⟨[.ref C], kw⟩)) (.call (.ref fI) ⟨[.ref (h.objs.size + 1)], kw⟩) (PySem.W.InitBack (h.objs.size + 1) R)
      ⟨(h.push (PySem.W.kdv_tup [])).push (excO C h.objs.size), g, d, t, os⟩) :
    codeAny (model prog w) A (.call (.ref C) ⟨[], kw⟩) R ⟨h, g, d, t, os⟩ := by
  have f1 := tc_lookup
  have f2 := tc_bind (.ref C)
  have ty : (⟨h, g, d, t, os⟩ : Shared).TypeIs (.ref C) "type" := ⟨_, hC, rfl⟩
  refine codeAny_of_tree ?_
  show wpAny _ _ (callAny (.ref C) _) _ _ _
  repeat (any_goals (first | assumption | with_reducible refine wpAny_loadPart_at hC ?_ | wp_step))
  refine ⟨rfl, codeAny_call_builtin_at (Code.quiet_builtin _ (by decide +kernel)) entry_typeCall ?_⟩
  refine wpAny_check_type_call_sub hC (typeCallK F hT hC hi hb ?_)
  refine codeAny_mono hq fun r s' z => ?_
  rcases r with e | (v | _ | _ | _) <;> exact z
end
end KG

/-! part G4 -/
set_option Elab.async false
set_option linter.all false
set_option maxRecDepth 100000
set_option maxHeartbeats 4000000
/-! ### Own exceptions as values: the rules -/
namespace KG
open PySem PySem.Spec PyProof.Rows L2 PySem.HandSPX
open Builtin Builtin.ObjectAttr
/-- what the written part says of an own exception class over a built-in one -/
structure XB (K : PySem.W.Frag) (C : Addr) (newId : String) (bmB : List Value) : Prop where
  cls : ∃ nm q N bs bm sn sub ab col dd k0 k1 k2 k3 k5, K.lookup C = some (excClassObj nm q C N bs bm true sn sub ab col dd k0 k1 k2 k3 k5 newId) ∧ PySem.W.excTail bmB bm = true
  sa : PySem.W.findIn K (.ref C) "__setattr__" = some (some (.builtin "object.__setattr__"))
  ov : PySem.W.excOver K C bmB = true
  hd : PySem.W.hasDictIn K C = true
  kC : PySem.W.keepIn K (.ref C) = true
section
variable {prog : Program} {w : World} {A : Around} {R : Result → Shared → Prop} {hp : Heap} {g : Array GenState} {d : Drawn} {t : Nat} {os : OsState} {K : PySem.W.Frag} {B : String} {bmB : List Value}
theorem gosa {name : Str} {tk : Tok} {v : Value} {x C : Addr} {fv : Array Value} (SF : StoreFacts B bmB "object.__setattr__" "object") (X : K.In hp) (hx : hp.get? x = some { cls := .ref C, data := .fields fv })
    (hov : PySem.W.excOver K C bmB = true) (hh : PySem.W.hasDictIn K C = true) (ht : PySem.W.takerIn K C name = some none)
    (hq : ∀ h' tk' dx, (∀ b o, b ≠ x → hp.get? b = some o → h'.get? b = some o) → hp.objs.size ≤ dx → dx ≠ x → h'.get? x = some { cls := .ref C, dict := some dx, data := .fields fv } →
      h'.Ns1 dx (fun y => if y = name then some v else none) → R (.ok (.ret .none)) ⟨h', g, d, tk', os⟩) :
    codeAny (model prog w) A (.call (.builtin "object.__setattr__") ⟨[.ref x, .str name tk, v], []⟩) R ⟨hp, g, d, t, os⟩ := by
  have xs : x ≠ hp.objs.size := Nat.ne_of_lt (Heap.lt_size hx)
  obtain ⟨cd, hcd, hd⟩ := PySem.W.any_some hh
  refine PySem.W.osa_openX (od := none) SF X ⟨hx, rfl, rfl, trivial⟩ hov ht fun b => ?_
  have hcls : PySem.W.Looks (model prog w) hp (classData C) cd := PySem.W.looks_clsIn X hcd
  show wpAny _ _ (storeInOwnDict (.ref x) (.ref C) (.str name tk) name v b) _ _ _
  obtain ⟨nm, bs, mro, ns, qn, hd', sn, sb, ab, col, del⟩ := cd
  dsimp only at hd
  subst hd
  unfold storeInOwnDict ownDictForStores
  repeat (first | with_reducible refine store_in_new ?_ ?_ | with_reducible refine wpAny_loadPart_at hx ?_ | with_reducible refine hcls.at ?_ | wp_step)
  · exact ⟨_, #[], _, (Heap.get?_update_ne _ _ _ _ xs.symm).trans (Heap.get?_push_at rfl rfl), rfl, fun e he => absurd he (by simp), fun _ => rfl⟩
  · intro h' tk' hn' hs
    have hx1 : (hp.push { cls := .type "dict", data := .dict #[] }).get? x = some { cls := .ref C, data := .fields fv } := Heap.get?_push_of_some _ hx
    refine hq h' tk' hp.objs.size (fun b o hb ho => (hs.2 b (Nat.ne_of_lt (Heap.lt_size ho))).trans ((Heap.get?_update_ne _ _ _ _ hb).trans (Heap.get?_push_of_some _ ho))) (Nat.le_refl _) xs.symm ((hs.2 x xs).trans (Heap.get?_update_self _ hx1 rfl)) hn'
end
section
variable {X : Cx} {pins : List (Addr × Obj)} {σ : L2.St} {H : Hp} {s : Shared} {a C : Addr} {f : Str} {y : V} {u : Value} {E : Value → Shared → Prop} {A : Around} {B newId initId : String} {bmB : List Value}
/-- self.f = y, the first field -/
theorem gst_new {Q : Unit → Shared → Prop} (T : XB X.K C newId bmB) (SF : StoreFacts B bmB "object.__setattr__" "object") (I : Inv X pins σ H s) (e : H a = some (exo a C none)) (ht : PySem.W.takerIn X.K C f = some none) (ry : RelV y u)
    (h : ∀ dx s', H dx = none → dx ≠ a → Inv X pins σ (upd (upd H dx (exd dx [(f, y)])) a (exo a C (some dx))) s' → Q () s') : wpAny (model X.prog X.w) A (setAttr (.ref a) f u) Q E s := by
  obtain ⟨t1, ho⟩ := exo_at I.hok e
  obtain ⟨hp, g, d, t, os⟩ := s
  refine PySem.W.set_plain I.kIn (ox := { cls := .ref C, dict := none, data := .fields #[.ref t1, .none, .none, .none, .bool false, .none] }) (od := none) ⟨ho, rfl, rfl, trivial⟩ T.sa ?_
  refine gosa SF I.kIn ho T.ov T.hd ht fun h' tk' dx k dn dne hx hn => ?_
  have free : H dx = none := I.hok.fresh dn
  have offd : ∀ {b : Addr} {o : Obj}, hp.get? b = some o → b ≠ dx := fun q => Nat.ne_of_lt (Nat.lt_of_lt_of_le (Heap.lt_size q) dn)
  have offa : ∀ {b : Addr}, H b = none → b ≠ a := fun n z => by
    rw [z, e] at n
    cases n
  have same : ∀ {b : Addr} {o : HO}, H b = some o → b ≠ a → (upd (upd H dx (exd dx [(f, y)])) a (exo a C (some dx))) b = some o := fun q hb => by
    rw [upd_ne hb, upd_ne (ne_of_none q free)]
    exact q
  have U : Un X.fs [] H (upd (upd H dx (exd dx [(f, y)])) a (exo a C (some dx))) hp h' :=
    ⟨fun b o q n _ _ => k b o (offa n) q, fun b o q n _ _ => ⟨o.slots, k b o (offa n) q⟩, fun b o q n _ => by rw [upd_ne (offa n), upd_ne (offd q)]; exact n,
      fun b o q _ => (Classical.em (b = a)).elim (fun hb => ⟨_, hb ▸ hx⟩) fun hb => ⟨o, k b o hb q⟩,
      fun b xs q => same q (at_ne e q exo_tup), fun b o v q => same q (at_ne e q exo_frz), fun b ps q => ⟨#[], by rw [same q (at_ne e q exo_tbl)]; simp⟩⟩
  refine h dx _ free dne (I.un (t' := tk') U fun b o q => ?_)
  by_cases hb : b = a
  · subst hb
    rw [upd_same] at q
    cases q
    exact exo_ok hx
  rw [upd_ne hb] at q
  by_cases hd : b = dx
  · subst hd
    rw [upd_same] at q
    cases q
    exact exd_ok hn (relO_put (fs := []) ry fun g => True.intro)
  rw [upd_ne hd] at q
  exact (I.hok b o q).stay (fun c v hc z => k c v (hc.elim (fun hc => hc ▸ hb) fun hc => at_ne e hc exo_own) z) (fun c hc => same hc (at_ne e hc exo_own)) fun c xs hc => same hc (at_ne e hc exo_tup)
/-- B.__init__(self, ..) -/
theorem ginit {us : List Value} {Q : Value → Shared → Prop} (F : ExcBaseFacts B newId initId bmB) (T : XB X.K C newId bmB) (I : Inv X pins σ H s) (e : H a = some (exo a C none)) (hl : us.length ≤ sizeLine) (h : ∀ s', Inv X pins σ H s' → Q .none s') :
    wpAny (model X.prog X.w) A (call (.builtin initId) (.ref a :: us)) Q E s := by
  obtain ⟨nm, q, N, bs, bm, sn, sub, ab, col, dd, k0, k1, k2, k3, k5, hC, hbm⟩ := T.cls
  obtain ⟨t1, ho⟩ := exo_at I.hok e
  obtain ⟨hp, g, d, t, os⟩ := s
  refine wpAny_call (PySem.HandSPX.init_base F (fun Y => PySem.W.excTail_contains Y bm hbm) (I.kIn _ _ hC) ho hl fun h' t2 k hx => h _ ?_)
  have J := I.write (t' := t) (x := a) (e := a) (o := exo a C none) (by rw [e]; exact True.intro) (.inl rfl) k ⟨_, hx⟩ (exo_ok hx)
  rwa [show upd H a (exo a C none) = H from funext fun b => (Classical.em (b = a)).elim (fun hb => by rw [hb, upd_same, e]) fun hb => upd_ne hb] at J
end
end KG

/-! part G5 -/
set_option Elab.async false
set_option linter.all false
set_option maxRecDepth 100000
set_option maxHeartbeats 4000000
namespace KG
open PySem PySem.Spec PyProof.Rows L2 PySem.HandSPX
/-- B.__init__(self, ..), of whatever class it is read -/
def tBI (K : PySem.W.Frag) (newId : String) (bmB : List Value) (ta : TA) : TE := fun σ H Q => ta σ H fun vs H1 => ∃ (a C : Addr) (ws : List V), vs = .ref a :: ws ∧ ws.length ≤ 1000 ∧ XB K C newId bmB ∧ H1 a = some (exo a C none) ∧ Q .non H1
/-- self.f = e, the first field -/
def tGst (K : PySem.W.Frag) (newId : String) (bmB : List Value) (f : Str) (to te : TE) : TS := fun D σ H => te σ H fun y H1 => to σ H1 fun x H2 => ∃ a C : Addr, x = .ref a ∧ XB K C newId bmB ∧ PySem.W.takerIn K C f = some none ∧
  H2 a = some (exo a C none) ∧ ∀ dx, H2 dx = none → dx ≠ a → D.nx σ (upd (upd H2 dx (exd dx [(f, y)])) a (exo a C (some dx)))
/-- C(e, ..) as a value -/
def tXv (C : Addr) (sp : Sp) (ta : TA) : TE := fun σ H Q => ta σ H fun vs H1 => vs.length ≤ 1000 ∧ ∀ a, H1 a = none → sp (.ref a :: vs) (upd H1 a (exo a C none)) (fun v H2 => v = .non ∧ Q (.ref a) H2) E0
/-- C(k = v, ..) as a value: perm puts the keywords' values into the order of the parameters -/
def tXk (C : Addr) (n : Nat) (perm : List V → List V) (sp : Sp) (tk : TA) : TE := fun σ H Q => tk σ H fun zs H1 => zs.length = n ∧ ∀ a, H1 a = none → sp (.ref a :: perm zs) (upd H1 a (exo a C none)) (fun v H2 => v = .non ∧ Q (.ref a) H2) E0
/-- e.f of such a value -/
def tXat (K : PySem.W.Frag) (f : Str) (te : TE) : TE := fun σ H Q => te σ H fun x H1 => ∃ (a C d : Addr) (fs : List (Str × V)) (v : V), x = .ref a ∧ H1 a = some (exo a C (some d)) ∧ H1 d = some (exd d fs) ∧ ExcC K C ∧ PySem.W.findIn K (.ref C) f = some none ∧ fs.lookup f = some v ∧ Q v H1
section
variable {X : Cx} {o e : Expr} {es : List Expr} {kws : List Keyword} {to te : TE} {ta tk : TA} {f x : Str} {p p' p1 p2 pos : Pos} {B newId initId : String} {bmB : List Value}
theorem after_init {pins : List (Addr × Obj)} {s1 : Shared} {σ : L2.St} {H1 : Hp} {Q : VK} {us : List Value} {vs : List V} {a C : Addr} {ws : List V} (F : ExcBaseFacts B newId initId bmB) (I1 : Inv X pins σ H1 s1) (r1 : Vals vs us) (ev : vs = .ref a :: ws) (hl : ws.length ≤ 1000) (T : XB X.K C newId bmB) (ea : H1 a = some (exo a C none)) (q : Q .non H1) :
    wpAny (model X.prog X.w) X.A (call (.builtin initId) us) (EP X pins σ Q) X.xe s1 := by
  subst ev
  cases r1 with
  | @cons _ u0 _ ur ra rw' =>
    obtain rfl : u0 = Value.ref a := ra
    have hlen : ur.length ≤ sizeLine := by
      rw [← Paired.length rw', sizeLine_eq]
      omega
    exact ginit F T I1 ea hlen fun s' J => ⟨.non, H1, J, rfl, q⟩
theorem pe_ownInit {F0 : Addr} {pl : Sem Bool} (F : ExcBaseFacts B newId initId bmB) (hg : Gl X x) (hm : X.mg x = some (.ref F0)) (ga : PySem.W.specialIn X.K (.ref F0) "__getattribute__" = some (some (.builtin "type.__getattribute__")))
    (rd : PySem.W.readsIn X.K F0 (.type "type") = true) (fc : PySem.W.findCls X.K (.ref F0) (.type "type") "__init__" = some (.val (.builtin initId))) (hh : PySem.W.handedIn (.builtin initId) = true) (ha : PA X (e :: es) ta)
    (hc : eval (.Call (.Attribute (.Name x p1) "__init__" p2) (e :: es) [] pos) X.env = (do
      let ov ← eval (.Name x p1) X.env
      standAt p2.atName
      let (f, first) ← holding [ov] (getMethod ov "__init__" pl)
      callWith pos f first (backTo pos (starEach (e :: es) X.env)) (backToKw pos (keywordEach [] X.env))) := by rfl)
    (hdb : (x == ("__debug__" : Str)) = false := by decide) (he : starEach (e :: es) X.env = (false, eval e X.env) :: starEach es X.env := by rfl) (hpl : (backTo pos (starEach es X.env)).any (·.1) = false := by rfl) :
    PE X (.Call (.Attribute (.Name x p1) "__init__" p2) (e :: es) [] pos) (tBI X.K newId bmB ta) := by
  refine ⟨fun pins s σ H Q I h => PySem.W.methodCall_KW (ld_glob I hg hm ?_ hdb) hc⟩
  refine PySem.W.method_cls I.kIn ga (PySem.W.cls_value I.kIn rd fc hh ?_)
  show wpAny _ _ (callWith pos (Value.builtin initId) [] (backTo pos (starEach (e :: es) X.env)) []) _ _ _
  refine PyProof.Rows.callWith_method1 (thn (ha.run pos pins _ σ H _ (I.tok _) h) fun us s1 ⟨vs, H1, I1, r1, a, C, ws, ev, hl, T, ea, q⟩ => ?_) he hpl
  exact after_init F I1 r1 ev hl T ea q
theorem typ_OE : typeOf (.type "OverflowError") = pure (.type "type") := by kernel_rfl
theorem pe_oeInit {pl : Sem Bool} (hg : Gl X "OverflowError") (hm : X.mg "OverflowError" = none) (fc : PySem.W.findCls X.K (.type "OverflowError") (.type "type") "__init__" = some (.val (.builtin "OverflowError.__init__"))) (ha : PA X (e :: es) ta)
    (hc : eval (.Call (.Attribute (.Name "OverflowError" p1) "__init__" p2) (e :: es) [] pos) X.env = (do
      let ov ← eval (.Name "OverflowError" p1) X.env
      standAt p2.atName
      let (f, first) ← holding [ov] (getMethod ov "__init__" pl)
      callWith pos f first (backTo pos (starEach (e :: es) X.env)) (backToKw pos (keywordEach [] X.env))) := by rfl)
    (he : starEach (e :: es) X.env = (false, eval e X.env) :: starEach es X.env := by rfl) (hpl : (backTo pos (starEach es X.env)).any (·.1) = false := by rfl) :
    PE X (.Call (.Attribute (.Name "OverflowError" p1) "__init__" p2) (e :: es) [] pos) (tBI X.K "OverflowError.__new__" [.type "OverflowError", .type "ArithmeticError", .type "Exception", .type "BaseException", .type "object"] ta) := by
  refine ⟨fun pins s σ H Q I h => PySem.W.methodCall_KW (ld_blt I hg hm PyProof.Rows.Boot.«OverflowError» ?_ (by decide) (by decide)) hc⟩
  obtain ⟨m, fr⟩ := I.fr
  refine PySem.W.method_type fr I.ok.mod.kin typ_OE (by decide +kernel) fc (by decide +kernel) ?_
  show wpAny _ _ (callWith pos (Value.builtin "OverflowError.__init__") [] (backTo pos (starEach (e :: es) X.env)) []) _ _ _
  refine PyProof.Rows.callWith_method1 (thn (ha.run pos pins _ σ H _ (I.tok _) h) fun us s1 ⟨vs, H1, I1, r1, a, C, ws, ev, hl, T, ea, q⟩ => ?_) he hpl
  exact after_init F.excBase_OverflowError I1 r1 ev hl T ea q
theorem ps_gst (SF : StoreFacts B bmB "object.__setattr__" "object") (ho : PE X o to) (he : PE X e te) (hs : swapsWith e (some (.Attribute o f p')) pos.line X.env = pure false := by rfl) : PS X (.Assign [.Attribute o f p'] e pos) (tGst X.K newId bmB f to te) := by
  refine ⟨fun pins s σ H D I h => ?_⟩
  refine plainObj_wpAny_Assign_Attribute (thn (he.run pins s σ H _ I h) fun v s1 ⟨y, H1, I1, r1, q1⟩ => thn (ho.run pins s1 σ H1 _ I1 q1) fun u s2 ⟨x, H2, I2, r2, a, C, ex, T, ht, ea, q⟩ => ?_) hs
  subst ex
  obtain rfl : u = Value.ref a := r2
  exact gst_new T SF I2 ea ht r1 fun dx s' n ne J => ⟨σ, _, J, q dx n ne⟩
theorem pe_xat (he : PE X e te) (hb : attributeBase e f X.env (eval e X.env) = eval e X.env := by rfl) : PE X (.Attribute e f pos) (tXat X.K f te) := by
  refine ⟨fun pins s σ H Q I h => attr_of hb (thn (he.run pins s σ H _ I h) fun u s1 hh => ?_)⟩
  obtain ⟨x, H1, I1, rx, a, C, d, fs, v, ex, ea, ed, T, hno, hl, q⟩ := hh
  subst ex
  obtain rfl : u = Value.ref a := rx
  obtain ⟨t1, ho⟩ := exo_at I1.hok ea
  obtain ⟨mA, hns, hr⟩ := exd_at I1.hok ed
  obtain ⟨od, hod, hlk⟩ := lookIn_ns hns
  obtain ⟨w', hw, rw'⟩ := RelO.some_of (v := v) (o := mA f) (by rw [← hl]; exact hr f)
  have J : PySem.W.InstAt s1.heap a { cls := .ref C, dict := some d, data := .fields #[.ref t1, .none, .none, .none, .bool false, .none] } C (some od) := ⟨ho, rfl, rfl, hod⟩
  exact PySem.HandSPX.exc_get I1.kIn J T.hg T.hk T.hs (PySem.W.findObj_own T.hd hno rfl (by rw [hlk, hw])) (handed_of rw') ⟨v, H1, I1.tok _, rw', q⟩
/-- isinstance(e, c), e such a value -/
theorem call_isX : CallR X (.builtin "isinstance") (fun xs H Q => ∃ (a C d : Addr) (fs : List (Str × V)) (c : V) (cv : Value) (b : Bool), xs = [.ref a, c] ∧ H a = some (exo a C (some d)) ∧ H d = some (exd d fs) ∧ ExcC X.K C ∧ ClsV c cv ∧ PySem.W.kitOne X.K (.ref C) cv = some b ∧ Q (.bl b) H) := by
  intro pins s σ H xs us Q I r h
  obtain ⟨a, C, d, fs, c, cv, b, rfl, ea, ed, T, k, e, q⟩ := h
  obtain ⟨u1, u2, rfl, r1, r2⟩ := vals2 r
  have e2 := k.eq r2
  subst e2
  obtain rfl : u1 = Value.ref a := r1
  obtain ⟨t1, ho⟩ := exo_at I.hok ea
  obtain ⟨mA, hns, hr⟩ := exd_at I.hok ed
  obtain ⟨od, hod, hlk⟩ := lookIn_ns hns
  have J : PySem.W.InstAt s.heap a { cls := .ref C, dict := some d, data := .fields #[.ref t1, .none, .none, .none, .bool false, .none] } C (some od) := ⟨ho, rfl, rfl, hod⟩
  have cl : (PySem.W.clsIn X.K C).isSome = true := by
    obtain ⟨cd, hc, _⟩ := PySem.W.any_some T.hd
    rw [hc]
    rfl
  exact PySem.W.kia_one (PySem.W.kitx_exc cl T.hg T.hk T.hs T.ha T.hn T.ht T.hm) I.kIn J e (fun z => nomatch z) fun tk => ⟨.bl b, H, I.kept (t' := tk) fun _ _ z => z, rfl, q⟩
/-- the class at C, made with these arguments: the object is laid, then its own __init__ runs -/
theorem run_xv {C fI : Addr} {k : Nat} {fd : FuncData} {ps : List Str} {sp : Sp} {pins : List (Addr × Obj)} {σ : L2.St} {H1 : Hp} {s1 : Shared} {Q : VK} {us bs : List Value} {vs : List V} {kw : List (Str × Value)} (F : ExcBaseFacts B newId initId bmB) (T : XB X.K C newId bmB)
    (iC : PySem.W.findIn X.K (.ref C) "__init__" = some (some (.ref fI))) (tI : PySem.W.typeIn X.K (.ref fI) = some (.type "function")) (F1 : FnG X.prog X.w X.K X.mg X.base k fI fd ps sp) (hgd : X.A.guards = some []) (hr : Room (k + 1) X.A)
    (I1 : Inv X pins σ H1 s1) (hus : us.length ≤ sizeLine) (hk : us = [] ∨ kw = []) (hb : ∀ a : Addr, BindsTo (⟨(s1.heap.push (PySem.W.kdv_tup us)).push (PySem.HandSPX.excO C s1.heap.objs.size), s1.gens, s1.drawn, s1.toks, s1.os⟩ : Shared) fd ⟨.ref a :: us, kw⟩ (ps.zip (.ref a :: bs))) (rb : Vals vs bs)
    (q : ∀ a, H1 a = none → sp (.ref a :: vs) (upd H1 a (exo a C none)) (fun v H2 => v = .non ∧ Q (.ref a) H2) E0) :
    wpAny (model X.prog X.w) X.A (call (.ref C) us kw) (EP X pins σ Q) X.xe s1 := by
  obtain ⟨nm, qn, N, bs', bm, sn, sub, ab, col, dd, k0, k1, k2, k3, k5, hC, hbm⟩ := T.cls
  obtain ⟨hp, g, dr, tk, os⟩ := s1
  have sz : hp.objs.size ≤ hp.objs.size + 1 := Nat.le_succ _
  have kk : ∀ b o, hp.get? b = some o → ((hp.push (PySem.W.kdv_tup us)).push (PySem.HandSPX.excO C hp.objs.size)).get? b = some o := fun b o e => Heap.get?_push_of_some _ (Heap.get?_push_of_some _ e)
  have here : ((hp.push (PySem.W.kdv_tup us)).push (PySem.HandSPX.excO C hp.objs.size)).get? (hp.objs.size + 1) = some (PySem.HandSPX.excO C hp.objs.size) := by heap_get
  have I2 : Inv X pins σ (upd H1 (hp.objs.size + 1) (exo (hp.objs.size + 1) C none)) ⟨(hp.push (PySem.W.kdv_tup us)).push (PySem.HandSPX.excO C hp.objs.size), g, dr, tk, os⟩ := I1.laid (t' := tk) kk sz (exo_ok here)
  have hq := q (hp.objs.size + 1) (I1.hok.fresh sz)
  have fin : ∀ (A' : Around), A'.guards = some [] → Room k A' → Env0 X.prog X.w X.K X.mg X.base A' X.stack ⟨(hp.push (PySem.W.kdv_tup us)).push (PySem.HandSPX.excO C hp.objs.size), g, dr, tk, os⟩ (upd H1 (hp.objs.size + 1) (exo (hp.objs.size + 1) C none)) →
      codeAny (model X.prog X.w) A' (.call (.ref fI) ⟨.ref (hp.objs.size + 1) :: us, kw⟩) (PySem.W.InitBack (hp.objs.size + 1) fun r s' => match r with | .ok (.ret v) => EP X pins σ Q v s' | .ok _ => False | .error e => X.xe e s')
        ⟨(hp.push (PySem.W.kdv_tup us)).push (PySem.HandSPX.excO C hp.objs.size), g, dr, tk, os⟩ := fun A' g1 g2 g3 => by
    refine codeAny_mono (F1.run A' X.stack _ _ ⟨Value.ref (hp.objs.size + 1) :: us, kw⟩ (Value.ref (hp.objs.size + 1) :: bs) (V.ref (hp.objs.size + 1) :: vs) _ E0 g1 g2 g3 (hb _) (.cons rfl rb) hq) fun r s' hq' => ?_
    cases r with
    | error er => exact pass0 pins σ _ _ er s' I2 hq'
    | ok fl => cases fl with
      | ret u =>
        obtain ⟨v, H2, I3, rv, ev, q2⟩ := I2.after hq'
        subst ev
        exact ⟨rv, .ref (hp.objs.size + 1), H2, I3, rfl, q2⟩
      | next => exact hq'.elim
      | brk => exact hq'.elim
      | cont => exact hq'.elim
  have hT : ∀ Y : String, bm.contains (.type Y) = bmB.contains (.type Y) := fun Y => PySem.W.excTail_contains Y bm hbm
  have look := PySem.W.looks_findIn (M := model X.prog X.w) I1.kIn iC
  rcases hk with e | e
  · subst e
    exact wpAny_call (callK F hT (I1.kIn _ _ hC) look (fun self => PySem.W.bind_fn I1.kIn self tI) (fin _ hgd (hr.make C [] kw) (I2.env0.make C [] kw)))
  · subst e
    exact wpAny_call (PySem.HandSPX.call_own F hT (I1.kIn _ _ hC) look (fun self => PySem.W.bind_fn I1.kIn self tI) hus (fin _ hgd (hr.make C us []) (I2.env0.make C us [])))
theorem pe_xv {C fI : Addr} {k : Nat} {fd : FuncData} {ps : List Str} {sp : Sp} (F : ExcBaseFacts B newId initId bmB) (T : XB X.K C newId bmB) (iC : PySem.W.findIn X.K (.ref C) "__init__" = some (some (.ref fI))) (tI : PySem.W.typeIn X.K (.ref fI) = some (.type "function"))
    (F1 : FnG X.prog X.w X.K X.mg X.base k fI fd ps sp) (hgd : X.A.guards = some []) (hr : Room (k + 1) X.A) (hb : Binds X.K fd ps []) (hg : Gl X x) (hm : X.mg x = some (.ref C)) (ha : PA X (e :: es) ta)
    (hdb : (x == ("__debug__" : Str)) = false := by decide) (he : starEach (e :: es) X.env = (false, eval e X.env) :: starEach es X.env := by rfl) (hpl : (backTo pos (starEach es X.env)).any (·.1) = false := by rfl) :
    PE X (.Call (.Name x p) (e :: es) [] pos) (tXv C sp ta) := by
  refine ⟨fun pins s σ H Q I h => wpAny_Call_Name_kw (ld_glob I hg hm ?_ hdb)⟩
  refine PySem.W.callWith_K (h₀ := X.base) I.ok.mod.kin T.kC (thn (ha.run pos pins s σ H _ I h) fun us s1 ⟨vs, H1, I1, r1, hz, q⟩ => ⟨I1.kIn, ?_⟩) he hpl
  have hlen : (us.length : Nat) ≤ sizeLine := by
    rw [← Paired.length r1, sizeLine_eq]
    omega
  refine run_xv F T iC tI F1 hgd hr I1 hlen (.inr rfl) (fun a => ?_) r1 q
  have hl : (Value.ref a :: us).length = ps.length := by
    have e1 := F1.len _ _ _ _ (q _ (I1.hok.fresh (Nat.le_refl _)))
    have e2 := Paired.length r1
    rw [List.length_cons] at e1 ⊢
    omega
  have z := hb (⟨(s1.heap.push (PySem.W.kdv_tup us)).push (PySem.HandSPX.excO C s1.heap.objs.size), s1.gens, s1.drawn, s1.toks, s1.os⟩ : Shared) (Value.ref a :: us) (I1.kIn.keeps fun b o e => Heap.get?_push_of_some _ (Heap.get?_push_of_some _ e)) (by simpa using hl)
  simpa using z
/-- made by names -/
theorem pe_xk {C fI : Addr} {k : Nat} {fd : FuncData} {ps ks : List Str} {sp : Sp} {permV : List V → List V} {permU : List Value → List Value} (F : ExcBaseFacts B newId initId bmB) (T : XB X.K C newId bmB) (iC : PySem.W.findIn X.K (.ref C) "__init__" = some (some (.ref fI))) (tI : PySem.W.typeIn X.K (.ref fI) = some (.type "function"))
    (F1 : FnG X.prog X.w X.K X.mg X.base k fI fd ps sp) (hgd : X.A.guards = some []) (hr : Room (k + 1) X.A) (hrel : ∀ zs ws, zs.length = ks.length → Vals zs ws → Vals (permV zs) (permU ws))
    (hb : ∀ (s : Shared) (v0 : Value) (ws : List Value), ws.length = ks.length → BindsTo s fd ⟨[v0], ks.zip ws⟩ (ps.zip (v0 :: permU ws))) (hg : Gl X x) (hm : X.mg x = some (.ref C)) (hkw : PK X kws tk)
    (hall : (backToKw pos (keywordEach kws X.env)).all (·.1.isSome) = true := by rfl) (hks : (backToKw pos (keywordEach kws X.env)).filterMap (·.1) = ks := by rfl) (hdb : (x == ("__debug__" : Str)) = false := by decide)
    (hpl : ((backTo pos (starEach [] X.env)).any (·.1) || (backToKw pos (keywordEach kws X.env)).any (·.1.isNone)) = false := by rfl) :
    PE X (.Call (.Name x p) [] kws pos) (tXk C ks.length permV sp tk) := by
  refine ⟨fun pins s σ H Q I h => wpAny_Call_Name_kw (ld_glob I hg hm ?_ hdb)⟩
  refine PySem.W.callWith_KW0 (h₀ := X.base) I.ok.mod.kin T.kC hall ?_ hpl
  refine thn (hkw.run pos pins s σ H _ I h) fun ws s2 ⟨zs, H2, I2, rz, l1, q2⟩ => ⟨I2.kIn, ?_⟩
  rw [hks]
  refine run_xv (us := []) F T iC tI F1 hgd hr I2 (Nat.zero_le _) (.inl rfl) (fun a => hb _ _ ws ?_) (hrel zs ws l1 rz) q2
  rw [← l1]
  exact rz.length.symm
end
end KG

/-! part E1 -/
set_option Elab.async false
set_option linter.all false
set_option maxRecDepth 100000
set_option maxHeartbeats 4000000
namespace K80
open PySem PySem.Spec PyProof.Rows L2 KG
abbrev sLogI : Stmt := inClass (topS 10) 0
abbrev sRowI : Stmt := inClass (topS 11) 0
abbrev sTextI : Stmt := inClass (topS 12) 0
abbrev sGreatI : Stmt := inClass (topS 13) 0
abbrev ve : List Value := [.type "ValueError", .type "Exception", .type "BaseException", .type "object"]
abbrev oe : List Value := [.type "OverflowError", .type "ArithmeticError", .type "Exception", .type "BaseException", .type "object"]
/-- what the written part says of FaultError, at F0 -/
structure FE (K : PySem.W.Frag) (mg : Str → Option Value) (F0 : Addr) : Prop where
  gF : mg "FaultError" = some (.ref F0)
  ga : PySem.W.specialIn K (.ref F0) "__getattribute__" = some (some (.builtin "type.__getattribute__"))
  rd : PySem.W.readsIn K F0 (.type "type") = true
  fc : PySem.W.findCls K (.ref F0) (.type "type") "__init__" = some (.val (.builtin "ValueError.__init__"))
def Okd (H : Hp) (y : V) : Prop := ∃ d, Dq H y d ∧ Shw d
/-- an __init__ that keeps one field -/
def spOne (K : PySem.W.Frag) (newId : String) (bm : List Value) (f : Str) : Sp := fun vs H Q _ => ∃ (a C : Addr) (y : V), vs = [.ref a, y] ∧ XB K C newId bm ∧ PySem.W.takerIn K C f = some none ∧ H a = some (exo a C none) ∧ Okd H y ∧
  ∀ dx, H dx = none → dx ≠ a → Q .non (upd (upd H dx (exd dx [(f, y)])) a (exo a C (some dx)))
/-- the one that keeps two -/
def spTwo (K : PySem.W.Frag) : Sp := fun vs H Q _ => ∃ (a C : Addr) (y z : V), vs = [.ref a, y, z] ∧ XB K C "ValueError.__new__" ve ∧ OexC K C ∧ PySem.W.takerIn K C "line" = some none ∧ PySem.W.findIn K (.ref C) "word" = some none ∧ H a = some (exo a C none) ∧ Okd H y ∧ Okd H z ∧
  ∀ dx H', H dx = none → dx ≠ a → H' a = some (exo a C (some dx)) → H' dx = some (exd dx [("word", z), ("line", y)]) → (∀ b o, H b = some o → b ≠ a → H' b = some o) → Q .non H'
section
variable {P : Program} {w : World} {K : PySem.W.Frag} {mg : Str → Option Value} {base : Heap} {F0 : Addr}
theorem ok_logI {f : Addr} {fd : FuncData} {k : Nat} (F : Fun K "__init__" "BadLog.__init__" sLogI f fd) (T : FE K mg F0) : FnG P w K mg base (k + 1) f fd ["self", "place"] (spOne K "ValueError.__new__" ve "place") := by
  have sc : FnScope ["self", "place"] ["self", "place"] (defScope sLogI) := ⟨rfl, rfl, rfl, by decide +kernel, rfl, by decide +kernel, by decide +kernel⟩
  refine fnG_of F sc (fun vs H Q E h => ?_) (fun cdv A outer s H vs Q E hgd hr h => ?_)
  · obtain ⟨a, C, y, rfl, _⟩ := h
    rfl
  · obtain ⟨a, C, y, rfl, hX, ht, ha, ⟨d, hd, hs⟩, q⟩ := h
    refine ⟨_, pss_cons (ps_expr (pe_ownInit PySem.F.excBase_ValueError rfl T.gF T.ga T.rd T.fc (by decide +kernel) (pa_cons (pv 0) (pa_cons (pe_joined (PJ.cons pe_str (PJ.cons (pe_fmtD hgd hr.units (pv 1)) PJ.nil))) pa_nil))))
      (pss_one (ps_gst (newId := "ValueError.__new__") PySem.F.store_ValueError (pv 0) (pv 1))), ?_⟩
    refine ⟨_, rfl, _, rfl, by decide, _, rfl, d, hd, hs, fun t ht' => ⟨_, rfl, ?_, a, C, _, rfl, by show 1 ≤ 1000; decide, hX, ha, ?_⟩⟩
    · rw [PySem.strLen_append]
      exact Nat.le_trans (Nat.add_le_add (show _ ≤ 1000 by decide) ht') (by decide)
    · exact ⟨_, rfl, _, rfl, a, C, rfl, hX, ht, ha, q⟩
theorem ok_rowI {f : Addr} {fd : FuncData} {k : Nat} (F : Fun K "__init__" "BadRow.__init__" sRowI f fd) (T : FE K mg F0) : FnG P w K mg base (k + 1) f fd ["self", "value"] (spOne K "ValueError.__new__" ve "value") := by
  have sc : FnScope ["self", "value"] ["self", "value"] (defScope sRowI) := ⟨rfl, rfl, rfl, by decide +kernel, rfl, by decide +kernel, by decide +kernel⟩
  refine fnG_of F sc (fun vs H Q E h => ?_) (fun cdv A outer s H vs Q E hgd hr h => ?_)
  · obtain ⟨a, C, y, rfl, _⟩ := h
    rfl
  · obtain ⟨a, C, y, rfl, hX, ht, ha, ⟨d, hd, hs⟩, q⟩ := h
    refine ⟨_, pss_cons (ps_expr (pe_ownInit PySem.F.excBase_ValueError rfl T.gF T.ga T.rd T.fc (by decide +kernel) (pa_cons (pv 0) (pa_cons pe_str pa_nil))))
      (pss_one (ps_gst (newId := "ValueError.__new__") PySem.F.store_ValueError (pv 0) (pv 1))), ?_⟩
    exact ⟨_, rfl, a, C, _, rfl, by show 1 ≤ 1000; decide, hX, ha, _, rfl, _, rfl, a, C, rfl, hX, ht, ha, q⟩
theorem ok_greatI {f : Addr} {fd : FuncData} {k : Nat} (F : Fun K "__init__" "TooGreat.__init__" sGreatI f fd) (zo : mg "OverflowError" = none) (fc : PySem.W.findCls K (.type "OverflowError") (.type "type") "__init__" = some (.val (.builtin "OverflowError.__init__"))) : FnG P w K mg base (k + 1) f fd ["self", "most"] (spOne K "OverflowError.__new__" oe "most") := by
  have sc : FnScope ["self", "most"] ["self", "most"] (defScope sGreatI) := ⟨rfl, rfl, rfl, by decide +kernel, rfl, by decide +kernel, by decide +kernel⟩
  refine fnG_of F sc (fun vs H Q E h => ?_) (fun cdv A outer s H vs Q E hgd hr h => ?_)
  · obtain ⟨a, C, y, rfl, _⟩ := h
    rfl
  · obtain ⟨a, C, y, rfl, hX, ht, ha, ⟨d, hd, hs⟩, q⟩ := h
    refine ⟨_, pss_cons (ps_expr (pe_oeInit rfl zo fc (pa_cons (pv 0) (pa_cons (pe_joined (PJ.cons pe_str (PJ.cons (pe_fmtD hgd hr.units (pv 1)) PJ.nil))) pa_nil))))
      (pss_one (ps_gst (newId := "OverflowError.__new__") PySem.F.store_OverflowError (pv 0) (pv 1))), ?_⟩
    refine ⟨_, rfl, _, rfl, by decide, _, rfl, d, hd, hs, fun t ht' => ⟨_, rfl, ?_, a, C, _, rfl, by show 1 ≤ 1000; decide, hX, ha, ?_⟩⟩
    · rw [PySem.strLen_append]
      exact Nat.le_trans (Nat.add_le_add (show _ ≤ 1000 by decide) ht') (by decide)
    · exact ⟨_, rfl, _, rfl, a, C, rfl, hX, ht, ha, q⟩
theorem ok_textI {f : Addr} {fd : FuncData} {k : Nat} (F : Fun K "__init__" "BadText.__init__" sTextI f fd) (T : FE K mg F0) : FnG P w K mg base (k + 1) f fd ["self", "line", "word"] (spTwo K) := by
  have sc : FnScope ["self", "line", "word"] ["self", "line", "word"] (defScope sTextI) := ⟨rfl, rfl, rfl, by decide +kernel, rfl, by decide +kernel, by decide +kernel⟩
  refine fnG_of F sc (fun vs H Q E h => ?_) (fun cdv A outer s H vs Q E hgd hr h => ?_)
  · obtain ⟨a, C, y, z, rfl, _⟩ := h
    rfl
  · obtain ⟨a, C, y, z, rfl, hX, hO, ht, hw, ha, ⟨d, hd, hs⟩, ⟨d2, hd2, hs2⟩, q⟩ := h
    refine ⟨_, pss_cons (ps_expr (pe_ownInit PySem.F.excBase_ValueError rfl T.gF T.ga T.rd T.fc (by decide +kernel) (pa_cons (pv 0) (pa_cons (pe_joined (PJ.cons pe_str (PJ.cons (pe_fmtD hgd hr.units (pv 1)) (PJ.cons pe_str (PJ.cons (pe_fmtD hgd hr.units (pv 2)) PJ.nil))))) pa_nil))))
      (pss_cons (ps_gst (newId := "ValueError.__new__") PySem.F.store_ValueError (pv 0) (pv 1))
      (pss_one (ps_ost (pv 0) (pv 2)))), ?_⟩
    refine ⟨_, rfl, _, rfl, by decide, _, rfl, d, hd, hs, fun t ht' => ⟨_, rfl, ?_, _, rfl, ?_, _, rfl, d2, hd2, hs2, fun t2 ht2 => ⟨_, rfl, ?_, a, C, _, rfl, by show 1 ≤ 1000; decide, hX, ha, ?_⟩⟩⟩
    · rw [PySem.strLen_append]
      exact Nat.le_trans (Nat.add_le_add (show _ ≤ 1000 by decide) ht') (by decide)
    · rw [PySem.strLen_append, PySem.strLen_append]
      exact Nat.le_trans (Nat.add_le_add (Nat.add_le_add (show _ ≤ 1000 by decide) ht') (show _ ≤ 1000 by decide)) (by decide)
    · rw [PySem.strLen_append, PySem.strLen_append, PySem.strLen_append]
      exact Nat.le_trans (Nat.add_le_add (Nat.add_le_add (Nat.add_le_add (show _ ≤ 1000 by decide) ht') (show _ ≤ 1000 by decide)) ht2) (by decide)
    · refine ⟨_, rfl, _, rfl, a, C, rfl, hX, ht, ha, fun dx n ne => ⟨_, rfl, _, rfl, a, C, rfl, hO, hw, .inr ⟨dx, _, upd_same, by rw [upd_ne ne]; exact upd_same, by show 1 ≤ 900; decide, ?_⟩⟩⟩
      refine q dx _ n ne (by rw [upd_ne (Ne.symm ne)]; exact upd_same) upd_same fun b o e hb => ?_
      rw [upd_ne (ne_of_none e n), upd_ne hb, upd_ne (ne_of_none e n)]
      exact e
end
end K80

/-! part E2 -/
set_option Elab.async false
set_option linter.all false
set_option maxRecDepth 100000
set_option maxHeartbeats 4000000
namespace K80
open PySem PySem.Spec PyProof.Rows L2 KG
section
variable {X : Cx}
/-- repr(x), x of any kind -/
def rRepr : List V → Hp → VK → Prop := fun xs H Q => ∃ v d, xs = [v] ∧ Dq H v d ∧ Shw d ∧ Q (.str d.shown) H
theorem call_reprD (hg : X.A.guards = some []) (hu : X.A.units + 64 < cLine) : CallR X (.builtin "repr") rRepr := by
  intro pins s σ H xs us Q I r h
  obtain ⟨v, d, rfl, hd, hs, q⟩ := h
  obtain ⟨u, rfl, ru⟩ := vals1 r
  cases id hd with
  | non =>
    cases ru
    exact PySem.P.repr_of_none ⟨.str "None", H, I.tok _, ⟨_, rfl⟩, q⟩
  | bl b =>
    cases ru
    exact PySem.P.repr_of_bool ⟨.str (if b then "True" else "False"), H, I.tok _, ⟨_, rfl⟩, q⟩
  | int i =>
    obtain ⟨t, rfl⟩ := ru
    exact PySem.P.repr_of_int (of_decide_eq_true hs.sh) ⟨.str (toString i), H, I.tok _, ⟨_, rfl⟩, q⟩
  | str y =>
    obtain ⟨t, rfl⟩ := ru
    exact PySem.P.repr_of_str ⟨.str (reprText y), H, I.tok _, ⟨_, rfl⟩, q⟩ hs.line
  | lst e n ha => exact call_repr hg hu pins s σ H [.ref _] [u] Q I (.cons ru .nil) ⟨_, _, rfl, hd, hs, ⟨_, rfl⟩, q⟩
  | tup e ha => exact call_repr hg hu pins s σ H [.ref _] [u] Q I (.cons ru .nil) ⟨_, _, rfl, hd, hs, ⟨_, rfl⟩, q⟩
  | dct e => exact call_repr hg hu pins s σ H [.ref _] [u] Q I (.cons ru .nil) ⟨_, _, rfl, hd, hs, ⟨_, rfl⟩, q⟩
/-- isinstance of an own exception that is held as a value -/
def rIsX (K : PySem.W.Frag) : List V → Hp → VK → Prop := fun xs H Q => ∃ (a C d : Addr) (fs : List (Str × V)) (c : V) (cv : Value) (b : Bool), xs = [.ref a, c] ∧ H a = some (exo a C (some d)) ∧ H d = some (exd d fs) ∧ ExcC K C ∧ ClsV c cv ∧ PySem.W.kitOne K (.ref C) cv = some b ∧ Q (.bl b) H
theorem call_isXr : CallR X (.builtin "isinstance") (rIsX X.K) := call_isX
end
abbrev sLike : Stmt := topS 19
abbrev sClasses : Stmt := topS 20
/-- an own exception stands at a, of the class at C -/
def Err (K : PySem.W.Frag) (H : Hp) (a C : Addr) (fs : List (Str × V)) : Prop := ExcC K C ∧ ∃ d, H a = some (exo a C (some d)) ∧ H d = some (exd d fs)
theorem Err.same {K : PySem.W.Frag} {H H' : Hp} {a C : Addr} {fs : List (Str × V)} (h : Err K H a C fs) (s : Same H H') : Err K H' a C fs := by
  obtain ⟨x, d, e1, e2⟩ := h
  exact ⟨x, d, s _ _ e1, s _ _ e2⟩
/-- the rows of labels and answers -/
def Rw (H : Hp) : List V → List (Str × Bool) → Prop := Paired fun x r => ∃ t, x = V.ref t ∧ H t = some (.tup [.str r.1, .bl r.2])
theorem Rw.same {H H' : Hp} (s : Same H H') : ∀ {xs : List V} {rs : List (Str × Bool)}, Rw H xs rs → Rw H' xs rs := by
  intro xs rs h
  unfold Rw at *
  induction h with
  | nil => exact .nil
  | cons q _ ih =>
    obtain ⟨t, e1, e2⟩ := q
    exact .cons ⟨t, e1, s _ _ e2⟩ ih
theorem Rw.app {H : Hp} : ∀ {xs : List V} {rs : List (Str × Bool)} {ys : List V} {qs : List (Str × Bool)}, Rw H xs rs → Rw H ys qs → Rw H (xs ++ ys) (rs ++ qs) := by
  intro xs rs ys qs h k
  unfold Rw at *
  induction h with
  | nil => exact k
  | cons q _ ih => exact .cons q ih
theorem Rw.at {H : Hp} : ∀ {xs : List V} {rs : List (Str × Bool)} {i : Nat} {x : V}, Rw H xs rs → xs[i]? = some x → ∃ r t, rs[i]? = some r ∧ x = V.ref t ∧ H t = some (.tup [.str r.1, .bl r.2]) := by
  intro xs rs i x h
  unfold Rw at h
  induction h generalizing i with
  | nil => intro e; simp at e
  | @cons a b as bs q _ ih =>
    intro e
    cases i with
    | zero =>
      obtain ⟨t, e1, e2⟩ := q
      have ea : a = x := Option.some.inj e
      exact ⟨b, t, rfl, ea ▸ e1, e2⟩
    | succ i => exact ih e
theorem Rw.len {H : Hp} {xs : List V} {rs : List (Str × Bool)} (h : Rw H xs rs) : xs.length = rs.length := Paired.length h
def picked (rs : List (Str × Bool)) : List Str := (rs.filter (·.2)).map (·.1)
theorem picked_take {rs : List (Str × Bool)} {i : Nat} {r : Str × Bool} (h : rs[i]? = some r) : picked (rs.take (i + 1)) = picked (rs.take i) ++ (if r.2 = true then [r.1] else []) := by
  unfold picked
  rw [List.take_add_one, h, List.filter_append, List.map_append]
  cases e : r.2 <;> simp [e]
section
variable {P : Program} {w : World} {K : PySem.W.Frag} {mg : Str → Option Value} {base : Heap}
theorem scLike : FnScope ["answer", "due"] ["answer", "due"] (defScope sLike) := ⟨rfl, rfl, rfl, by decide +kernel, rfl, by decide +kernel, by decide +kernel⟩
def spLike : Sp := fun vs H Q _ => ∃ (x y : V) (d : PyData), vs = [x, y] ∧ Dq H x d ∧ Dq H y d ∧ Shw d ∧ Q (.bl true) H
theorem ok_like {f : Addr} {fd : FuncData} {k : Nat} (F : Fun K "_law_like" "_law_like" sLike f fd) (zr : mg "repr" = none) : FnG P w K mg base (k + 1) f fd ["answer", "due"] spLike := by
  refine fnG_of F scLike (fun vs H Q E h => ?_) (fun cdv A outer s H vs Q E hgd hr h => ?_)
  · obtain ⟨x, y, d, rfl, _⟩ := h
    rfl
  · obtain ⟨x, y, d, rfl, hx, hy, hs, q⟩ := h
    refine ⟨_, pss_one (ps_ret (pe_cmpR op_eq (pe_callB (call_reprD hgd hr.units) (by rfl) zr PyProof.Rows.boot_repr (pa_cons (pv 0) pa_nil)) (pe_callB (call_reprD hgd hr.units) (by rfl) zr PyProof.Rows.boot_repr (pa_cons (pv 1) pa_nil)) (nomark _))), ?_⟩
    refine ⟨_, rfl, _, d, rfl, hx, hs, _, rfl, _, d, rfl, hy, hs, rfl, ?_⟩
    rw [decide_eq_true rfl]
    exact q
/-- one row of the list -/
theorem rd_row {σ : L2.St} {H : Hp} {Q : VK} {lab : Str} {a C : Addr} {fs : List (Str × V)} {c : V} {cv : Value} {b : Bool} (h0 : σ[0]? = some (some (.ref a))) (er : Err K H a C fs) (k : ClsV c cv) (e : PySem.W.kitOne K (.ref C) cv = some b)
    (q : ∀ p, H p = none → Q (.ref p) (upd H p (.tup [.str lab, .bl b]))) : tTup (tCons (tC (.str lab)) (tCons (tCB (rIsX K) (tCons (tVar 0) (tCons (tC c) tNil))) tNil)) σ H Q := by
  obtain ⟨x, d, e1, e2⟩ := er
  exact ⟨_, h0, a, C, d, fs, c, cv, b, rfl, e1, e2, x, k, e, (by show 2 ≤ sizeLine; decide), q⟩
theorem rd_rowC {tr : TA} {σ : L2.St} {H : Hp} {Q : List V → Hp → Prop} {lab : Str} {a C : Addr} {fs : List (Str × V)} {c : V} {cv : Value} {b : Bool} (h0 : σ[0]? = some (some (.ref a))) (er : Err K H a C fs) (k : ClsV c cv) (e : PySem.W.kitOne K (.ref C) cv = some b)
    (q : ∀ p, H p = none → tr σ (upd H p (.tup [.str lab, .bl b])) fun xs H2 => Q (.ref p :: xs) H2) : tCons (tTup (tCons (tC (.str lab)) (tCons (tCB (rIsX K) (tCons (tVar 0) (tCons (tC c) tNil))) tNil))) tr σ H Q :=
  rd_row (Q := fun x H1 => tr σ H1 fun xs H2 => Q (x :: xs) H2) h0 er k e q
theorem rd_one {σ : L2.St} {H : Hp} {Q : VK} {lab : Str} {a C : Addr} {fs : List (Str × V)} {c : V} {cv : Value} {b : Bool} (h0 : σ[0]? = some (some (.ref a))) (er : Err K H a C fs) (k : ClsV c cv) (e : PySem.W.kitOne K (.ref C) cv = some b)
    (q : ∀ p H' xs, Same H H' → H p = none → H' p = some (.lst xs) → Rw H' xs [(lab, b)] → Q (.ref p) H') : tLst (tCons (tTup (tCons (tC (.str lab)) (tCons (tCB (rIsX K) (tCons (tVar 0) (tCons (tC c) tNil))) tNil))) tNil) σ H Q := by
  unfold tLst
  refine rd_rowC h0 er k e fun p np => ⟨(by show 1 ≤ sizeLine; decide), fun l nl => ?_⟩
  have s1 := same_upd (o := .tup [.str lab, .bl b]) np
  have s2 := same_upd2 (o := .lst [.ref p]) (s1.free nl) s1
  exact q l _ _ s2 (s1.free nl) upd_same (.cons ⟨p, rfl, same_upd nl _ _ upd_same⟩ .nil)
theorem rd_two {σ : L2.St} {H : Hp} {Q : VK} {lab lab' : Str} {a C : Addr} {fs : List (Str × V)} {c c' : V} {cv cv' : Value} {b b' : Bool} (h0 : σ[0]? = some (some (.ref a))) (er : Err K H a C fs) (k : ClsV c cv) (e : PySem.W.kitOne K (.ref C) cv = some b) (k' : ClsV c' cv') (e' : PySem.W.kitOne K (.ref C) cv' = some b')
    (q : ∀ p H' xs, Same H H' → H p = none → H' p = some (.lst xs) → Rw H' xs [(lab, b), (lab', b')] → Q (.ref p) H') :
    tLst (tCons (tTup (tCons (tC (.str lab)) (tCons (tCB (rIsX K) (tCons (tVar 0) (tCons (tC c) tNil))) tNil))) (tCons (tTup (tCons (tC (.str lab')) (tCons (tCB (rIsX K) (tCons (tVar 0) (tCons (tC c') tNil))) tNil))) tNil)) σ H Q := by
  unfold tLst
  refine rd_rowC h0 er k e fun p np => ?_
  have s1 := same_upd (o := .tup [.str lab, .bl b]) np
  refine rd_rowC h0 (er.same s1) k' e' fun p' np' => ⟨(by show 2 ≤ sizeLine; decide), fun l nl => ?_⟩
  have s2 := same_upd (o := .tup [.str lab', .bl b']) np'
  have s3 := same_upd (o := .lst [.ref p, .ref p']) nl
  exact q l _ _ ((s1.trans s2).trans s3) ((s1.trans s2).free nl) upd_same (.cons ⟨p, rfl, s3 _ _ (s2 _ _ upd_same)⟩ (.cons ⟨p', rfl, s3 _ _ upd_same⟩ .nil))
theorem seq_asg {te : TE} {g : TG} {t : TS} {D : Ends} {σ : L2.St} {H : Hp} (h : te σ H fun x H1 => g x σ H1 (t D)) : tSeq (tAsg te g) t D σ H := h
/-- the names of the classes in the module -/
structure Nms (mg : Str → Option Value) (c : Nat → Addr) : Prop where
  g0 : mg "BadRig" = some (.ref (c 0))
  g1 : mg "BadShape" = some (.ref (c 1))
  g2 : mg "BadLot" = some (.ref (c 2))
  g3 : mg "BadFaults" = some (.ref (c 3))
  g4 : mg "BadSuite" = some (.ref (c 4))
  g5 : mg "BadOutcomes" = some (.ref (c 5))
  g6 : mg "BadNumber" = some (.ref (c 6))
  g7 : mg "BadPaper" = some (.ref (c 7))
  g8 : mg "BadLog" = some (.ref (c 8))
  g9 : mg "BadRow" = some (.ref (c 9))
  g10 : mg "BadText" = some (.ref (c 10))
  g11 : mg "FaultError" = some (.ref (c 11))
  g12 : mg "ValueError" = none
  g13 : mg "TooGreat" = some (.ref (c 13))
/-- of which of them an error of the class at C is -/
structure Kit (K : PySem.W.Frag) (c : Nat → Addr) (C : Addr) (b : Nat → Bool) : Prop where
  k0 : PySem.W.kitOne K (.ref C) (.ref (c 0)) = some (b 0)
  k1 : PySem.W.kitOne K (.ref C) (.ref (c 1)) = some (b 1)
  k2 : PySem.W.kitOne K (.ref C) (.ref (c 2)) = some (b 2)
  k3 : PySem.W.kitOne K (.ref C) (.ref (c 3)) = some (b 3)
  k4 : PySem.W.kitOne K (.ref C) (.ref (c 4)) = some (b 4)
  k5 : PySem.W.kitOne K (.ref C) (.ref (c 5)) = some (b 5)
  k6 : PySem.W.kitOne K (.ref C) (.ref (c 6)) = some (b 6)
  k7 : PySem.W.kitOne K (.ref C) (.ref (c 7)) = some (b 7)
  k8 : PySem.W.kitOne K (.ref C) (.ref (c 8)) = some (b 8)
  k9 : PySem.W.kitOne K (.ref C) (.ref (c 9)) = some (b 9)
  k10 : PySem.W.kitOne K (.ref C) (.ref (c 10)) = some (b 10)
  k11 : PySem.W.kitOne K (.ref C) (.ref (c 11)) = some (b 11)
  k12 : PySem.W.kitOne K (.ref C) (.type "ValueError") = some (b 12)
  k13 : PySem.W.kitOne K (.ref C) (.ref (c 13)) = some (b 13)
def rws (b : Nat → Bool) : List (Str × Bool) := [("rig", b 0), ("shape", b 1), ("lot", b 2), ("faults", b 3), ("suite", b 4), ("heard", b 5), ("number", b 6), ("paper", b 7), ("log", b 8), ("row", b 9), ("text", b 10), ("own", b 11), ("sort", b 12), ("great", b 13)]
theorem scClasses : FnScope ["error", "rows", "label", "is_so"] ["error"] (defScope sClasses) := ⟨rfl, rfl, rfl, by decide +kernel, rfl, by decide +kernel, by decide +kernel⟩
theorem blkC' : blkC ["error", "rows", "label", "is_so"] (defScope sClasses) { kind := .function, names := [(".0", .local), ("label", .local), ("is_so", .local)], isGenerator := false, isCoroutine := false } [("label", 2), ("is_so", 3)] = true := by decide +kernel
def spClasses (K : PySem.W.Frag) (c : Nat → Addr) : Sp := fun vs H Q _ => ∃ (a C : Addr) (fs : List (Str × V)) (b : Nat → Bool), vs = [.ref a] ∧ Err K H a C fs ∧ Kit K c C b ∧ ∀ p H', Same H H' → H p = none → H' p = some (.lst ((picked (rws b)).map V.str)) → Q (.ref p) H'
theorem ok_classes {f : Addr} {fd : FuncData} {k : Nat} {c : Nat → Addr} (F : Fun K "_law_classes" "_law_classes" sClasses f fd) (N : Nms mg c) (zi : mg "isinstance" = none) : FnOk P w K mg base CX0 (k + 1) f fd ["error"] (spClasses K c) := by
  refine F.ok scClasses (fun vs H Q E h => ?_) (fun cdv A outer s H vs Q E hr h => ?_)
  · obtain ⟨a, C, fs, b, rfl, _⟩ := h
    rfl
  · obtain ⟨a, C, fs, b, rfl, er, T, q⟩ := h
    refine ⟨_, pss_cons (ps_set (i := 1) scClasses.nd rfl (.inl rfl) (pe_lst (pa_cons (pe_tup (pa_cons pe_str (pa_cons (pe_callB call_isXr (by rfl) zi PyProof.Rows.boot_isinstance (pa_cons (pv 0) (pa_cons (pe_glob rfl N.g0 (v := .ref (c 0)) rfl) pa_nil))) pa_nil))) (pa_cons (pe_tup (pa_cons pe_str (pa_cons (pe_callB call_isXr (by rfl) zi PyProof.Rows.boot_isinstance (pa_cons (pv 0) (pa_cons (pe_glob rfl N.g1 (v := .ref (c 1)) rfl) pa_nil))) pa_nil))) pa_nil))))
      (pss_cons (ps_set (i := 1) scClasses.nd rfl (.inl rfl) (pe_op op_cat (pv 1) (pe_lst (pa_cons (pe_tup (pa_cons pe_str (pa_cons (pe_callB call_isXr (by rfl) zi PyProof.Rows.boot_isinstance (pa_cons (pv 0) (pa_cons (pe_glob rfl N.g2 (v := .ref (c 2)) rfl) pa_nil))) pa_nil))) (pa_cons (pe_tup (pa_cons pe_str (pa_cons (pe_callB call_isXr (by rfl) zi PyProof.Rows.boot_isinstance (pa_cons (pv 0) (pa_cons (pe_glob rfl N.g3 (v := .ref (c 3)) rfl) pa_nil))) pa_nil))) pa_nil)))))
      (pss_cons (ps_set (i := 1) scClasses.nd rfl (.inl rfl) (pe_op op_cat (pv 1) (pe_lst (pa_cons (pe_tup (pa_cons pe_str (pa_cons (pe_callB call_isXr (by rfl) zi PyProof.Rows.boot_isinstance (pa_cons (pv 0) (pa_cons (pe_glob rfl N.g4 (v := .ref (c 4)) rfl) pa_nil))) pa_nil))) pa_nil))))
      (pss_cons (ps_set (i := 1) scClasses.nd rfl (.inl rfl) (pe_op op_cat (pv 1) (pe_lst (pa_cons (pe_tup (pa_cons pe_str (pa_cons (pe_callB call_isXr (by rfl) zi PyProof.Rows.boot_isinstance (pa_cons (pv 0) (pa_cons (pe_glob rfl N.g5 (v := .ref (c 5)) rfl) pa_nil))) pa_nil))) pa_nil))))
      (pss_cons (ps_set (i := 1) scClasses.nd rfl (.inl rfl) (pe_op op_cat (pv 1) (pe_lst (pa_cons (pe_tup (pa_cons pe_str (pa_cons (pe_callB call_isXr (by rfl) zi PyProof.Rows.boot_isinstance (pa_cons (pv 0) (pa_cons (pe_glob rfl N.g6 (v := .ref (c 6)) rfl) pa_nil))) pa_nil))) (pa_cons (pe_tup (pa_cons pe_str (pa_cons (pe_callB call_isXr (by rfl) zi PyProof.Rows.boot_isinstance (pa_cons (pv 0) (pa_cons (pe_glob rfl N.g7 (v := .ref (c 7)) rfl) pa_nil))) pa_nil))) pa_nil)))))
      (pss_cons (ps_set (i := 1) scClasses.nd rfl (.inl rfl) (pe_op op_cat (pv 1) (pe_lst (pa_cons (pe_tup (pa_cons pe_str (pa_cons (pe_callB call_isXr (by rfl) zi PyProof.Rows.boot_isinstance (pa_cons (pv 0) (pa_cons (pe_glob rfl N.g8 (v := .ref (c 8)) rfl) pa_nil))) pa_nil))) (pa_cons (pe_tup (pa_cons pe_str (pa_cons (pe_callB call_isXr (by rfl) zi PyProof.Rows.boot_isinstance (pa_cons (pv 0) (pa_cons (pe_glob rfl N.g9 (v := .ref (c 9)) rfl) pa_nil))) pa_nil))) pa_nil)))))
      (pss_cons (ps_set (i := 1) scClasses.nd rfl (.inl rfl) (pe_op op_cat (pv 1) (pe_lst (pa_cons (pe_tup (pa_cons pe_str (pa_cons (pe_callB call_isXr (by rfl) zi PyProof.Rows.boot_isinstance (pa_cons (pv 0) (pa_cons (pe_glob rfl N.g10 (v := .ref (c 10)) rfl) pa_nil))) pa_nil))) (pa_cons (pe_tup (pa_cons pe_str (pa_cons (pe_callB call_isXr (by rfl) zi PyProof.Rows.boot_isinstance (pa_cons (pv 0) (pa_cons (pe_glob rfl N.g11 (v := .ref (c 11)) rfl) pa_nil))) pa_nil))) pa_nil)))))
      (pss_cons (ps_set (i := 1) scClasses.nd rfl (.inl rfl) (pe_op op_cat (pv 1) (pe_lst (pa_cons (pe_tup (pa_cons pe_str (pa_cons (pe_callB call_isXr (by rfl) zi PyProof.Rows.boot_isinstance (pa_cons (pv 0) (pa_cons (pe_bltn rfl N.g12 (by decide +kernel) (show RelV (.ty "ValueError") (.type "ValueError") from rfl)) pa_nil))) pa_nil))) (pa_cons (pe_tup (pa_cons pe_str (pa_cons (pe_callB call_isXr (by rfl) zi PyProof.Rows.boot_isinstance (pa_cons (pv 0) (pa_cons (pe_glob rfl N.g13 (v := .ref (c 13)) rfl) pa_nil))) pa_nil))) pa_nil)))))
      (pss_one (ps_ret (pe_lc (g := gTup K 2 (gCons (gName 2) (gCons (gName 3) gNil))) rfl scClasses.nd (pi_list (pv 1)) (blkOk_by (own := [("label", 2), ("is_so", 3)]) blkC') (fun s H C cl fp => pg_tup (by rfl) (pgs_cons (pg_name (i := 2) scClasses.nd (by rfl) (.inl (by rfl)) (.inr (by rfl))) (pgs_cons (pg_name (i := 3) scClasses.nd (by rfl) (.inl (by rfl)) (.inr (by rfl))) pgs_nil (by rfl)) (by rfl)) (by rfl) (by rfl)) (fun _ _ _ _ _ => pts_one (pt_val (pv 3))) (fun _ _ _ _ _ => pv 2))))))))))), ?_⟩
    refine seq_asg (rd_two (by rfl) er (.own _) T.k0 (.own _) T.k1 fun l1 H1 xs1 S1 n1 e1 R1 => ?_)
    refine ⟨_, rfl, rd_two (by rfl) (er.same S1) (.own _) T.k2 (.own _) T.k3 fun m1 G1 ys1 s1 n1' e1' r1 => ?_⟩
    refine ⟨l1, m1, xs1, ys1, rfl, rfl, s1 _ _ e1, e1', ?_, fun l2 nl2 => ?_⟩
    · rw [R1.len, r1.len]
      exact Nat.le_of_lt (small1000 (by simp))
    have S2 : Same H (upd G1 l2 (.lst (xs1 ++ ys1))) := same_upd2 ((S1.trans s1).free nl2) (S1.trans s1)
    have R2 := ((R1.same s1).app r1).same (same_upd (o := .lst (xs1 ++ ys1)) nl2)
    have e2 : (upd G1 l2 (.lst (xs1 ++ ys1))) l2 = some (.lst (xs1 ++ ys1)) := upd_same
    generalize upd G1 l2 (.lst (xs1 ++ ys1)) = H2 at S2 R2 e2 ⊢
    generalize xs1 ++ ys1 = xs2 at R2 e2 ⊢
    refine ⟨_, rfl, rd_one (by rfl) (er.same S2) (.own _) T.k4 fun m2 G2 ys2 s2 n2' e2' r2 => ?_⟩
    refine ⟨l2, m2, xs2, ys2, rfl, rfl, s2 _ _ e2, e2', ?_, fun l3 nl3 => ?_⟩
    · rw [R2.len, r2.len]
      exact Nat.le_of_lt (small1000 (by simp))
    have S3 : Same H (upd G2 l3 (.lst (xs2 ++ ys2))) := same_upd2 ((S2.trans s2).free nl3) (S2.trans s2)
    have R3 := ((R2.same s2).app r2).same (same_upd (o := .lst (xs2 ++ ys2)) nl3)
    have e3 : (upd G2 l3 (.lst (xs2 ++ ys2))) l3 = some (.lst (xs2 ++ ys2)) := upd_same
    generalize upd G2 l3 (.lst (xs2 ++ ys2)) = H3 at S3 R3 e3 ⊢
    generalize xs2 ++ ys2 = xs3 at R3 e3 ⊢
    refine ⟨_, rfl, rd_one (by rfl) (er.same S3) (.own _) T.k5 fun m3 G3 ys3 s3 n3' e3' r3 => ?_⟩
    refine ⟨l3, m3, xs3, ys3, rfl, rfl, s3 _ _ e3, e3', ?_, fun l4 nl4 => ?_⟩
    · rw [R3.len, r3.len]
      exact Nat.le_of_lt (small1000 (by simp))
    have S4 : Same H (upd G3 l4 (.lst (xs3 ++ ys3))) := same_upd2 ((S3.trans s3).free nl4) (S3.trans s3)
    have R4 := ((R3.same s3).app r3).same (same_upd (o := .lst (xs3 ++ ys3)) nl4)
    have e4 : (upd G3 l4 (.lst (xs3 ++ ys3))) l4 = some (.lst (xs3 ++ ys3)) := upd_same
    generalize upd G3 l4 (.lst (xs3 ++ ys3)) = H4 at S4 R4 e4 ⊢
    generalize xs3 ++ ys3 = xs4 at R4 e4 ⊢
    refine ⟨_, rfl, rd_two (by rfl) (er.same S4) (.own _) T.k6 (.own _) T.k7 fun m4 G4 ys4 s4 n4' e4' r4 => ?_⟩
    refine ⟨l4, m4, xs4, ys4, rfl, rfl, s4 _ _ e4, e4', ?_, fun l5 nl5 => ?_⟩
    · rw [R4.len, r4.len]
      exact Nat.le_of_lt (small1000 (by simp))
    have S5 : Same H (upd G4 l5 (.lst (xs4 ++ ys4))) := same_upd2 ((S4.trans s4).free nl5) (S4.trans s4)
    have R5 := ((R4.same s4).app r4).same (same_upd (o := .lst (xs4 ++ ys4)) nl5)
    have e5 : (upd G4 l5 (.lst (xs4 ++ ys4))) l5 = some (.lst (xs4 ++ ys4)) := upd_same
    generalize upd G4 l5 (.lst (xs4 ++ ys4)) = H5 at S5 R5 e5 ⊢
    generalize xs4 ++ ys4 = xs5 at R5 e5 ⊢
    refine ⟨_, rfl, rd_two (by rfl) (er.same S5) (.own _) T.k8 (.own _) T.k9 fun m5 G5 ys5 s5 n5' e5' r5 => ?_⟩
    refine ⟨l5, m5, xs5, ys5, rfl, rfl, s5 _ _ e5, e5', ?_, fun l6 nl6 => ?_⟩
    · rw [R5.len, r5.len]
      exact Nat.le_of_lt (small1000 (by simp))
    have S6 : Same H (upd G5 l6 (.lst (xs5 ++ ys5))) := same_upd2 ((S5.trans s5).free nl6) (S5.trans s5)
    have R6 := ((R5.same s5).app r5).same (same_upd (o := .lst (xs5 ++ ys5)) nl6)
    have e6 : (upd G5 l6 (.lst (xs5 ++ ys5))) l6 = some (.lst (xs5 ++ ys5)) := upd_same
    generalize upd G5 l6 (.lst (xs5 ++ ys5)) = H6 at S6 R6 e6 ⊢
    generalize xs5 ++ ys5 = xs6 at R6 e6 ⊢
    refine ⟨_, rfl, rd_two (by rfl) (er.same S6) (.own _) T.k10 (.own _) T.k11 fun m6 G6 ys6 s6 n6' e6' r6 => ?_⟩
    refine ⟨l6, m6, xs6, ys6, rfl, rfl, s6 _ _ e6, e6', ?_, fun l7 nl7 => ?_⟩
    · rw [R6.len, r6.len]
      exact Nat.le_of_lt (small1000 (by simp))
    have S7 : Same H (upd G6 l7 (.lst (xs6 ++ ys6))) := same_upd2 ((S6.trans s6).free nl7) (S6.trans s6)
    have R7 := ((R6.same s6).app r6).same (same_upd (o := .lst (xs6 ++ ys6)) nl7)
    have e7 : (upd G6 l7 (.lst (xs6 ++ ys6))) l7 = some (.lst (xs6 ++ ys6)) := upd_same
    generalize upd G6 l7 (.lst (xs6 ++ ys6)) = H7 at S7 R7 e7 ⊢
    generalize xs6 ++ ys6 = xs7 at R7 e7 ⊢
    refine ⟨_, rfl, rd_two (by rfl) (er.same S7) (.ty _) T.k12 (.own _) T.k13 fun m7 G7 ys7 s7 n7' e7' r7 => ?_⟩
    refine ⟨l7, m7, xs7, ys7, rfl, rfl, s7 _ _ e7, e7', ?_, fun l8 nl8 => ?_⟩
    · rw [R7.len, r7.len]
      exact Nat.le_of_lt (small1000 (by simp))
    have S8 : Same H (upd G7 l8 (.lst (xs7 ++ ys7))) := same_upd2 ((S7.trans s7).free nl8) (S7.trans s7)
    have R8 := ((R7.same s7).app r7).same (same_upd (o := .lst (xs7 ++ ys7)) nl8)
    have e8 : (upd G7 l8 (.lst (xs7 ++ ys7))) l8 = some (.lst (xs7 ++ ys7)) := upd_same
    generalize upd G7 l8 (.lst (xs7 ++ ys7)) = H8 at S8 R8 e8 ⊢
    generalize xs7 ++ ys7 = xs8 at R8 e8 ⊢
    have R : Rw H8 xs8 (rws b) := R8
    refine ⟨.ref l8, rfl, l8, rfl, ⟨_, .inl (.inl e8)⟩, fun D nD => ?_⟩
    have hl : xs8.length = (rws b).length := R.len
    refine lc_list (a := l8) (xs := xs8) (fun i Hh => i ≤ (rws b).length ∧ Hh D = some (.lst ((picked ((rws b).take i)).map V.str)) ∧ Same H8 Hh) ⟨Nat.zero_le _, upd_same, same_upd nD⟩ (fun i Hh _ h => .inl (.inl (h.2.2 _ _ e8))) ?_ ?_
    · rintro i x Hh hx ⟨hi, hD, sm⟩
      obtain ⟨r, t, hr', rfl, ht⟩ := R.at hx
      have hil : i < (rws b).length := (List.getElem?_eq_some_iff.mp hr').1
      refine ⟨t, _, rfl, .inl (.inl (sm _ _ ht)), rfl, _, _, rfl, _, _, rfl, rfl, rfl, ?_⟩
      have ep := picked_take hr'
      refine ⟨_, rfl, _, rfl, ?_⟩
      refine ite2 (fun hb => ?_) (fun hb => ?_)
      · rw [if_pos hb] at ep
        refine ⟨_, rfl, _, hD, ?_, by omega, ?_, same_upd2 nD sm⟩
        · have h1 : (picked ((rws b).take i)).length ≤ ((rws b).take i).length := by
            unfold picked
            rw [List.length_map]
            exact List.length_filter_le _ _
          have h2 : ((rws b).take i).length ≤ 14 := by
            rw [List.length_take]
            exact Nat.le_trans (Nat.min_le_right _ _) (by show 14 ≤ 14; decide)
          rw [List.length_map]
          exact small1000 (by omega)
        · rw [upd_same, ep, List.map_append]
          rfl
      · rw [if_neg hb, List.append_nil] at ep
        exact ⟨by omega, by rw [ep]; exact hD, sm⟩
    · rintro Hh ⟨hi, hD, sm⟩
      have e : (rws b).take xs8.length = rws b := by
        rw [hl]
        exact List.take_length
      rw [e] at hD
      exact q D Hh (S8.trans sm) (S8.free nD) hD
end
end K80

/-! part E3 -/
set_option Elab.async false
set_option linter.all false
set_option maxRecDepth 100000
set_option maxHeartbeats 4000000
namespace K80
open PySem PySem.Spec PyProof.Rows L2 KG
/-- a small datum -/
structure Sml (d : PyData) : Prop where
  sh : d.showable = true
  dp : d.depth ≤ 3
  sz : d.shown.length ≤ 4000
  st : ∀ y : Str, d = .str y → y.length ≤ 4000
theorem Sml.shw {d : PyData} (h : Sml d) : Shw d := ⟨h.sh, Nat.le_trans h.dp (by decide), Nat.le_trans h.sz (by decide), fun y e => Nat.le_trans (h.st y e) (by decide)⟩
def OkS (H : Hp) (v : V) : Prop := ∃ d, Dq H v d ∧ Sml d
theorem OkS.okd {H : Hp} {v : V} (h : OkS H v) : Okd H v := by
  obtain ⟨d, h1, h2⟩ := h
  exact ⟨d, h1, h2.shw⟩
theorem OkS.same {H H' : Hp} {v : V} (h : OkS H v) (s : Same H H') : OkS H' v := by
  obtain ⟨d, h1, h2⟩ := h
  exact ⟨d, h1.same s, h2⟩
theorem Okd.same {H H' : Hp} {v : V} (h : Okd H v) (s : Same H H') : Okd H' v := by
  obtain ⟨d, h1, h2⟩ := h
  exact ⟨d, h1.same s, h2⟩
/-- the heap without the draws' own objects, and the list of things -/
def off (m g l : Addr) (H : Hp) : Hp := fun b => if b = m ∨ b = g ∨ b = l then none else H b
theorem off_le (m g l : Addr) (H : Hp) : Same (off m g l H) H := fun b o e => by
  unfold off at e
  by_cases h : b = m ∨ b = g ∨ b = l
  · rw [if_pos h] at e
    cases e
  · rw [if_neg h] at e
    exact e
theorem off_at {m g l : Addr} {H : Hp} {b : Addr} {o : HO} (h1 : b ≠ m) (h2 : b ≠ g) (h3 : b ≠ l) (e : H b = some o) : off m g l H b = some o := by
  unfold off
  rw [if_neg (fun z => z.elim h1 fun z => z.elim h2 h3)]
  exact e
theorem off_mono {m g l : Addr} {H H' : Hp} (s : ∀ b o, b ≠ m → b ≠ g → b ≠ l → H b = some o → H' b = some o) : Same (off m g l H) (off m g l H') := fun b o e => by
  unfold off at e
  by_cases h : b = m ∨ b = g ∨ b = l
  · rw [if_pos h] at e
    cases e
  · rw [if_neg h] at e
    exact off_at (fun z => h (.inl z)) (fun z => h (.inr (.inl z))) (fun z => h (.inr (.inr z))) (s b o (fun z => h (.inl z)) (fun z => h (.inr (.inl z))) (fun z => h (.inr (.inr z))) e)
theorem off_sameD {m g l : Addr} {H H' : Hp} (s : SameD m g H H') : Same (off m g l H) (off m g l H') := off_mono fun b o h1 h2 _ e => s b o h1 h2 e
theorem at_mem {α : Type} {xs : List α} {i : Int} (h0 : 0 ≤ i) (h1 : i < xs.length) : ∃ v, atI xs i = some v ∧ v ∈ xs := by
  have hj : i.toNat < xs.length := by omega
  refine ⟨xs[i.toNat], ?_, List.getElem_mem hj⟩
  unfold atI
  rw [ix_int h0 h1]
  exact List.getElem?_eq_getElem hj
theorem cons_of {te : TE} {tr : TA} {σ : L2.St} {H : Hp} {Q : List V → Hp → Prop} (h : te σ H fun x H1 => tr σ H1 fun xs H2 => Q (x :: xs) H2) : tCons te tr σ H Q := h
theorem lst_of {t : TA} {σ : L2.St} {H : Hp} {Q : VK} (h : t σ H fun xs H1 => xs.length ≤ sizeLine ∧ ∀ p, H1 p = none → Q (.ref p) (upd H1 p (.lst xs))) : tLst t σ H Q := h
theorem Drw.same {H H' : Hp} {m c g : Addr} {sp : Int} (D : Drw H m c g sp) (s : Same H H') : Drw H' m c g sp := by
  obtain ⟨h1, ⟨ns, h2, h3⟩, ⟨gs, h4, h5⟩, h6⟩ := D
  exact ⟨s _ _ h1, ⟨ns, h2, s _ _ h3⟩, ⟨gs, h4, s _ _ h5⟩, h6⟩
theorem ne_free {H : Hp} {a b : Addr} {o : HO} (h : H b = some o) (n : H a = none) : a ≠ b := fun z => by
  rw [z, h] at n
  cases n
theorem sml_int {i : Int} (h0 : 0 ≤ i) (h1 : i < 1000000) : Sml (.int i) := by
  have hb : i.natAbs.log2 < 1920 := by
    rcases Nat.eq_zero_or_pos i.natAbs with z | z
    · rw [z]
      decide
    · refine (Nat.log2_lt (by omega)).mpr ?_
      exact Nat.lt_of_lt_of_le (show i.natAbs < 2 ^ 20 by omega) (Nat.pow_le_pow_right (by decide) (by decide))
  refine ⟨decide_eq_true hb, by simp [PyData.depth], ?_, fun y e => by cases e⟩
  exact Nat.le_trans (int_text_len_1921 hb) (show 1921 ≤ 4000 by decide)
section
variable {P : Program} {w : World} {K : PySem.W.Frag} {mg : Str → Option Value} {base : Heap}
/-- BadLog(q) and its like -/
theorem rdOne {σ : L2.St} {H : Hp} {Q : VK} {newId : String} {bm : List Value} {f : Str} {C : Addr} {i : Nat} {q : V} (h0 : σ[i]? = some (some q)) (hq : OkS H q) (X : XB K C newId bm) (Y : ExcC K C) (t : PySem.W.takerIn K C f = some none)
    (k : ∀ a H', Same H H' → H a = none → Err K H' a C [(f, q)] → Q (.ref a) H') : tXv C (spOne K newId bm f) (tCons (tVar i) tNil) σ H Q := by
  refine ⟨q, h0, by show 1 ≤ 1000; decide, fun a na => ⟨a, C, q, rfl, X, t, upd_same, hq.okd.same (same_upd na), fun dx nd ne => ⟨rfl, ?_⟩⟩⟩
  rw [upd_ne ne] at nd
  refine k a _ (fun b o e => ?_) na ⟨Y, dx, upd_same, ?_⟩
  · rw [upd_ne (ne_of_none e na), upd_ne (ne_of_none e nd), upd_ne (ne_of_none e na)]
    exact e
  · rw [upd_ne ne]
    exact upd_same
theorem rdOneK {σ : L2.St} {H : Hp} {Q : VK} {newId : String} {bm : List Value} {f : Str} {C : Addr} {i : Nat} {q : V} (h0 : σ[i]? = some (some q)) (hq : OkS H q) (X : XB K C newId bm) (Y : ExcC K C) (t : PySem.W.takerIn K C f = some none)
    (k : ∀ a H', Same H H' → H a = none → Err K H' a C [(f, q)] → Q (.ref a) H') : tXk C 1 id (spOne K newId bm f) (tCons (tVar i) tNil) σ H Q := by
  refine ⟨q, h0, rfl, fun a na => ⟨a, C, q, rfl, X, t, upd_same, hq.okd.same (same_upd na), fun dx nd ne => ⟨rfl, ?_⟩⟩⟩
  rw [upd_ne ne] at nd
  refine k a _ (fun b o e => ?_) na ⟨Y, dx, upd_same, ?_⟩
  · rw [upd_ne (ne_of_none e na), upd_ne (ne_of_none e nd), upd_ne (ne_of_none e na)]
    exact e
  · rw [upd_ne ne]
    exact upd_same
/-- what is known of BadText's class -/
structure TxC (K : PySem.W.Frag) (C : Addr) : Prop where
  xb : XB K C "ValueError.__new__" ve
  ox : OexC K C
  ec : ExcC K C
  tl : PySem.W.takerIn K C "line" = some none
  fw : PySem.W.findIn K (.ref C) "word" = some none
theorem spTwo_of {H : Hp} {Q : VK} {E : XK} {C a : Addr} {y z : V} (T : TxC K C) (na : H a = none) (hy : OkS H y) (hz : OkS H z) (k : ∀ a H', Same H H' → H a = none → Err K H' a C [("word", z), ("line", y)] → Q (.ref a) H') :
    spTwo K [.ref a, y, z] (upd H a (exo a C none)) (fun v H2 => v = .non ∧ Q (.ref a) H2) E := by
  refine ⟨a, C, y, z, rfl, T.xb, T.ox, T.tl, T.fw, upd_same, hy.okd.same (same_upd na), hz.okd.same (same_upd na), fun dx H' nd ne e1 e2 kp => ⟨rfl, ?_⟩⟩
  exact k a H' (fun b o e => kp b o (same_upd na _ _ e) (ne_of_none e na)) na ⟨T.ec, dx, e1, e2⟩
theorem rdTwo {σ : L2.St} {H : Hp} {Q : VK} {C : Addr} {i j : Nat} {y z : V} (T : TxC K C) (h0 : σ[i]? = some (some y)) (h1 : σ[j]? = some (some z)) (hy : OkS H y) (hz : OkS H z) (k : ∀ a H', Same H H' → H a = none → Err K H' a C [("word", z), ("line", y)] → Q (.ref a) H') :
    tXv C (spTwo K) (tCons (tVar i) (tCons (tVar j) tNil)) σ H Q := ⟨y, h0, z, h1, by show 2 ≤ 1000; decide, fun a na => spTwo_of T na hy hz k⟩
theorem rdTwoK {σ : L2.St} {H : Hp} {Q : VK} {C : Addr} {i j : Nat} {y z : V} (T : TxC K C) (h0 : σ[i]? = some (some y)) (h1 : σ[j]? = some (some z)) (hy : OkS H y) (hz : OkS H z) (k : ∀ a H', Same H H' → H a = none → Err K H' a C [("word", z), ("line", y)] → Q (.ref a) H') :
    tXk C 2 List.reverse (spTwo K) (tCons (tVar j) (tCons (tVar i) tNil)) σ H Q := ⟨z, h1, y, h0, rfl, fun a na => spTwo_of T na hy hz k⟩
theorem spOne_of {H : Hp} {R : Hp → Prop} {E : XK} {newId : String} {bm : List Value} {f : Str} {C a : Addr} {q : V} (X : XB K C newId bm) (Y : ExcC K C) (t : PySem.W.takerIn K C f = some none) (na : H a = none) (hq : OkS H q)
    (k : ∀ H', Same H H' → Err K H' a C [(f, q)] → R H') : spOne K newId bm f [.ref a, q] (upd H a (exo a C none)) (fun v H2 => v = .non ∧ R H2) E := by
  refine ⟨a, C, q, rfl, X, t, upd_same, hq.okd.same (same_upd na), fun dx nd ne => ⟨rfl, ?_⟩⟩
  rw [upd_ne ne] at nd
  refine k _ (fun b o e => ?_) ⟨Y, dx, upd_same, ?_⟩
  · rw [upd_ne (ne_of_none e na), upd_ne (ne_of_none e nd), upd_ne (ne_of_none e na)]
    exact e
  · rw [upd_ne ne]
    exact upd_same
theorem up_of {H : Hp} {b p : Addr} {o u : HO} (n : H p = none) (e : H b = some o) : (upd H p u) b = some o := same_upd n _ _ e
/-- the list of things -/
theorem rdThings {σ : L2.St} {H : Hp} {Q : VK} {m c g : Addr} {sp : Int} (h1 : σ[1]? = some (some (.ref m))) (D : Drw H m c g sp) (h0 : 0 ≤ sp) (hs : sp < 800000)
    (k : ∀ l G xs, xs.length = 10 → G l = some (.lst xs) → l ≠ m → l ≠ g → l ≠ c → Drw G m c g (sp + 1) → (∀ v ∈ xs, OkS (off m g l G) v) → Q (.ref l) G) :
    tLst (tCons (tC V.non) (tCons (tC (V.int 0)) (tCons (tC (V.bl true)) (tCons (tCall spDraw [] E0 (tCons (tVar 1) (tCons (tOp (rI CPow fun i j => V.int (i ^ j.toNat)) (tC (V.int 10)) (tC (V.int 6))) tNil))) (tCons (tC (V.str "")) (tCons (tC (V.str "row")) (tCons (tTup tNil) (tCons (tTup (tCons (tC (V.int 1)) (tCons (tC (V.str "a")) tNil))) (tCons (tLstN (tCons (tC (V.int 1)) (tCons (tLstN (tCons (tC (V.int 2)) tNil)) tNil))) (tCons tDNewK tNil)))))))))) σ H Q := by
  refine ⟨_, h1, _, _, rfl, rfl, ⟨by decide, by decide, by decide⟩, m, c, g, sp, _, rfl, D, h0, by omega, by decide, by decide, fun r H2 r0 r1 D2 S2 => ?_⟩
  refine ⟨Nat.zero_le _, fun p1 n1 => ⟨(by show 2 ≤ sizeLine; decide), fun p2 n2 => ⟨(by show 1 ≤ sizeLine; decide), fun p3 n3 k3 => ⟨(by show 2 ≤ sizeLine; decide), fun p4 n4 k4 p5 n5 => ⟨(by show 10 ≤ sizeLine; decide), fun l nl => ?_⟩⟩⟩⟩⟩
  have r1' : r < 1000000 := r1
  obtain ⟨hm, ⟨cs, _, hc⟩, ⟨gs, _, hg⟩, _⟩ := id D2
  refine k l _ _ rfl upd_same ?_ ?_ ?_ (D2.same ?_) ?_
  · exact ne_free (up_of n5 (up_of n4 (up_of n3 (up_of n2 (up_of n1 hm))))) nl
  · exact ne_free (up_of n5 (up_of n4 (up_of n3 (up_of n2 (up_of n1 hg))))) nl
  · exact ne_free (up_of n5 (up_of n4 (up_of n3 (up_of n2 (up_of n1 hc))))) nl
  · exact fun b o e => up_of nl (up_of n5 (up_of n4 (up_of n3 (up_of n2 (up_of n1 e)))))
  · -- where the new ones stand
    have a1 : ∀ u, off m g l (upd _ l u) p1 = some (.tup []) := fun u => off_at (ne_free hm n1) (ne_free hg n1) (ne_free (up_of n5 (up_of n4 (up_of n3 (up_of n2 upd_same)))) nl).symm (up_of nl (up_of n5 (up_of n4 (up_of n3 (up_of n2 upd_same)))))
    have a2 : ∀ u, off m g l (upd _ l u) p2 = some (.tup [.int 1, .str "a"]) := fun u => off_at (ne_free (up_of n1 hm) n2) (ne_free (up_of n1 hg) n2) (ne_free (up_of n5 (up_of n4 (up_of n3 upd_same))) nl).symm (up_of nl (up_of n5 (up_of n4 (up_of n3 upd_same))))
    have a3 : ∀ u, off m g l (upd _ l u) p3 = some (.lst [.int 2]) := fun u => off_at (ne_free (up_of n2 (up_of n1 hm)) n3) (ne_free (up_of n2 (up_of n1 hg)) n3) (ne_free (up_of n5 (up_of n4 upd_same)) nl).symm (up_of nl (up_of n5 (up_of n4 upd_same)))
    have a4 : ∀ u, off m g l (upd _ l u) p4 = some (.lst [.int 1, .ref p3]) := fun u => off_at (ne_free (up_of n3 (up_of n2 (up_of n1 hm))) n4) (ne_free (up_of n3 (up_of n2 (up_of n1 hg))) n4) (ne_free (up_of n5 upd_same) nl).symm (up_of nl (up_of n5 upd_same))
    have a5 : ∀ u, off m g l (upd _ l u) p5 = some (.dK []) := fun u => off_at (ne_free (up_of n4 (up_of n3 (up_of n2 (up_of n1 hm)))) n5) (ne_free (up_of n4 (up_of n3 (up_of n2 (up_of n1 hg)))) n5) (ne_free upd_same nl).symm (up_of nl upd_same)
    intro v hv
    simp only [List.mem_cons, List.mem_nil_iff, or_false, List.not_mem_nil] at hv
    rcases hv with rfl | rfl | rfl | rfl | rfl | rfl | rfl | rfl | rfl | rfl
    · exact ⟨_, .non, by decide +kernel, by decide +kernel, by decide +kernel, fun y e => by cases e⟩
    · exact ⟨_, .int 0, by decide +kernel, by decide +kernel, by decide +kernel, fun y e => by cases e⟩
    · exact ⟨_, .bl true, by decide +kernel, by decide +kernel, by decide +kernel, fun y e => by cases e⟩
    · exact ⟨_, .int r, sml_int r0 r1'⟩
    · exact ⟨_, .str "", by decide +kernel, by decide +kernel, by decide +kernel, fun y e => by cases e; decide⟩
    · exact ⟨_, .str "row", by decide +kernel, by decide +kernel, by decide +kernel, fun y e => by cases e; decide⟩
    · exact ⟨.tuple [], .tup (a1 _) .nil, by decide +kernel, by decide +kernel, by decide +kernel, fun y e => by cases e⟩
    · exact ⟨.tuple [.int 1, .str "a"], .tup (a2 _) (.cons (.int 1) (.cons (.str "a") .nil)), by decide +kernel, by decide +kernel, by decide +kernel, fun y e => by cases e⟩
    · exact ⟨.list [.int 1, .list [.int 2]], .lst (a4 _) k4 (.cons (.int 1) (.cons (.lst (a3 _) k3 (.cons (.int 2) .nil)) .nil)), by decide +kernel, by decide +kernel, by decide +kernel, fun y e => by cases e⟩
    · exact ⟨.dict [], .dct (ks := []) (a5 _), by decide +kernel, by decide +kernel, by decide +kernel, fun y e => by cases e⟩
theorem app_ok {G : Hp} {m c g l p : Addr} {sp : Int} {xs : List V} (n : G p = none) (hl : G l = some (.lst xs)) (lm : l ≠ m) (lg : l ≠ g) (lc : l ≠ c) (D : Drw G m c g sp) (hv : ∀ v ∈ xs, OkS (off m g l G) v) :
    Drw (upd (upd (upd G p (.dK [])) p (.dK (mergeK [] [((.inr "a" : Key), V.int 1)]))) l (.lst (xs ++ [.ref p]))) m c g sp ∧
    ∀ v ∈ xs ++ [.ref p], OkS (off m g l (upd (upd (upd G p (.dK [])) p (.dK (mergeK [] [((.inr "a" : Key), V.int 1)]))) l (.lst (xs ++ [.ref p])))) v := by
  have S : ∀ b o, b ≠ l → G b = some o → (upd (upd (upd G p (.dK [])) p (.dK (mergeK [] [((.inr "a" : Key), V.int 1)]))) l (.lst (xs ++ [.ref p]))) b = some o := fun b o h e => by
    rw [upd_ne h, upd_ne (ne_of_none e n), upd_ne (ne_of_none e n)]
    exact e
  obtain ⟨h1, ⟨ns, h2, h3⟩, ⟨gs, h4, h5⟩, h6⟩ := D
  refine ⟨⟨S _ _ lm.symm h1, ⟨ns, h2, S _ _ lc.symm h3⟩, ⟨gs, h4, S _ _ lg.symm h5⟩, h6⟩, fun v m' => ?_⟩
  rcases List.mem_append.mp m' with z | z
  · exact (hv v z).same (off_mono fun b o _ _ h e => S b o h e)
  · have e := List.mem_singleton.mp z
    subst e
    refine ⟨.dict [(.str "a", .int 1)], .dct (ks := [("a", 1)]) (off_at (ne_free h1 n) (ne_free h5 n) (ne_free hl n) ?_), by decide +kernel, by decide +kernel, by decide +kernel, fun y e => by cases e⟩
    rw [upd_ne (ne_free hl n)]
    exact upd_same
/-- told and due: the same four values -/
theorem sml_four {a b c d : PyData} (ha : Sml a) (hb : Sml b) (hc : Sml c) (hd : Sml d) : Shw (.list [a, b, c, d]) := by
  refine ⟨?_, ?_, ?_, fun y e => by cases e⟩
  · simp only [PyData.showable, PyData.showableAll, ha.sh, hb.sh, hc.sh, hd.sh]
    rfl
  · have h1 := ha.dp
    have h2 := hb.dp
    have h3 := hc.dp
    have h4 := hd.dp
    simp only [PyData.depth, PyData.depthAll]
    omega
  · have h1 := ha.sz
    have h2 := hb.sz
    have h3 := hc.sz
    have h4 := hd.sz
    simp only [PyData.shown, PyData.shownAll]
    unfold PySem.listText
    simp only [PySem.textFrom, PySem.strLen_append]
    have z0 : (PySem.Str.ofString (if 0 > 0 then ", " else "" : String)).length ≤ 2 := by decide
    have z1 : (PySem.Str.ofString (if 0 + 1 > 0 then ", " else "" : String)).length ≤ 2 := by decide
    have z2 : (PySem.Str.ofString (if 0 + 1 + 1 > 0 then ", " else "" : String)).length ≤ 2 := by decide
    have z3 : (PySem.Str.ofString (if 0 + 1 + 1 + 1 > 0 then ", " else "" : String)).length ≤ 2 := by decide
    have z4 : (PySem.Str.ofString "[").length ≤ 2 := by decide
    have z5 : (PySem.Str.ofString "]").length ≤ 2 := by decide
    omega
end
end K80

/-! part E4 -/
set_option Elab.async false
set_option linter.all false
set_option maxRecDepth 100000
set_option maxHeartbeats 8000000
namespace K80
open PySem PySem.Spec PyProof.Rows L2 KG
abbrev sLaw : Stmt := topS 21
/-- a def of the module, as it is called -/
structure Dfn (K : PySem.W.Frag) (mg : Str → Option Value) (x : Str) (f : Addr) (fd : FuncData) (ps : List Str) : Prop where
  gm : mg x = some (.ref f)
  kp : PySem.W.keepIn K (.ref f) = true
  bd : Binds K fd ps []
/-- an own exception's __init__ of one field -/
structure One (P : Program) (w : World) (K : PySem.W.Frag) (mg : Str → Option Value) (base : Heap) (newId : String) (bm : List Value) (f : Str) (C : Addr) : Prop where
  xb : XB K C newId bm
  ec : ExcC K C
  ta : PySem.W.takerIn K C f = some none
  no : PySem.W.findIn K (.ref C) f = some none
  ini : ∃ (fI : Addr) (fd : FuncData), PySem.W.findIn K (.ref C) "__init__" = some (some (.ref fI)) ∧ PySem.W.typeIn K (.ref fI) = some (.type "function") ∧ FnG P w K mg base 1 fI fd ["self", f] (spOne K newId bm f) ∧ Binds K fd ["self", f] [] ∧
    ∀ (s : Shared) (v0 : Value) (ws : List Value), ws.length = 1 → BindsTo s fd ⟨[v0], ([f] : List Str).zip ws⟩ ((["self", f] : List Str).zip (v0 :: ws))
structure Two (P : Program) (w : World) (K : PySem.W.Frag) (mg : Str → Option Value) (base : Heap) (C : Addr) : Prop where
  tx : TxC K C
  nl : PySem.W.findIn K (.ref C) "line" = some none
  ini : ∃ (fI : Addr) (fd : FuncData), PySem.W.findIn K (.ref C) "__init__" = some (some (.ref fI)) ∧ PySem.W.typeIn K (.ref fI) = some (.type "function") ∧ FnG P w K mg base 1 fI fd ["self", "line", "word"] (spTwo K) ∧ Binds K fd ["self", "line", "word"] [] ∧
    ∀ (s : Shared) (v0 : Value) (ws : List Value), ws.length = 2 → BindsTo s fd ⟨[v0], (["word", "line"] : List Str).zip ws⟩ ((["self", "line", "word"] : List Str).zip (v0 :: ws.reverse))
def bLog : Nat → Bool := fun i => i == 8 || i == 11 || i == 12
def bRow : Nat → Bool := fun i => i == 9 || i == 11 || i == 12
def bText : Nat → Bool := fun i => i == 10 || i == 11 || i == 12
def bGreat : Nat → Bool := fun i => i == 13
/-- the three errors in a list -/
def Trio (K : PySem.W.Frag) (c : Nat → Addr) (H : Hp) (l : Addr) (q z : V) : Prop := ∃ e1 e2 e3 : Addr, H l = some (.lst [.ref e1, .ref e2, .ref e3]) ∧ Err K H e1 (c 8) [("place", q)] ∧ Err K H e2 (c 9) [("value", q)] ∧ Err K H e3 (c 10) [("word", z), ("line", q)]
theorem Trio.same {K : PySem.W.Frag} {c : Nat → Addr} {H H' : Hp} {l : Addr} {q z : V} (h : Trio K c H l q z) (s : Same H H') : Trio K c H' l q z := by
  obtain ⟨e1, e2, e3, h0, h1, h2, h3⟩ := h
  exact ⟨e1, e2, e3, s _ _ h0, h1.same s, h2.same s, h3.same s⟩
theorem shaped3 (a : Str) (h : SeqAt.shaped (.list [.str a, .str "own", .str "sort"]) = true) (K : PySem.W.Frag) (H : Hp) (p : Addr) (e : H p = some (.lst [.str a, .str "own", .str "sort"])) : Dp K H (.ref p) (.list [.str a, .str "own", .str "sort"]) := .lst (.inl (.inl e)) (.cons (.str a) (.cons (.str "own") (.cons (.str "sort") .nil)))
theorem eqv3 (a : Str) : PyData.eqv (.list [.str a, .str "own", .str "sort"]) (.list [.str a, .str "own", .str "sort"]) = true := by
  simp [PyData.eqv, PyData.eqvAll]
/-- what the inner loop asks at its turn -/
structure Pick (K : PySem.W.Frag) (c : Nat → Addr) (H : Hp) (xs : List V) (i : Int) (e : Addr) (lab : Str) : Prop where
  a1 : atI xs i = some (.ref e)
  a2 : atI [V.str "log", .str "row", .str "text"] i = some (.str lab)
  er : ∃ (C : Addr) (fs : List (Str × V)) (b : Nat → Bool), Err K H e C fs ∧ Kit K c C b ∧ picked (rws b) = [lab, "own", "sort"]
  sh : SeqAt.shaped (.list [.str lab, .str "own", .str "sort"]) = true
section
variable {P : Program} {w : World} {K : PySem.W.Frag} {mg : Str → Option Value} {base : Heap}
theorem pick_of {c : Nat → Addr} {H : Hp} {q z : V} {e1 e2 e3 : Addr} (kL : Kit K c (c 8) bLog) (kR : Kit K c (c 9) bRow) (kT : Kit K c (c 10) bText)
    (h1 : Err K H e1 (c 8) [("place", q)]) (h2 : Err K H e2 (c 9) [("value", q)]) (h3 : Err K H e3 (c 10) [("word", z), ("line", q)]) {i : Nat} (hi : i < 3) : ∃ e lab, Pick K c H [.ref e1, .ref e2, .ref e3] (0 + (i : Int)) e lab := by
  match i, hi with
  | 0, _ => exact ⟨e1, "log", rfl, rfl, ⟨_, _, bLog, h1, kL, by decide +kernel⟩, by decide +kernel⟩
  | 1, _ => exact ⟨e2, "row", rfl, rfl, ⟨_, _, bRow, h2, kR, by decide +kernel⟩, by decide +kernel⟩
  | 2, _ => exact ⟨e3, "text", rfl, rfl, ⟨_, _, bText, h3, kT, by decide +kernel⟩, by decide +kernel⟩
theorem lk_line {q z : V} : List.lookup ("line" : Str) [(("word" : Str), z), ("line", q)] = some q := by
  rw [lookup_put, if_neg (by decide +kernel), lookup_put, if_pos rfl]
theorem lk_word {q z : V} : List.lookup ("word" : Str) [(("word" : Str), z), ("line", q)] = some z := by
  rw [lookup_put, if_pos rfl]
theorem lk_one {q : V} {f : Str} : List.lookup f [(f, q)] = some q := by
  rw [lookup_put, if_pos rfl]
theorem scLaw : FnScope ["script", "m", "turn", "things", "q", "z", "by_place", "by_names", "some", "k", "told_so"] ["script"] (defScope sLaw) := ⟨rfl, rfl, rfl, by decide +kernel, rfl, by decide +kernel, by decide +kernel⟩
def spLaw (K : PySem.W.Frag) : Sp := fun vs H Q _ => ∃ (a : Addr) (ns : List Int), vs = [.ref a] ∧ SqL K H a (ns.map V.int) ∧ ns.length ≤ 63 ∧ ∀ H', Q (.bl true) H'
theorem ok_law {f fB fD fC fL : Addr} {fd fdB fdD fdC fdL : FuncData} {c : Nat → Addr} (F : Fun K "law" "law" sLaw f fd)
    (dB : Dfn K mg "_law_begun" fB fdB ["script"]) (GB : FnOk P w K mg base CX0 2 fB fdB ["script"] (spBegun K))
    (dD : Dfn K mg "_law_draw" fD fdD ["m", "limit"]) (GD : FnOk P w K mg base CX0 2 fD fdD ["m", "limit"] spDraw)
    (dC : Dfn K mg "_law_classes" fC fdC ["error"]) (GC : FnOk P w K mg base CX0 1 fC fdC ["error"] (spClasses K c))
    (dL : Dfn K mg "_law_like" fL fdL ["answer", "due"]) (GL : FnG P w K mg base 1 fL fdL ["answer", "due"] spLike)
    (N : Nms mg c) (oL : One P w K mg base "ValueError.__new__" ve "place" (c 8)) (oR : One P w K mg base "ValueError.__new__" ve "value" (c 9)) (oT : Two P w K mg base (c 10)) (oG : One P w K mg base "OverflowError.__new__" oe "most" (c 13))
    (kL : Kit K c (c 8) bLog) (kR : Kit K c (c 9) bRow) (kT : Kit K c (c 10) bText) (kG : Kit K c (c 13) bGreat)
    (zr : mg "range" = none) (zm : mg "min" = none) (zl : mg "len" = none) : FnG P w K mg base 3 f fd ["script"] (spLaw K) := by
  obtain ⟨fLI, fdLI, iL, tL, FL, bL, hL⟩ := oL.ini
  obtain ⟨fRI, fdRI, iR, tR, FR, bR, hR⟩ := oR.ini
  obtain ⟨fTI, fdTI, iT, tT, FT, bT, hT⟩ := oT.ini
  obtain ⟨fGI, fdGI, iG, tG, FGr, bG, hG⟩ := oG.ini
  refine fnG_of F scLaw (fun vs H Q E h => ?_) (fun cdv A outer s H vs Q E hgd hr h => ?_)
  · obtain ⟨a, ns, rfl, _⟩ := h
    rfl
  · obtain ⟨a, ns, rfl, hS, hlen, q⟩ := h
    have hr1 : Room 1 _ := hr.mono (by decide)
    refine ⟨_, pss_cons (ps_set (i := 1) scLaw.nd rfl (.inl rfl) (pe_call GB hr (by rfl) dB.gm dB.kp dB.bd .nil pass0 (pa_cons (pv 0) pa_nil)))
      (pss_cons (ps_for PassesOwn.never rfl (pi_range1 (by rfl) zr (pa_cons (pe_op op_add pe_int (pe_callB (call_min2 rfl) (by rfl) zm (by decide +kernel) (pa_cons pe_int (pa_cons (pe_callB call_len_seq (by rfl) zl PySem.boot_len (pa_cons (pv 0) pa_nil)) pa_nil)))) pa_nil)) (pg_name (i := 2) scLaw.nd rfl (.inl rfl))
        (pss_cons (ps_set (i := 3) scLaw.nd rfl (.inl rfl) (pe_lst (pa_cons pe_non (pa_cons pe_int (pa_cons pe_bl (pa_cons (pe_call GD hr (by rfl) dD.gm dD.kp dD.bd .nil pass0 (pa_cons (pv 1) (pa_cons (pe_op op_pow pe_int pe_int) pa_nil))) (pa_cons pe_str (pa_cons pe_str (pa_cons (pe_tup pa_nil) (pa_cons (pe_tup (pa_cons pe_int (pa_cons pe_str pa_nil))) (pa_cons (pe_lstN (pa_cons pe_int (pa_cons (pe_lstN (pa_cons pe_int pa_nil)) pa_nil))) (pa_cons pe_dnewK pa_nil))))))))))))
        (pss_cons (ps_expr (pe_bm PySem.F.plainAttrs_list PySem.F.slot_list_append PySem.F.type_list_append mt_append (pv 3) (pa_cons (pe_disp (pps_cons pe_str pe_int pps_nil) (by rfl) (by rfl) (by simp) (by simp)) pa_nil)))
        (pss_cons (ps_par (i := 4) (j := 5) rfl scLaw.nd rfl rfl (by decide) rfl rfl (pa_cons (pe_ix ix_list (pv 3) (pe_call GD hr (by rfl) dD.gm dD.kp dD.bd .nil pass0 (pa_cons (pv 1) (pa_cons pe_int pa_nil))) (fun _ _ => rfl)) (pa_cons (pe_ix ix_list (pv 3) (pe_call GD hr (by rfl) dD.gm dD.kp dD.bd .nil pass0 (pa_cons (pv 1) (pa_cons pe_int pa_nil))) (fun _ _ => rfl)) pa_nil)) rfl)
        (pss_cons (ps_set (i := 6) scLaw.nd rfl (.inl rfl) (pe_lst (pa_cons (pe_xv PySem.F.excBase_ValueError oL.xb iL tL FL hgd hr bL (by rfl) N.g8 (pa_cons (pv 4) pa_nil)) (pa_cons (pe_xv PySem.F.excBase_ValueError oR.xb iR tR FR hgd hr bR (by rfl) N.g9 (pa_cons (pv 4) pa_nil)) (pa_cons (pe_xv PySem.F.excBase_ValueError oT.tx.xb iT tT FT hgd hr bT (by rfl) N.g10 (pa_cons (pv 4) (pa_cons (pv 5) pa_nil))) pa_nil)))))
        (pss_cons (ps_set (i := 7) scLaw.nd rfl (.inl rfl) (pe_lst (pa_cons (pe_xk (permV := id) (permU := id) (ks := ["place"]) PySem.F.excBase_ValueError oL.xb iL tL FL hgd hr (fun _ _ _ h => h) hL (by rfl) N.g8 (pk_cons (pv 4) pk_nil)) (pa_cons (pe_xk (permV := id) (permU := id) (ks := ["value"]) PySem.F.excBase_ValueError oR.xb iR tR FR hgd hr (fun _ _ _ h => h) hR (by rfl) N.g9 (pk_cons (pv 4) pk_nil)) (pa_cons (pe_xk (permV := List.reverse) (permU := List.reverse) (ks := ["word", "line"]) PySem.F.excBase_ValueError oT.tx.xb iT tT FT hgd hr (fun zs ws l h => by
            match zs, ws, l, h with
            | [_, _], [_, _], _, .cons h1 (.cons h2 .nil) => exact .cons h2 (.cons h1 .nil)) hT (by rfl) N.g10 (pk_cons (pv 5) (pk_cons (pv 4) pk_nil))) pa_nil)))))
        (pss_cons (ps_for PassesOwn.never rfl (pi_tup (pe_tup (pa_cons (pv 6) (pa_cons (pv 7) pa_nil)))) (pg_name (i := 8) scLaw.nd rfl (.inl rfl))
          (pss_cons (ps_for PassesOwn.never rfl (pi_range1 (by rfl) zr (pa_cons pe_int pa_nil)) (pg_name (i := 9) scLaw.nd rfl (.inl rfl))
            (pss_one (ps_if (pt_cmpR (op_neD hr.units) (pe_call GC hr1 (by rfl) dC.gm dC.kp dC.bd .nil pass0 (pa_cons (pe_ix ix_list (pv 8) (pv 9) (fun _ _ => rfl)) pa_nil)) (pe_lst (pa_cons (pe_ix ix_list (pe_lst (pa_cons pe_str (pa_cons pe_str (pa_cons pe_str pa_nil)))) (pv 9) (fun _ _ => rfl)) (pa_cons pe_str (pa_cons pe_str pa_nil)))) (nomark _)) (pss_one (ps_ret pe_bl)) pss_nil)))
          (pss_cons (ps_set (i := 10) scLaw.nd rfl (.inl rfl) (pe_lstN (pa_cons (pe_xat (pe_ix ix_list (pv 8) pe_int (fun _ _ => rfl))) (pa_cons (pe_xat (pe_ix ix_list (pv 8) pe_int (fun _ _ => rfl))) (pa_cons (pe_xat (pe_ix ix_list (pv 8) pe_int (fun _ _ => rfl))) (pa_cons (pe_xat (pe_ix ix_list (pv 8) pe_int (fun _ _ => rfl))) pa_nil))))))
          (pss_one (ps_if (pt_not (pt_val (pe_callG GL hgd hr1 (by rfl) dL.gm dL.kp dL.bd (pa_cons (pv 10) (pa_cons (pe_op op_catN (pe_op op_rep (pe_lst (pa_cons (pv 4) pa_nil)) pe_int) (pe_lst (pa_cons (pv 5) pa_nil))) pa_nil))))) (pss_one (ps_ret pe_bl)) pss_nil)))))
        (pss_one (ps_if (PW.pt (pw_or (pt_cmpR (op_neD hr.units) (pe_call GC hr1 (by rfl) dC.gm dC.kp dC.bd .nil pass0 (pa_cons (pe_xv PySem.F.excBase_OverflowError oG.xb iG tG FGr hgd hr bG (by rfl) N.g13 (pa_cons (pv 4) pa_nil)) pa_nil)) (pe_lst (pa_cons pe_str pa_nil)) (nomark _)) (pw_or1 (pt_not (pt_val (pe_callG GL hgd hr1 (by rfl) dL.gm dL.kp dL.bd (pa_cons (pe_xat (pe_xv PySem.F.excBase_OverflowError oG.xb iG tG FGr hgd hr bG (by rfl) N.g13 (pa_cons (pv 4) pa_nil))) (pa_cons (pv 4) pa_nil)))))))) (pss_one (ps_ret pe_bl)) pss_nil)))))))))
      (pss_one (ps_ret pe_bl))), ?_⟩
    -- m = _law_begun(script)
    refine ⟨_, rfl, a, ns, rfl, hS, hlen, fun H0 m cc g S0 nm nc ng D0 => ?_⟩
    -- for turn in range(3 + min(6, len(script)))
    refine ⟨_, rfl, a, _, rfl, .inl (S0.seq hS), _, _, rfl, _, _, rfl, rfl, _, rfl, ?_, ?_, for_range (fun i σ H1 => ∃ (y2 y3 y4 y5 y6 y7 y8 y9 y10 : Option V) (sp : Int), σ = [some (.ref a), some (.ref m), y2, y3, y4, y5, y6, y7, y8, y9, y10] ∧ Drw H1 m cc g sp ∧ sp = 3 * (i : Int) ∧ i ≤ 9) ?_ ?_ ?_⟩
    · rw [List.length_map]
      split <;> omega
    · rw [List.length_map]
      split <;> omega
    · exact ⟨none, none, none, none, none, none, none, none, none, 0, rfl, D0, rfl, by omega⟩
    · rintro i σ H1 hi ⟨y2, y3, y4, y5, y6, y7, y8, y9, y10, sp, rfl, D1, hsp, hi9⟩
      have hi' : i < 9 := by
        rw [List.length_map] at hi
        split at hi <;> omega
      -- things
      refine seq_asg (rdThings rfl D1 (by omega) (by omega) fun l G xs hx hl lm lg lc D2 hv => ?_)
      -- things.append({'a': 1})
      refine ⟨.ref l, rfl, .inl ⟨rfl, _, .inl (.inl hl)⟩, fun p6 n6 => ⟨upd_same, [(.inr "a", .int 1)], rfl, by simp, l, xs, _, rfl, rfl, ?_, by rw [hx]; decide, ?_⟩⟩
      · rw [upd_ne (ne_free hl n6).symm, upd_ne (ne_free hl n6).symm]
        exact hl
      obtain ⟨D3, hv3⟩ := app_ok n6 hl lm lg lc D2 hv
      have hl3 : (upd (upd (upd G p6 (.dK [])) p6 (.dK (mergeK [] [((.inr "a" : Key), V.int 1)]))) l (.lst (xs ++ [.ref p6]))) l = some (.lst (xs ++ [.ref p6])) := upd_same
      generalize upd (upd (upd G p6 (.dK [])) p6 (.dK (mergeK [] [((.inr "a" : Key), V.int 1)]))) l (.lst (xs ++ [.ref p6])) = G3 at D3 hv3 hl3 ⊢
      have hx3 : (xs ++ [V.ref p6]).length = 11 := by
        rw [List.length_append, hx]
        rfl
      generalize xs ++ [V.ref p6] = ys at hv3 hl3 hx3 ⊢
      -- q, z
      refine ⟨.ref l, rfl, .ref m, rfl, m, cc, g, _, 11, rfl, D3, by omega, by omega, by decide, by decide, fun r1 H4 ra rb D4 S4 => ?_⟩
      obtain ⟨v1, hv1, mv1⟩ := at_mem (xs := ys) ra (by rw [hx3]; exact rb)
      refine ⟨l, ys, r1, v1, rfl, rfl, .inl (.inl (S4 _ _ lm lg hl3)), hv1, ?_⟩
      refine ⟨.ref l, rfl, .ref m, rfl, m, cc, g, _, 11, rfl, D4, by omega, by omega, by decide, by decide, fun r2 H5 rc rd D5 S5 => ?_⟩
      obtain ⟨v2, hv2, mv2⟩ := at_mem (xs := ys) rc (by rw [hx3]; exact rd)
      refine ⟨l, ys, r2, v2, rfl, rfl, .inl (.inl (S5 _ _ lm lg (S4 _ _ lm lg hl3))), hv2, v1, v2, rfl, ?_⟩
      have hq : OkS H5 v1 := (((hv3 v1 mv1).same (off_sameD S4)).same (off_sameD S5)).same (off_le _ _ _ _)
      have hz : OkS H5 v2 := (((hv3 v2 mv2).same (off_sameD S4)).same (off_sameD S5)).same (off_le _ _ _ _)
      -- by_place
      refine seq_asg (lst_of (cons_of (rdOne rfl hq oL.xb oL.ec oL.ta fun a1 H6 s6 n6 E6 => cons_of (rdOne rfl (hq.same s6) oR.xb oR.ec oR.ta fun a2 H7 s7 n7 E7 => cons_of (rdTwo oT.tx rfl rfl ((hq.same s6).same s7) ((hz.same s6).same s7) fun a3 H8 s8 n8 E8 => ⟨by show 3 ≤ sizeLine; decide, fun l1 nl1 => ?_⟩)))))
      have T1 : Trio K c (upd H8 l1 (.lst [.ref a1, .ref a2, .ref a3])) l1 v1 v2 := ⟨a1, a2, a3, upd_same, E6.same ((s7.trans s8).trans (same_upd nl1)), E7.same (s8.trans (same_upd nl1)), E8.same (same_upd nl1)⟩
      have S9 : Same H5 (upd H8 l1 (.lst [.ref a1, .ref a2, .ref a3])) := ((s6.trans s7).trans s8).trans (same_upd nl1)
      generalize upd H8 l1 (.lst [.ref a1, .ref a2, .ref a3]) = H9 at T1 S9 ⊢
      -- by_names
      refine seq_asg (lst_of (cons_of (rdOneK rfl (hq.same S9) oL.xb oL.ec oL.ta fun b1 H10 s10 n10 E10 => cons_of (rdOneK rfl ((hq.same S9).same s10) oR.xb oR.ec oR.ta fun b2 H11 s11 n11 E11 => cons_of (rdTwoK oT.tx rfl rfl (((hq.same S9).same s10).same s11) (((hz.same S9).same s10).same s11) fun b3 H12 s12 n12 E12 => ⟨by show 3 ≤ sizeLine; decide, fun l2 nl2 => ?_⟩)))))
      have T2 : Trio K c (upd H12 l2 (.lst [.ref b1, .ref b2, .ref b3])) l2 v1 v2 := ⟨b1, b2, b3, upd_same, E10.same ((s11.trans s12).trans (same_upd nl2)), E11.same (s12.trans (same_upd nl2)), E12.same (same_upd nl2)⟩
      have S13 : Same H9 (upd H12 l2 (.lst [.ref b1, .ref b2, .ref b3])) := ((s10.trans s11).trans s12).trans (same_upd nl2)
      generalize upd H12 l2 (.lst [.ref b1, .ref b2, .ref b3]) = H13 at T2 S13 ⊢
      have T1' := T1.same S13
      have D13 := (D5.same S9).same S13
      have hq13 := (hq.same S9).same S13
      have hz13 := (hz.same S9).same S13
      -- for some in (by_place, by_names)
      refine ⟨_, rfl, _, rfl, by show 2 ≤ sizeLine; decide, fun T nT => ⟨T, rfl, ⟨_, .inl (.inl upd_same)⟩, for_tup (K := K) (a := T) (xs := [.ref l1, .ref l2]) (fun j σ H' => ∃ (y8 y9 y10 : Option V), σ = [some (.ref a), some (.ref m), some (.int (0 + (i : Int))), some (.ref l), some v1, some v2, some (.ref l1), some (.ref l2), y8, y9, y10] ∧ Same H13 H' ∧ H' T = some (.tup [.ref l1, .ref l2])) ?_ ?_ ?_ ?_⟩⟩
      · exact ⟨y8, y9, y10, rfl, same_upd nT, upd_same⟩
      · rintro j σ H' _ ⟨_, _, _, _, _, e⟩
        exact .inl (.inl e)
      · rintro j x σ H14 hx' ⟨y8, y9, y10, rfl, S14, hT14⟩
        obtain ⟨l', rfl, TR⟩ : ∃ l', x = V.ref l' ∧ Trio K c H14 l' v1 v2 := by
          match j, hx' with
          | 0, h => exact ⟨l1, (Option.some.inj h).symm, T1'.same S14⟩
          | 1, h => exact ⟨l2, (Option.some.inj h).symm, T2.same S14⟩
        obtain ⟨e1, e2, e3, hl', hE1, hE2, hE3⟩ := TR
        -- for k in range(3)
        refine ⟨3, rfl, by decide, by decide, for_range (fun k σ H' => ∃ (y9 y10 : Option V), σ = [some (.ref a), some (.ref m), some (.int (0 + (i : Int))), some (.ref l), some v1, some v2, some (.ref l1), some (.ref l2), some (.ref l'), y9, y10] ∧ Same H14 H') ⟨y9, y10, rfl, Same.refl _⟩ ?_ ?_⟩
        · rintro k σ H15 hk ⟨y9, y10, rfl, S15⟩
          obtain ⟨e, lab, PK⟩ := pick_of (H := H15) kL kR kT (hE1.same S15) (hE2.same S15) (hE3.same S15) (show k < 3 from hk)
          obtain ⟨C, fs, b, pE, pK, pP⟩ := PK.er
          refine ⟨.ref l', rfl, .int (0 + (k : Int)), rfl, l', _, _, _, rfl, rfl, .inl (.inl (S15 _ _ hl')), PK.a1, e, C, fs, b, rfl, pE, pK, fun p H16 s16 n16 hp => ?_⟩
          rw [pP] at hp
          refine ⟨by show 3 ≤ sizeLine; decide, fun p' np' => ⟨.int (0 + (k : Int)), rfl, p', _, _, _, rfl, rfl, .inl (.inl upd_same), PK.a2, by show 3 ≤ sizeLine; decide, fun p'' np'' => ?_⟩⟩
          refine ⟨_, _, shaped3 lab PK.sh _ _ _ (up_of np'' (up_of np' hp)), shaped3 lab PK.sh _ _ _ upd_same, PK.sh, PK.sh, _, rfl, ?_⟩
          rw [eqv3]
          refine iteF ?_
          exact ⟨_, _, rfl, ((S15.trans s16).trans (same_upd np')).trans (same_upd np'')⟩
        · rintro σ H15 ⟨y9, y10, rfl, S15⟩
          -- told_so
          obtain ⟨x1, d1, u1, w1⟩ := hE1.same S15
          obtain ⟨x2, d2, u2, w2⟩ := hE2.same S15
          obtain ⟨x3, d3, u3, w3⟩ := hE3.same S15
          have hl15 := S15 _ _ hl'
          refine ⟨.ref l', rfl, l', _, 0, .ref e1, rfl, rfl, .inl (.inl hl15), rfl, e1, c 8, d1, _, v1, rfl, u1, w1, x1, oL.no, lk_one, ?_⟩
          refine ⟨.ref l', rfl, l', _, 1, .ref e2, rfl, rfl, .inl (.inl hl15), rfl, e2, c 9, d2, _, v1, rfl, u2, w2, x2, oR.no, lk_one, ?_⟩
          refine ⟨.ref l', rfl, l', _, 2, .ref e3, rfl, rfl, .inl (.inl hl15), rfl, e3, c 10, d3, _, v1, rfl, u3, w3, x3, oT.nl, lk_line, ?_⟩
          refine ⟨.ref l', rfl, l', _, 2, .ref e3, rfl, rfl, .inl (.inl hl15), rfl, e3, c 10, d3, _, v2, rfl, u3, w3, x3, oT.tx.fw, lk_word, by show 4 ≤ sizeLine; decide, fun t nt kt => ?_⟩
          -- not _law_like(told_so, [q] * 3 + [z])
          refine ⟨.ref t, rfl, v1, rfl, by show 1 ≤ sizeLine; decide, fun g1 ng1 => ⟨g1, 3, [v1], rfl, rfl, upd_same, by decide, by decide, by show 3 ≤ sizeLine; decide, fun g2 ng2 => ⟨v2, rfl, by show 1 ≤ sizeLine; decide, fun g3 ng3 => ⟨g2, g3, _, _, rfl, rfl, up_of ng3 upd_same, upd_same, by show 4 ≤ sizeLine; decide, fun g4 ng4 kg4 => ?_⟩⟩⟩⟩
          have SF := (((same_upd (o := .lst [v1]) ng1).trans (same_upd (o := .lst (List.replicate (3 : Int).toNat [v1]).flatten) ng2)).trans (same_upd (o := .lst [v2]) ng3)).trans (same_upd (o := .lst ((List.replicate (3 : Int).toNat [v1]).flatten ++ [v2])) ng4)
          have SE := ((S14.trans S15).trans (same_upd (o := .lst [v1, v1, v1, v2]) nt)).trans SF
          obtain ⟨dq, hdq, smq⟩ := hq13.same SE
          obtain ⟨dz, hdz, smz⟩ := hz13.same SE
          refine ⟨.ref t, .ref g4, .list [dq, dq, dq, dz], rfl, .lst (SF _ _ upd_same) kt (.cons hdq (.cons hdq (.cons hdq (.cons hdz .nil)))), .lst upd_same kg4 (.cons hdq (.cons hdq (.cons hdq (.cons hdz .nil)))), sml_four smq smq smq smz, _, rfl, iteF ?_⟩
          exact ⟨_, _, _, rfl, SE, ((S15.trans (same_upd nt)).trans SF) _ _ hT14⟩
      · rintro σ H14 ⟨y8, y9, y10, rfl, S14, hT14⟩
        have hq14 := hq13.same S14
        have D14 := D13.same S14
        refine ⟨v1, rfl, by show 1 ≤ 1000; decide, fun a5 na5 => spOne_of oG.xb oG.ec oG.ta na5 hq14 fun H15 s15 E15 => ?_⟩
        refine ⟨a5, c 13, _, bGreat, rfl, E15, kG, fun p H16 s16 n16 hp => ⟨by show 1 ≤ sizeLine; decide, fun p' np' => ?_⟩⟩
        have hp' : H16 p = some (.lst [.str "great"]) := by
          have eP : picked (rws bGreat) = [("great" : Str)] := by decide +kernel
          rw [eP] at hp
          exact hp
        refine ⟨.list [.str "great"], .list [.str "great"], .lst (.inl (.inl (up_of np' hp'))) (.cons (.str _) .nil), .lst (.inl (.inl upd_same)) (.cons (.str _) .nil), by decide +kernel, by decide +kernel, _, rfl, ?_⟩
        rw [show PyData.eqv (.list [.str "great"]) (.list [.str "great"]) = true by simp [PyData.eqv, PyData.eqvAll]]
        refine iteF ?_
        have s17 := (s15.trans s16).trans (same_upd (o := .lst [.str "great"]) np')
        refine ⟨v1, rfl, by show 1 ≤ 1000; decide, fun a6 na6 => spOne_of oG.xb oG.ec oG.ta na6 (hq14.same s17) fun H18 s18 E18 => ?_⟩
        obtain ⟨x6, d6, u6, w6⟩ := E18
        obtain ⟨dq, hdq, smq⟩ := (hq14.same s17).same s18
        refine ⟨a6, c 13, d6, _, v1, rfl, u6, w6, x6, oG.no, lk_one, v1, rfl, v1, v1, dq, rfl, hdq, hdq, smq.shw, _, rfl, iteF ?_⟩
        exact ⟨_, _, _, _, _, _, _, _, _, _, rfl, (D14.same s17).same s18, by omega, by omega⟩
    · rintro σ H1 _
      exact q H1
end
end K80

/-! part H1 -/
set_option Elab.async false
set_option linter.all false
set_option maxRecDepth 100000
set_option maxHeartbeats 4000000
namespace KG
open PySem PySem.Spec PyProof.Rows L2
theorem gd_caller : callerA.guards = some [] := rfl
/-- the law is called where no repr is under way: the same head for promises of this file -/
theorem law_callG {P : Program} {w : World} {K : PySem.W.Frag} {mg mb : Str → Option Value} {k : Nat} {fa a : Addr} {fd : FuncData} {x : Str} {sp : Sp} {s₁ : Shared} {vs : List Value} {ns : List Int}
    (KX : K.In s₁.heap) (hns : s₁.heap.Ns mainGlobals mg) (hb : s₁.heap.Ns builtinsNs mb) (hbb : ∀ x : Str, x ≠ "__name__" → mb x = bootBuiltins x) (hlim : s₁.heap.NoLimit) (hg : s₁.gens = #[])
    (ha : s₁.heap.get? a = some { cls := .type "list", data := .seq vs.toArray }) (hi : IntsAre vs ns) (hl : ns.length ≤ sizeLine) (hr : Room k callerA)
    (F : ∀ base : Heap, K.In base → base.Ns mainGlobals mg → FnG P w K mg base k fa fd [x] sp) (hbind : ∀ (s : Shared) (u : Value), BindsTo s fd ⟨[u], []⟩ [(x, u)])
    (hsp : ∀ H : Hp, Only H → SqL K H a (ns.map V.int) → sp [.ref a] H (fun v _ => v = .bl true) E0) :
    codeAny (model P w) callerA (.call (.ref fa) ⟨[.ref a], []⟩) (fun r s' => r = .ok (.ret (.bool true)) ∧ OldK s₁.heap s'.heap ∧ s'.os = s₁.os ∧ AllBare s'.gens) s₁ := by
  have rv := vals_ints hi
  have lenV := hi.length
  have core : ∀ H : Hp, Only H → SqL K H a (ns.map V.int) → HOk P w H s₁.heap → (∀ b u, H b = some u → b = a ∧ K.lookup a = none) →
      codeAny (model P w) callerA (.call (.ref fa) ⟨[.ref a], []⟩) (fun r s' => r = .ok (.ret (.bool true)) ∧ OldK s₁.heap s'.heap ∧ s'.os = s₁.os ∧ AllBare s'.gens) s₁ := by
    intro H hO hS hok hA
    have stays : ∀ {b : Addr} {o : Obj}, s₁.heap.get? b = some o → (b = a → (∃ es ep, o.data = .dict es ep) ∨ K.lookup a = some o) → (hidT s₁.heap H).get? b = some o := fun {b o} e h => hidT_get e (by
      cases q : H b with
      | none => rfl
      | some u =>
        obtain ⟨eb, nk⟩ := hA b u q
        rcases h eb with ⟨es, ep, d⟩ | h
        · rw [eb, ha] at e
          cases e
          cases d
        · rw [nk] at h
          cases h)
    have nsK : ∀ {b : Addr} {m : Str → Option Value}, s₁.heap.Ns b m → (hidT s₁.heap H).Ns b m := fun z => by
      obtain ⟨o, es, ep, e, d, r⟩ := z
      exact ⟨o, es, ep, stays e fun _ => .inl ⟨es, ep, d⟩, d, r⟩
    have inK : K.In (hidT s₁.heap H) := fun b o e => stays (KX b o e) fun z => .inr (by rw [← z]; exact e)
    obtain ⟨mc, l1, l2⟩ := hlim
    have mod : Mod K mg (hidT s₁.heap H) := ⟨inK, nsK hns, ⟨mb, nsK hb, hbb⟩, ⟨mc, nsK l1, l2⟩⟩
    have e0 : Env0 P w K mg (hidT s₁.heap H) callerA [] s₁ H := ⟨rfl, mod, fun b o e => of_hidT e, Nat.le_of_eq (hidT_size _ _), trivial, fun b hb => absurd (show b ∈ ([] : List Addr) from hb) (by simp), hok, .of_eq hg⟩
    refine codeAny_mono ((F _ inK (nsK hns)).run callerA [] s₁ H ⟨[.ref a], []⟩ [.ref a] [.ref a] _ _ gd_caller hr e0 (hbind s₁ (.ref a)) (.cons rfl .nil) (hsp H hO hS)) fun r s' h => ?_
    cases r with
    | error e => exact False.elim h
    | ok fl => cases fl with
      | next => exact False.elim h
      | brk => exact False.elim h
      | cont => exact False.elim h
      | ret u =>
        obtain ⟨v, H', os, bare, un, hok', r', q⟩ := h
        have q' : v = .bl true := q
        subst q'
        obtain rfl : u = Value.bool true := r'
        refine ⟨rfl, OldK.of_keep fun b o e => ?_, os, bare⟩
        rcases hO b with z | ⟨ob, xs, z⟩
        · exact un.keep b o e z (fun y => absurd (show b ∈ ([] : List Addr) from y) (by simp)) (by simp)
        · obtain ⟨e1, _⟩ := hok b _ z
          obtain ⟨e2, _⟩ := hok' b _ (un.frzs b ob _ z)
          rw [e] at e1
          cases e1
          exact e2
  cases hk : K.lookup a with
  | some o =>
    have e := KX a o hk
    rw [ha] at e
    cases e
    exact core (fun _ => none) (fun _ => .inl rfl) (.inr ⟨_, vs.toArray, _, hk, rfl, rfl, rfl, by rw [List.size_toArray, lenV]; exact hl, by simpa using rv⟩) (fun b u z => absurd (show (none : Option HO) = some u from z) (by simp)) fun b u z => absurd (show (none : Option HO) = some u from z) (by simp)
  | none =>
    have at_a : ∀ {b : Addr} {u : HO}, (if b = a then some (HO.frz { cls := .type "list", data := .seq vs.toArray } (.lst (ns.map V.int))) else none) = some u → b = a ∧ u = .frz { cls := .type "list", data := .seq vs.toArray } (.lst (ns.map V.int)) := fun {b u} z => by
      by_cases hb : b = a
      · rw [if_pos hb] at z
        exact ⟨hb, (Option.some.inj z).symm⟩
      · rw [if_neg hb] at z
        cases z
    refine core (fun b => if b = a then some (.frz { cls := .type "list", data := .seq vs.toArray } (.lst (ns.map V.int))) else none) (fun b => ?_) (.inl (.inr ⟨{ cls := .type "list", data := .seq vs.toArray }, if_pos rfl⟩)) (fun b u z => ?_) fun b u z => ⟨(at_a z).1, hk⟩
    · by_cases hb : b = a
      · exact .inr ⟨_, _, if_pos hb⟩
      · exact .inl (if_neg hb)
    · obtain ⟨rfl, rfl⟩ := at_a z
      exact ⟨ha, by rw [List.length_map]; exact hl, vs, _, rv, ha⟩
theorem walk_ofG {l : PySem.W.OpenLaw} {n k : Nat} {q : Program} {loose : List Str} {XP : (Str → Option Value) → Heap → Prop} {YP : World → Heap → Prop} {d : DefRec} {K : Params → PySem.W.Frag} {sp : World → Sp} {x : Str}
    (hn : l.most = some n) (hn2 : n ≤ sizeLine) (hdf : d.params.defaults = []) (hr : Room k callerA)
    (hY : ∀ (w : World) (h : Heap), YP w h → (K w.params).In h)
    (F : ∀ (w : World) (mg : Str → Option Value) (fa : Addr) (h : Heap), (K w.params).In h → h.Ns mainGlobals mg → mg d.name = some (.ref fa) →
      ∃ fd : FuncData, (∀ (s : Shared) (u : Value), BindsTo s fd ⟨[u], []⟩ [(x, u)]) ∧ ∀ base : Heap, (K w.params).In base → base.Ns mainGlobals mg → FnG l.prog w (K w.params) mg base k fa fd [x] (sp w))
    (hsp : ∀ (w : World) (H : Hp) (a : Addr) (ns : List Int), ns.length ≤ n → Only H → SqL (K w.params) H a (ns.map V.int) → sp w [.ref a] H (fun v _ => v = .bl true) E0) :
    PySem.W.WalkO q loose XP YP l.row.toRowW d [] (fun f vs => PySem.call f vs) := by
  refine Att.attach_call hn hdf fun w s₀ s₁ mg mb fa o pm cd doc a vs ns G Y ho hd hcd hmg hobj hints hlen hg => ?_
  obtain ⟨fd, hb, hF⟩ := F w mg fa _ (hY w _ Y) G.T.g hmg
  exact law_callG (hY w _ Y) G.T.g G.T.b G.T.builtins G.T.nolimit hg hobj hints (Nat.le_trans hlen hn2) hr hF hb fun H hO hS => hsp w H a ns hlen hO hS
end KG

/-! part H2 -/
set_option Elab.async false
set_option linter.all false
set_option maxRecDepth 100000
set_option maxHeartbeats 4000000
namespace K80
open PySem PySem.Spec PyProof.Rows L2 KG
section
variable {K : PySem.W.Frag} {C : Addr}
theorem cls_of {nm q : Str} {N : Addr} {bs bm : List Value} {sn : List Str} {sub : List Value} {ab : Bool} {col : Option Bool} {dd : Option Addr} {k0 k1 k2 k3 k5 : Option Value} {newId : String} (h : K.lookup C = some (excClassObj nm q C N bs bm true sn sub ab col dd k0 k1 k2 k3 k5 newId)) :
    PySem.W.clsIn K C = some { name := nm, bases := bs, mro := .ref C :: bm, ns := N, qualname := q, hasDict := true, slotNames := sn, subclasses := sub, abstract := ab, collection := col, hasDel := false } := by
  unfold PySem.W.clsIn
  rw [h] <;> rfl
theorem xb_of {nm q : Str} {N : Addr} {bs bm bmB : List Value} {sn : List Str} {sub : List Value} {ab : Bool} {col : Option Bool} {dd : Option Addr} {k0 k1 k2 k3 k5 : Option Value} {newId : String} (h : K.lookup C = some (excClassObj nm q C N bs bm true sn sub ab col dd k0 k1 k2 k3 k5 newId))
    (e : PySem.W.excTail bmB bm = true) (sa : PySem.W.findIn K (.ref C) "__setattr__" = some (some (.builtin "object.__setattr__"))) (kC : PySem.W.keepIn K (.ref C) = true) : XB K C newId bmB := by
  refine ⟨⟨nm, q, N, bs, bm, sn, sub, ab, col, dd, k0, k1, k2, k3, k5, h, e⟩, sa, ?_, ?_, kC⟩
  · unfold PySem.W.excOver
    rw [cls_of h]
    show (C == C && PySem.W.excTail bmB bm) = true
    rw [e, beq_self_eq_true]
    rfl
  · unfold PySem.W.hasDictIn
    rw [cls_of h]
    rfl
theorem taker_of {f : Str} (h : PySem.W.findIn K (.ref C) f = some none) : PySem.W.takerIn K C f = some none := by
  unfold PySem.W.takerIn
  rw [h]
  rfl
theorem tailV (F0 : Addr) : PySem.W.excTail ve (.ref F0 :: ve) = true := by
  show PySem.W.excTail ve ve = true
  decide +kernel
theorem refsV (F0 : Addr) : PySem.HandSPX.refsVE (.ref F0 :: ve) = true := by
  show PySem.HandSPX.refsVE ve = true
  decide +kernel
theorem tailO : PySem.W.excTail oe oe = true := by decide +kernel
end
theorem all_mk {l : PySem.W.OpenLaw} {w : World} {K : PySem.W.Frag} {h : Heap} {mg : Str → Option Value} {fa c0 c1 c2 c3 c4 c5 c6 c7 c8 c9 c10 c11 c13 fM fF fD fB fL fC fW f8 f9 f10 f13 : Addr} (X : K.In h) (G : h.Ns mainGlobals mg) (hfa : mg "law" = some (.ref fa))
    {ocM kVM dcM pmM cdM ctM : Value} {odM anM : Option Addr} {slM : Array (Option Value)}
    {ocF kVF dcF pmF cdF ctF : Value} {odF anF : Option Addr} {slF : Array (Option Value)}
    {ocD kVD dcD pmD cdD ctD : Value} {odD anD : Option Addr} {slD : Array (Option Value)}
    {ocB kVB dcB pmB cdB ctB : Value} {odB anB : Option Addr} {slB : Array (Option Value)}
    {ocL kVL dcL pmL cdL ctL : Value} {odL anL : Option Addr} {slL : Array (Option Value)}
    {ocC kVC dcC pmC cdC ctC : Value} {odC anC : Option Addr} {slC : Array (Option Value)}
    {ocW kVW dcW pmW cdW ctW : Value} {odW anW : Option Addr} {slW : Array (Option Value)}
    {nm8 qn8 : Str} {N8 : Addr} {bs8 : List Value} {sn8 : List Str} {sub8 : List Value} {ab8 : Bool} {col8 : Option Bool} {dd8 : Option Addr} {p08 p18 p28 p38 p58 : Option Value}
    {oc8 kV8 dc8 pm8 cd8 ct8 : Value} {od8 an8 : Option Addr} {sl8 : Array (Option Value)}
    {nm9 qn9 : Str} {N9 : Addr} {bs9 : List Value} {sn9 : List Str} {sub9 : List Value} {ab9 : Bool} {col9 : Option Bool} {dd9 : Option Addr} {p09 p19 p29 p39 p59 : Option Value}
    {oc9 kV9 dc9 pm9 cd9 ct9 : Value} {od9 an9 : Option Addr} {sl9 : Array (Option Value)}
    {nm10 qn10 : Str} {N10 : Addr} {bs10 : List Value} {sn10 : List Str} {sub10 : List Value} {ab10 : Bool} {col10 : Option Bool} {dd10 : Option Addr} {p010 p110 p210 p310 p510 : Option Value}
    {oc10 kV10 dc10 pm10 cd10 ct10 : Value} {od10 an10 : Option Addr} {sl10 : Array (Option Value)}
    {nm13 qn13 : Str} {N13 : Addr} {bs13 : List Value} {sn13 : List Str} {sub13 : List Value} {ab13 : Bool} {col13 : Option Bool} {dd13 : Option Addr} {p013 p113 p213 p313 p513 : Option Value}
    {oc13 kV13 dc13 pm13 cd13 ct13 : Value} {od13 an13 : Option Addr} {sl13 : Array (Option Value)}
    (n0 : PySem.W.nsIn K mainGlobals "BadRig" = some (some (.ref c0)))
    (n1 : PySem.W.nsIn K mainGlobals "BadShape" = some (some (.ref c1)))
    (n2 : PySem.W.nsIn K mainGlobals "BadLot" = some (some (.ref c2)))
    (n3 : PySem.W.nsIn K mainGlobals "BadFaults" = some (some (.ref c3)))
    (n4 : PySem.W.nsIn K mainGlobals "BadSuite" = some (some (.ref c4)))
    (n5 : PySem.W.nsIn K mainGlobals "BadOutcomes" = some (some (.ref c5)))
    (n6 : PySem.W.nsIn K mainGlobals "BadNumber" = some (some (.ref c6)))
    (n7 : PySem.W.nsIn K mainGlobals "BadPaper" = some (some (.ref c7)))
    (n8 : PySem.W.nsIn K mainGlobals "BadLog" = some (some (.ref c8)))
    (n9 : PySem.W.nsIn K mainGlobals "BadRow" = some (some (.ref c9)))
    (n10 : PySem.W.nsIn K mainGlobals "BadText" = some (some (.ref c10)))
    (n11 : PySem.W.nsIn K mainGlobals "FaultError" = some (some (.ref c11)))
    (n13 : PySem.W.nsIn K mainGlobals "TooGreat" = some (some (.ref c13)))
    (aM : PySem.W.nsIn K mainGlobals "_law_mixed" = some (some (.ref fM)))
    (lM : K.lookup fM = some ⟨ocM, odM, .func (PySem.W.fnOf "_law_mixed" "_law_mixed" (defArgs sMixed) (defBody sMixed) (defScope sMixed) .none kVM dcM pmM anM cdM ctM), slM⟩)
    (cM_ : PySem.W.codeIn K cdM "_law_mixed" = true)
    (kM_ : PySem.W.keepIn K (.ref fM) = true)
    (aF : PySem.W.nsIn K mainGlobals "_law_folded" = some (some (.ref fF)))
    (lF : K.lookup fF = some ⟨ocF, odF, .func (PySem.W.fnOf "_law_folded" "_law_folded" (defArgs sFolded) (defBody sFolded) (defScope sFolded) .none kVF dcF pmF anF cdF ctF), slF⟩)
    (cF_ : PySem.W.codeIn K cdF "_law_folded" = true)
    (kF_ : PySem.W.keepIn K (.ref fF) = true)
    (aD : PySem.W.nsIn K mainGlobals "_law_draw" = some (some (.ref fD)))
    (lD : K.lookup fD = some ⟨ocD, odD, .func (PySem.W.fnOf "_law_draw" "_law_draw" (defArgs sDraw) (defBody sDraw) (defScope sDraw) .none kVD dcD pmD anD cdD ctD), slD⟩)
    (cD_ : PySem.W.codeIn K cdD "_law_draw" = true)
    (kD_ : PySem.W.keepIn K (.ref fD) = true)
    (aB : PySem.W.nsIn K mainGlobals "_law_begun" = some (some (.ref fB)))
    (lB : K.lookup fB = some ⟨ocB, odB, .func (PySem.W.fnOf "_law_begun" "_law_begun" (defArgs sBegun) (defBody sBegun) (defScope sBegun) .none kVB dcB pmB anB cdB ctB), slB⟩)
    (cB_ : PySem.W.codeIn K cdB "_law_begun" = true)
    (kB_ : PySem.W.keepIn K (.ref fB) = true)
    (aL : PySem.W.nsIn K mainGlobals "_law_like" = some (some (.ref fL)))
    (lL : K.lookup fL = some ⟨ocL, odL, .func (PySem.W.fnOf "_law_like" "_law_like" (defArgs sLike) (defBody sLike) (defScope sLike) .none kVL dcL pmL anL cdL ctL), slL⟩)
    (cL_ : PySem.W.codeIn K cdL "_law_like" = true)
    (kL_ : PySem.W.keepIn K (.ref fL) = true)
    (aC : PySem.W.nsIn K mainGlobals "_law_classes" = some (some (.ref fC)))
    (lC : K.lookup fC = some ⟨ocC, odC, .func (PySem.W.fnOf "_law_classes" "_law_classes" (defArgs sClasses) (defBody sClasses) (defScope sClasses) .none kVC dcC pmC anC cdC ctC), slC⟩)
    (cC_ : PySem.W.codeIn K cdC "_law_classes" = true)
    (kC_ : PySem.W.keepIn K (.ref fC) = true)
    (aW : PySem.W.nsIn K mainGlobals "law" = some (some (.ref fW)))
    (lW : K.lookup fW = some ⟨ocW, odW, .func (PySem.W.fnOf "law" "law" (defArgs sLaw) (defBody sLaw) (defScope sLaw) .none kVW dcW pmW anW cdW ctW), slW⟩)
    (cW_ : PySem.W.codeIn K cdW "law" = true)
    (kW_ : PySem.W.keepIn K (.ref fW) = true)
    (x8 : K.lookup c8 = some (excClassObj nm8 qn8 c8 N8 bs8 (.ref c11 :: ve) true sn8 sub8 ab8 col8 dd8 p08 p18 p28 p38 p58 "ValueError.__new__"))
    (sa8 : PySem.W.findIn K (.ref c8) "__setattr__" = some (some (.builtin "object.__setattr__")))
    (ga8 : PySem.W.findIn K (.ref c8) "__getattribute__" = some (some (.builtin "BaseException.__getattribute__")))
    (gg8 : PySem.W.findIn K (.ref c8) "__getattr__" = some none)
    (sb8 : PySem.W.subIn K (.ref c8) (.type "BaseException") = some true)
    (cc8 : PySem.W.findIn K (.ref c8) "__class__" = some (some (.builtin "object.__class__")))
    (oo8 : PySem.W.mroIn K c8 (.type "object") = some true)
    (kc8 : PySem.W.keepIn K (.ref c8) = true)
    (ty8 : PySem.W.typeIn K (.ref c8) = some (.type "type"))
    (no8 : PySem.W.findIn K (.ref c8) "place" = some none)
    (iI8 : PySem.W.findIn K (.ref c8) "__init__" = some (some (.ref f8)))
    (tI8 : PySem.W.typeIn K (.ref f8) = some (.type "function"))
    (lI8 : K.lookup f8 = some ⟨oc8, od8, .func (PySem.W.fnOf "__init__" "BadLog.__init__" (defArgs sLogI) (defBody sLogI) (defScope sLogI) .none kV8 dc8 pm8 an8 cd8 ct8), sl8⟩)
    (cI8 : PySem.W.codeIn K cd8 "BadLog.__init__" = true)
    (kI8 : PySem.W.keepIn K (.ref f8) = true)
    (x9 : K.lookup c9 = some (excClassObj nm9 qn9 c9 N9 bs9 (.ref c11 :: ve) true sn9 sub9 ab9 col9 dd9 p09 p19 p29 p39 p59 "ValueError.__new__"))
    (sa9 : PySem.W.findIn K (.ref c9) "__setattr__" = some (some (.builtin "object.__setattr__")))
    (ga9 : PySem.W.findIn K (.ref c9) "__getattribute__" = some (some (.builtin "BaseException.__getattribute__")))
    (gg9 : PySem.W.findIn K (.ref c9) "__getattr__" = some none)
    (sb9 : PySem.W.subIn K (.ref c9) (.type "BaseException") = some true)
    (cc9 : PySem.W.findIn K (.ref c9) "__class__" = some (some (.builtin "object.__class__")))
    (oo9 : PySem.W.mroIn K c9 (.type "object") = some true)
    (kc9 : PySem.W.keepIn K (.ref c9) = true)
    (ty9 : PySem.W.typeIn K (.ref c9) = some (.type "type"))
    (no9 : PySem.W.findIn K (.ref c9) "value" = some none)
    (iI9 : PySem.W.findIn K (.ref c9) "__init__" = some (some (.ref f9)))
    (tI9 : PySem.W.typeIn K (.ref f9) = some (.type "function"))
    (lI9 : K.lookup f9 = some ⟨oc9, od9, .func (PySem.W.fnOf "__init__" "BadRow.__init__" (defArgs sRowI) (defBody sRowI) (defScope sRowI) .none kV9 dc9 pm9 an9 cd9 ct9), sl9⟩)
    (cI9 : PySem.W.codeIn K cd9 "BadRow.__init__" = true)
    (kI9 : PySem.W.keepIn K (.ref f9) = true)
    (x10 : K.lookup c10 = some (excClassObj nm10 qn10 c10 N10 bs10 (.ref c11 :: ve) true sn10 sub10 ab10 col10 dd10 p010 p110 p210 p310 p510 "ValueError.__new__"))
    (sa10 : PySem.W.findIn K (.ref c10) "__setattr__" = some (some (.builtin "object.__setattr__")))
    (ga10 : PySem.W.findIn K (.ref c10) "__getattribute__" = some (some (.builtin "BaseException.__getattribute__")))
    (gg10 : PySem.W.findIn K (.ref c10) "__getattr__" = some none)
    (sb10 : PySem.W.subIn K (.ref c10) (.type "BaseException") = some true)
    (cc10 : PySem.W.findIn K (.ref c10) "__class__" = some (some (.builtin "object.__class__")))
    (oo10 : PySem.W.mroIn K c10 (.type "object") = some true)
    (kc10 : PySem.W.keepIn K (.ref c10) = true)
    (ty10 : PySem.W.typeIn K (.ref c10) = some (.type "type"))
    (no10 : PySem.W.findIn K (.ref c10) "line" = some none)
    (iI10 : PySem.W.findIn K (.ref c10) "__init__" = some (some (.ref f10)))
    (tI10 : PySem.W.typeIn K (.ref f10) = some (.type "function"))
    (lI10 : K.lookup f10 = some ⟨oc10, od10, .func (PySem.W.fnOf "__init__" "BadText.__init__" (defArgs sTextI) (defBody sTextI) (defScope sTextI) .none kV10 dc10 pm10 an10 cd10 ct10), sl10⟩)
    (cI10 : PySem.W.codeIn K cd10 "BadText.__init__" = true)
    (kI10 : PySem.W.keepIn K (.ref f10) = true)
    (x13 : K.lookup c13 = some (excClassObj nm13 qn13 c13 N13 bs13 oe true sn13 sub13 ab13 col13 dd13 p013 p113 p213 p313 p513 "OverflowError.__new__"))
    (sa13 : PySem.W.findIn K (.ref c13) "__setattr__" = some (some (.builtin "object.__setattr__")))
    (ga13 : PySem.W.findIn K (.ref c13) "__getattribute__" = some (some (.builtin "BaseException.__getattribute__")))
    (gg13 : PySem.W.findIn K (.ref c13) "__getattr__" = some none)
    (sb13 : PySem.W.subIn K (.ref c13) (.type "BaseException") = some true)
    (cc13 : PySem.W.findIn K (.ref c13) "__class__" = some (some (.builtin "object.__class__")))
    (oo13 : PySem.W.mroIn K c13 (.type "object") = some true)
    (kc13 : PySem.W.keepIn K (.ref c13) = true)
    (ty13 : PySem.W.typeIn K (.ref c13) = some (.type "type"))
    (no13 : PySem.W.findIn K (.ref c13) "most" = some none)
    (iI13 : PySem.W.findIn K (.ref c13) "__init__" = some (some (.ref f13)))
    (tI13 : PySem.W.typeIn K (.ref f13) = some (.type "function"))
    (lI13 : K.lookup f13 = some ⟨oc13, od13, .func (PySem.W.fnOf "__init__" "TooGreat.__init__" (defArgs sGreatI) (defBody sGreatI) (defScope sGreatI) .none kV13 dc13 pm13 an13 cd13 ct13), sl13⟩)
    (cI13 : PySem.W.codeIn K cd13 "TooGreat.__init__" = true)
    (kI13 : PySem.W.keepIn K (.ref f13) = true)
    (nw : PySem.W.findIn K (.ref c10) "word" = some none)
    (hn : PySem.W.specialIn K (.builtin "object.__class__") "__get__" = some (some (.builtin "getset_descriptor.__get__")))
    (ht : PySem.W.takesIn K (.builtin "object.__class__") = some true)
    (fga : PySem.W.specialIn K (.ref c11) "__getattribute__" = some (some (.builtin "type.__getattribute__")))
    (frd : PySem.W.readsIn K c11 (.type "type") = true)
    (ffc : PySem.W.findCls K (.ref c11) (.type "type") "__init__" = some (.val (.builtin "ValueError.__init__")))
    (ofc : PySem.W.findCls K (.type "OverflowError") (.type "type") "__init__" = some (.val (.builtin "OverflowError.__init__")))
    (z_int : PySem.W.nsIn K mainGlobals "int" = some none)
    (z_range : PySem.W.nsIn K mainGlobals "range" = some none)
    (z_enumerate : PySem.W.nsIn K mainGlobals "enumerate" = some none)
    (z_len : PySem.W.nsIn K mainGlobals "len" = some none)
    (z_min : PySem.W.nsIn K mainGlobals "min" = some none)
    (z_isinstance : PySem.W.nsIn K mainGlobals "isinstance" = some none)
    (z_repr : PySem.W.nsIn K mainGlobals "repr" = some none)
    (z_OverflowError : PySem.W.nsIn K mainGlobals "OverflowError" = some none)
    (z_ValueError : PySem.W.nsIn K mainGlobals "ValueError" = some none)
    (q8_0 : PySem.W.kitOne K (.ref c8) (.ref c0) = some (bLog 0))
    (q8_1 : PySem.W.kitOne K (.ref c8) (.ref c1) = some (bLog 1))
    (q8_2 : PySem.W.kitOne K (.ref c8) (.ref c2) = some (bLog 2))
    (q8_3 : PySem.W.kitOne K (.ref c8) (.ref c3) = some (bLog 3))
    (q8_4 : PySem.W.kitOne K (.ref c8) (.ref c4) = some (bLog 4))
    (q8_5 : PySem.W.kitOne K (.ref c8) (.ref c5) = some (bLog 5))
    (q8_6 : PySem.W.kitOne K (.ref c8) (.ref c6) = some (bLog 6))
    (q8_7 : PySem.W.kitOne K (.ref c8) (.ref c7) = some (bLog 7))
    (q8_8 : PySem.W.kitOne K (.ref c8) (.ref c8) = some (bLog 8))
    (q8_9 : PySem.W.kitOne K (.ref c8) (.ref c9) = some (bLog 9))
    (q8_10 : PySem.W.kitOne K (.ref c8) (.ref c10) = some (bLog 10))
    (q8_11 : PySem.W.kitOne K (.ref c8) (.ref c11) = some (bLog 11))
    (q8_12 : PySem.W.kitOne K (.ref c8) (.type "ValueError") = some (bLog 12))
    (q8_13 : PySem.W.kitOne K (.ref c8) (.ref c13) = some (bLog 13))
    (q9_0 : PySem.W.kitOne K (.ref c9) (.ref c0) = some (bRow 0))
    (q9_1 : PySem.W.kitOne K (.ref c9) (.ref c1) = some (bRow 1))
    (q9_2 : PySem.W.kitOne K (.ref c9) (.ref c2) = some (bRow 2))
    (q9_3 : PySem.W.kitOne K (.ref c9) (.ref c3) = some (bRow 3))
    (q9_4 : PySem.W.kitOne K (.ref c9) (.ref c4) = some (bRow 4))
    (q9_5 : PySem.W.kitOne K (.ref c9) (.ref c5) = some (bRow 5))
    (q9_6 : PySem.W.kitOne K (.ref c9) (.ref c6) = some (bRow 6))
    (q9_7 : PySem.W.kitOne K (.ref c9) (.ref c7) = some (bRow 7))
    (q9_8 : PySem.W.kitOne K (.ref c9) (.ref c8) = some (bRow 8))
    (q9_9 : PySem.W.kitOne K (.ref c9) (.ref c9) = some (bRow 9))
    (q9_10 : PySem.W.kitOne K (.ref c9) (.ref c10) = some (bRow 10))
    (q9_11 : PySem.W.kitOne K (.ref c9) (.ref c11) = some (bRow 11))
    (q9_12 : PySem.W.kitOne K (.ref c9) (.type "ValueError") = some (bRow 12))
    (q9_13 : PySem.W.kitOne K (.ref c9) (.ref c13) = some (bRow 13))
    (q10_0 : PySem.W.kitOne K (.ref c10) (.ref c0) = some (bText 0))
    (q10_1 : PySem.W.kitOne K (.ref c10) (.ref c1) = some (bText 1))
    (q10_2 : PySem.W.kitOne K (.ref c10) (.ref c2) = some (bText 2))
    (q10_3 : PySem.W.kitOne K (.ref c10) (.ref c3) = some (bText 3))
    (q10_4 : PySem.W.kitOne K (.ref c10) (.ref c4) = some (bText 4))
    (q10_5 : PySem.W.kitOne K (.ref c10) (.ref c5) = some (bText 5))
    (q10_6 : PySem.W.kitOne K (.ref c10) (.ref c6) = some (bText 6))
    (q10_7 : PySem.W.kitOne K (.ref c10) (.ref c7) = some (bText 7))
    (q10_8 : PySem.W.kitOne K (.ref c10) (.ref c8) = some (bText 8))
    (q10_9 : PySem.W.kitOne K (.ref c10) (.ref c9) = some (bText 9))
    (q10_10 : PySem.W.kitOne K (.ref c10) (.ref c10) = some (bText 10))
    (q10_11 : PySem.W.kitOne K (.ref c10) (.ref c11) = some (bText 11))
    (q10_12 : PySem.W.kitOne K (.ref c10) (.type "ValueError") = some (bText 12))
    (q10_13 : PySem.W.kitOne K (.ref c10) (.ref c13) = some (bText 13))
    (q13_0 : PySem.W.kitOne K (.ref c13) (.ref c0) = some (bGreat 0))
    (q13_1 : PySem.W.kitOne K (.ref c13) (.ref c1) = some (bGreat 1))
    (q13_2 : PySem.W.kitOne K (.ref c13) (.ref c2) = some (bGreat 2))
    (q13_3 : PySem.W.kitOne K (.ref c13) (.ref c3) = some (bGreat 3))
    (q13_4 : PySem.W.kitOne K (.ref c13) (.ref c4) = some (bGreat 4))
    (q13_5 : PySem.W.kitOne K (.ref c13) (.ref c5) = some (bGreat 5))
    (q13_6 : PySem.W.kitOne K (.ref c13) (.ref c6) = some (bGreat 6))
    (q13_7 : PySem.W.kitOne K (.ref c13) (.ref c7) = some (bGreat 7))
    (q13_8 : PySem.W.kitOne K (.ref c13) (.ref c8) = some (bGreat 8))
    (q13_9 : PySem.W.kitOne K (.ref c13) (.ref c9) = some (bGreat 9))
    (q13_10 : PySem.W.kitOne K (.ref c13) (.ref c10) = some (bGreat 10))
    (q13_11 : PySem.W.kitOne K (.ref c13) (.ref c11) = some (bGreat 11))
    (q13_12 : PySem.W.kitOne K (.ref c13) (.type "ValueError") = some (bGreat 12))
    (q13_13 : PySem.W.kitOne K (.ref c13) (.ref c13) = some (bGreat 13))
    : ∃ fd : FuncData, (∀ (s : Shared) (v : Value), BindsTo s fd ⟨[v], []⟩ [("script", v)]) ∧ ∀ base : Heap, K.In base → base.Ns mainGlobals mg → FnG l.prog w K mg base 3 fa fd ["script"] (spLaw K) := by
  have e := hfa.symm.trans (PySem.W.mg_of X G aW)
  cases e
  have y_int := PySem.W.mg_none_of X G z_int
  have y_range := PySem.W.mg_none_of X G z_range
  have y_enumerate := PySem.W.mg_none_of X G z_enumerate
  have y_len := PySem.W.mg_none_of X G z_len
  have y_min := PySem.W.mg_none_of X G z_min
  have y_isinstance := PySem.W.mg_none_of X G z_isinstance
  have y_repr := PySem.W.mg_none_of X G z_repr
  have y_OverflowError := PySem.W.mg_none_of X G z_OverflowError
  have y_ValueError := PySem.W.mg_none_of X G z_ValueError
  let c : Nat → Addr := fun i => match i with | 0 => c0 | 1 => c1 | 2 => c2 | 3 => c3 | 4 => c4 | 5 => c5 | 6 => c6 | 7 => c7 | 8 => c8 | 9 => c9 | 10 => c10 | 11 => c11 | 13 => c13 | _ => c0
  have NM : Nms mg c := ⟨PySem.W.mg_of X G n0, PySem.W.mg_of X G n1, PySem.W.mg_of X G n2, PySem.W.mg_of X G n3, PySem.W.mg_of X G n4, PySem.W.mg_of X G n5, PySem.W.mg_of X G n6, PySem.W.mg_of X G n7, PySem.W.mg_of X G n8, PySem.W.mg_of X G n9, PySem.W.mg_of X G n10, PySem.W.mg_of X G n11, y_ValueError, PySem.W.mg_of X G n13⟩
  have FM := fun_mk (st := sMixed) lM cM_ kM_
  have bM := FM.binds (ps := ["cell", "n"]) fun _ _ _ _ _ _ us hl => match us, hl with | [_, _], _ => rfl
  have FF := fun_mk (st := sFolded) lF cF_ kF_
  have bF := FF.binds (ps := ["script"]) fun _ _ _ _ _ _ us hl => match us, hl with | [_], _ => rfl
  have FD := fun_mk (st := sDraw) lD cD_ kD_
  have bD := FD.binds (ps := ["m", "limit"]) fun _ _ _ _ _ _ us hl => match us, hl with | [_, _], _ => rfl
  have FB := fun_mk (st := sBegun) lB cB_ kB_
  have bB := FB.binds (ps := ["script"]) fun _ _ _ _ _ _ us hl => match us, hl with | [_], _ => rfl
  have FL := fun_mk (st := sLike) lL cL_ kL_
  have bL := FL.binds (ps := ["answer", "due"]) fun _ _ _ _ _ _ us hl => match us, hl with | [_, _], _ => rfl
  have FC := fun_mk (st := sClasses) lC cC_ kC_
  have bC := FC.binds (ps := ["error"]) fun _ _ _ _ _ _ us hl => match us, hl with | [_], _ => rfl
  have FW := fun_mk (st := sLaw) lW cW_ kW_
  have F8 := fun_mk (st := sLogI) lI8 cI8 kI8
  have b8 := F8.binds (ps := ["self", "place"]) fun _ _ _ _ _ _ us hl => match us, hl with | [_, _], _ => rfl
  have ec8 : ExcC K c8 := ⟨ga8, gg8, sb8, by unfold PySem.W.hasDictIn; rw [cls_of x8]; rfl, cc8, hn, ht, oo8⟩
  have xb8 : XB K c8 "ValueError.__new__" ve := xb_of x8 (tailV c11) sa8 kc8
  have F9 := fun_mk (st := sRowI) lI9 cI9 kI9
  have b9 := F9.binds (ps := ["self", "value"]) fun _ _ _ _ _ _ us hl => match us, hl with | [_, _], _ => rfl
  have ec9 : ExcC K c9 := ⟨ga9, gg9, sb9, by unfold PySem.W.hasDictIn; rw [cls_of x9]; rfl, cc9, hn, ht, oo9⟩
  have xb9 : XB K c9 "ValueError.__new__" ve := xb_of x9 (tailV c11) sa9 kc9
  have F10 := fun_mk (st := sTextI) lI10 cI10 kI10
  have b10 := F10.binds (ps := ["self", "line", "word"]) fun _ _ _ _ _ _ us hl => match us, hl with | [_, _, _], _ => rfl
  have ec10 : ExcC K c10 := ⟨ga10, gg10, sb10, by unfold PySem.W.hasDictIn; rw [cls_of x10]; rfl, cc10, hn, ht, oo10⟩
  have xb10 : XB K c10 "ValueError.__new__" ve := xb_of x10 (tailV c11) sa10 kc10
  have F13 := fun_mk (st := sGreatI) lI13 cI13 kI13
  have b13 := F13.binds (ps := ["self", "most"]) fun _ _ _ _ _ _ us hl => match us, hl with | [_, _], _ => rfl
  have ec13 : ExcC K c13 := ⟨ga13, gg13, sb13, by unfold PySem.W.hasDictIn; rw [cls_of x13]; rfl, cc13, hn, ht, oo13⟩
  have xb13 : XB K c13 "OverflowError.__new__" oe := xb_of x13 tailO sa13 kc13
  have FEt : FE K mg c11 := ⟨PySem.W.mg_of X G n11, fga, frd, ffc⟩
  have kit8 : Kit K c c8 bLog := ⟨q8_0, q8_1, q8_2, q8_3, q8_4, q8_5, q8_6, q8_7, q8_8, q8_9, q8_10, q8_11, q8_12, q8_13⟩
  have kit9 : Kit K c c9 bRow := ⟨q9_0, q9_1, q9_2, q9_3, q9_4, q9_5, q9_6, q9_7, q9_8, q9_9, q9_10, q9_11, q9_12, q9_13⟩
  have kit10 : Kit K c c10 bText := ⟨q10_0, q10_1, q10_2, q10_3, q10_4, q10_5, q10_6, q10_7, q10_8, q10_9, q10_10, q10_11, q10_12, q10_13⟩
  have kit13 : Kit K c c13 bGreat := ⟨q13_0, q13_1, q13_2, q13_3, q13_4, q13_5, q13_6, q13_7, q13_8, q13_9, q13_10, q13_11, q13_12, q13_13⟩
  refine ⟨PySem.W.fnOf "law" "law" (defArgs sLaw) (defBody sLaw) (defScope sLaw) .none kVW dcW pmW anW cdW ctW, fun s v => .of_eq rfl, fun base _ _ => ?_⟩
  have o8 : One l.prog w K mg base "ValueError.__new__" ve "place" c8 := ⟨xb8, ec8, taker_of no8, no8, f8, _, iI8, tI8, ok_logI F8 FEt, b8, fun s v0 ws hl => match ws, hl with | [_], _ => .of_eq rfl⟩
  have o9 : One l.prog w K mg base "ValueError.__new__" ve "value" c9 := ⟨xb9, ec9, taker_of no9, no9, f9, _, iI9, tI9, ok_rowI F9 FEt, b9, fun s v0 ws hl => match ws, hl with | [_], _ => .of_eq rfl⟩
  have o13 : One l.prog w K mg base "OverflowError.__new__" oe "most" c13 := ⟨xb13, ec13, taker_of no13, no13, f13, _, iI13, tI13, ok_greatI F13 y_OverflowError ofc, b13, fun s v0 ws hl => match ws, hl with | [_], _ => .of_eq rfl⟩
  have ox10 : OexC K c10 := ⟨⟨_, _, _, _, _, _, _, _, _, _, _, _, _, _, _, x10, refsV c11⟩, sa10, sb10, ty10, kc10⟩
  have o10 : Two l.prog w K mg base c10 := ⟨⟨xb10, ox10, ec10, taker_of no10, nw⟩, no10, f10, _, iI10, tI10, ok_textI F10 FEt, b10, fun s v0 ws hl => match ws, hl with | [_, _], _ => .of_eq rfl⟩
  exact ok_law FW ⟨PySem.W.mg_of X G aB, kB_, bB⟩ (ok_begun FB FF bF (PySem.W.mg_of X G aF) y_int y_range y_enumerate) ⟨PySem.W.mg_of X G aD, kD_, bD⟩ (ok_draw FD FM bM (PySem.W.mg_of X G aM) y_int y_len)
    ⟨PySem.W.mg_of X G aC, kC_, bC⟩ (ok_classes FC NM y_isinstance) ⟨PySem.W.mg_of X G aL, kL_, bL⟩ (ok_like FL y_repr) NM o8 o9 o10 o13 kit8 kit9 kit10 kit13 y_range y_min y_len
end K80
open PySem PySem.W PyProof.Rows
set_option maxRecDepth 100000 in
set_option maxHeartbeats 0 in
theorem PySem.Challenge.cw_rowsthatname_k80_errors_of_the_third_par_holds : PySem.Challenge.rw_rowsthatname_k80_errors_of_the_third_par.Holds := by
  w_on; o_law; k_head; (case hw => w_witness2)
  k_fill
  refine KG.walk_ofG (l := PySem.Challenge.rw_rowsthatname_k80_errors_of_the_third_par) (n := 63) (k := 3) (x := "script") (sp := fun w => K80.spLaw _) rfl (by decide) rfl ⟨rfl, by decide, by decide⟩ (fun w h Y => PySem.W.kIn_of Y) ?F (fun _ _ a ns hl _ hS => ⟨a, ns, rfl, hS, hl, fun _ => rfl⟩)
  case F =>
    intro w mg fa h KX G hmg
    refine' K80.all_mk KX G hmg ?n0 ?n1 ?n2 ?n3 ?n4 ?n5 ?n6 ?n7 ?n8 ?n9 ?n10 ?n11 ?n13 ?aM ?lM ?cM_ ?kM_ ?aF ?lF ?cF_ ?kF_ ?aD ?lD ?cD_ ?kD_ ?aB ?lB ?cB_ ?kB_ ?aL ?lL ?cL_ ?kL_ ?aC ?lC ?cC_ ?kC_ ?aW ?lW ?cW_ ?kW_ ?x8 ?sa8 ?ga8 ?gg8 ?sb8 ?cc8 ?oo8 ?kc8 ?ty8 ?no8 ?iI8 ?tI8 ?lI8 ?cI8 ?kI8 ?x9 ?sa9 ?ga9 ?gg9 ?sb9 ?cc9 ?oo9 ?kc9 ?ty9 ?no9 ?iI9 ?tI9 ?lI9 ?cI9 ?kI9 ?x10 ?sa10 ?ga10 ?gg10 ?sb10 ?cc10 ?oo10 ?kc10 ?ty10 ?no10 ?iI10 ?tI10 ?lI10 ?cI10 ?kI10 ?x13 ?sa13 ?ga13 ?gg13 ?sb13 ?cc13 ?oo13 ?kc13 ?ty13 ?no13 ?iI13 ?tI13 ?lI13 ?cI13 ?kI13 ?nw ?hn ?ht ?fga ?frd ?ffc ?ofc ?z_int ?z_range ?z_enumerate ?z_len ?z_min ?z_isinstance ?z_repr ?z_OverflowError ?z_ValueError ?q8_0 ?q8_1 ?q8_2 ?q8_3 ?q8_4 ?q8_5 ?q8_6 ?q8_7 ?q8_8 ?q8_9 ?q8_10 ?q8_11 ?q8_12 ?q8_13 ?q9_0 ?q9_1 ?q9_2 ?q9_3 ?q9_4 ?q9_5 ?q9_6 ?q9_7 ?q9_8 ?q9_9 ?q9_10 ?q9_11 ?q9_12 ?q9_13 ?q10_0 ?q10_1 ?q10_2 ?q10_3 ?q10_4 ?q10_5 ?q10_6 ?q10_7 ?q10_8 ?q10_9 ?q10_10 ?q10_11 ?q10_12 ?q10_13 ?q13_0 ?q13_1 ?q13_2 ?q13_3 ?q13_4 ?q13_5 ?q13_6 ?q13_7 ?q13_8 ?q13_9 ?q13_10 ?q13_11 ?q13_12 ?q13_13
    (case n0 => k_is)
    (case n1 => k_is)
    (case n2 => k_is)
    (case n3 => k_is)
    (case n4 => k_is)
    (case n5 => k_is)
    (case n6 => k_is)
    (case n7 => k_is)
    (case n8 => k_is)
    (case n9 => k_is)
    (case n10 => k_is)
    (case n11 => k_is)
    (case n13 => k_is)
    (case aM => k_is)
    (case lM => k_is)
    (case cM_ => k_is)
    (case kM_ => k_is)
    (case aF => k_is)
    (case lF => k_is)
    (case cF_ => k_is)
    (case kF_ => k_is)
    (case aD => k_is)
    (case lD => k_is)
    (case cD_ => k_is)
    (case kD_ => k_is)
    (case aB => k_is)
    (case lB => k_is)
    (case cB_ => k_is)
    (case kB_ => k_is)
    (case aL => k_is)
    (case lL => k_is)
    (case cL_ => k_is)
    (case kL_ => k_is)
    (case aC => k_is)
    (case lC => k_is)
    (case cC_ => k_is)
    (case kC_ => k_is)
    (case aW => k_is)
    (case lW => k_is)
    (case cW_ => k_is)
    (case kW_ => k_is)
    (case x8 => k_is)
    (case sa8 => k_is)
    (case ga8 => k_is)
    (case gg8 => k_is)
    (case sb8 => k_is)
    (case cc8 => k_is)
    (case oo8 => k_is)
    (case kc8 => k_is)
    (case ty8 => k_is)
    (case no8 => k_is)
    (case iI8 => k_is)
    (case tI8 => k_is)
    (case lI8 => k_is)
    (case cI8 => k_is)
    (case kI8 => k_is)
    (case x9 => k_is)
    (case sa9 => k_is)
    (case ga9 => k_is)
    (case gg9 => k_is)
    (case sb9 => k_is)
    (case cc9 => k_is)
    (case oo9 => k_is)
    (case kc9 => k_is)
    (case ty9 => k_is)
    (case no9 => k_is)
    (case iI9 => k_is)
    (case tI9 => k_is)
    (case lI9 => k_is)
    (case cI9 => k_is)
    (case kI9 => k_is)
    (case x10 => k_is)
    (case sa10 => k_is)
    (case ga10 => k_is)
    (case gg10 => k_is)
    (case sb10 => k_is)
    (case cc10 => k_is)
    (case oo10 => k_is)
    (case kc10 => k_is)
    (case ty10 => k_is)
    (case no10 => k_is)
    (case iI10 => k_is)
    (case tI10 => k_is)
    (case lI10 => k_is)
    (case cI10 => k_is)
    (case kI10 => k_is)
    (case x13 => k_is)
    (case sa13 => k_is)
    (case ga13 => k_is)
    (case gg13 => k_is)
    (case sb13 => k_is)
    (case cc13 => k_is)
    (case oo13 => k_is)
    (case kc13 => k_is)
    (case ty13 => k_is)
    (case no13 => k_is)
    (case iI13 => k_is)
    (case tI13 => k_is)
    (case lI13 => k_is)
    (case cI13 => k_is)
    (case kI13 => k_is)
    (case nw => k_is)
    (case hn => k_is)
    (case ht => k_is)
    (case fga => k_is)
    (case frd => k_is)
    (case ffc => k_is)
    (case ofc => k_is)
    (case z_int => k_is)
    (case z_range => k_is)
    (case z_enumerate => k_is)
    (case z_len => k_is)
    (case z_min => k_is)
    (case z_isinstance => k_is)
    (case z_repr => k_is)
    (case z_OverflowError => k_is)
    (case z_ValueError => k_is)
    (case q8_0 => first | k_is | kit_is | rfl)
    (case q8_1 => first | k_is | kit_is | rfl)
    (case q8_2 => first | k_is | kit_is | rfl)
    (case q8_3 => first | k_is | kit_is | rfl)
    (case q8_4 => first | k_is | kit_is | rfl)
    (case q8_5 => first | k_is | kit_is | rfl)
    (case q8_6 => first | k_is | kit_is | rfl)
    (case q8_7 => first | k_is | kit_is | rfl)
    (case q8_8 => first | k_is | kit_is | rfl)
    (case q8_9 => first | k_is | kit_is | rfl)
    (case q8_10 => first | k_is | kit_is | rfl)
    (case q8_11 => first | k_is | kit_is | rfl)
    (case q8_12 => first | k_is | kit_is | rfl)
    (case q8_13 => first | k_is | kit_is | rfl)
    (case q9_0 => first | k_is | kit_is | rfl)
    (case q9_1 => first | k_is | kit_is | rfl)
    (case q9_2 => first | k_is | kit_is | rfl)
    (case q9_3 => first | k_is | kit_is | rfl)
    (case q9_4 => first | k_is | kit_is | rfl)
    (case q9_5 => first | k_is | kit_is | rfl)
    (case q9_6 => first | k_is | kit_is | rfl)
    (case q9_7 => first | k_is | kit_is | rfl)
    (case q9_8 => first | k_is | kit_is | rfl)
    (case q9_9 => first | k_is | kit_is | rfl)
    (case q9_10 => first | k_is | kit_is | rfl)
    (case q9_11 => first | k_is | kit_is | rfl)
    (case q9_12 => first | k_is | kit_is | rfl)
    (case q9_13 => first | k_is | kit_is | rfl)
    (case q10_0 => first | k_is | kit_is | rfl)
    (case q10_1 => first | k_is | kit_is | rfl)
    (case q10_2 => first | k_is | kit_is | rfl)
    (case q10_3 => first | k_is | kit_is | rfl)
    (case q10_4 => first | k_is | kit_is | rfl)
    (case q10_5 => first | k_is | kit_is | rfl)
    (case q10_6 => first | k_is | kit_is | rfl)
    (case q10_7 => first | k_is | kit_is | rfl)
    (case q10_8 => first | k_is | kit_is | rfl)
    (case q10_9 => first | k_is | kit_is | rfl)
    (case q10_10 => first | k_is | kit_is | rfl)
    (case q10_11 => first | k_is | kit_is | rfl)
    (case q10_12 => first | k_is | kit_is | rfl)
    (case q10_13 => first | k_is | kit_is | rfl)
    (case q13_0 => first | k_is | kit_is | rfl)
    (case q13_1 => first | k_is | kit_is | rfl)
    (case q13_2 => first | k_is | kit_is | rfl)
    (case q13_3 => first | k_is | kit_is | rfl)
    (case q13_4 => first | k_is | kit_is | rfl)
    (case q13_5 => first | k_is | kit_is | rfl)
    (case q13_6 => first | k_is | kit_is | rfl)
    (case q13_7 => first | k_is | kit_is | rfl)
    (case q13_8 => first | k_is | kit_is | rfl)
    (case q13_9 => first | k_is | kit_is | rfl)
    (case q13_10 => first | k_is | kit_is | rfl)
    (case q13_11 => first | k_is | kit_is | rfl)
    (case q13_12 => first | k_is | kit_is | rfl)
    (case q13_13 => first | k_is | kit_is | rfl)
