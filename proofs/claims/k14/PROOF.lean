import PyProof.Rows.All
import Wide.All
import OpenK.AllK
import Wide.FinOn
import HandS.Base
import HandS.Call
import HandS.List
import HandS.Comp
import HandS.Ends
import HandS.Words
import HandS.WordsList
import HandS.IsInst
import PySem.Challenge.RW_onepolicy_k14_shifts_of_options
set_option Elab.async false
set_option linter.all false
set_option maxRecDepth 100000
set_option maxHeartbeats 4000000
namespace Toy
open PySem PySem.Spec PyProof.Rows L2
def topS (i : Nat) : Stmt := PySem.Challenge.pw_onepolicy_k14_shifts_of_options.main.body.getD i (.Pass ⟨0, 0, 0, 0⟩)
abbrev s_shift_of : Stmt := topS 1
abbrev Ns_shift_of : List Str := ["options", "at", "length"]
theorem x_shift_of : FnScope Ns_shift_of ["options"] (defScope s_shift_of) := ⟨rfl, rfl, rfl, by decide +kernel, rfl, by decide +kernel, by decide +kernel⟩
abbrev s_length_at : Stmt := topS 2
abbrev Ns_length_at : List Str := ["options", "at", "length"]
theorem x_length_at : FnScope Ns_length_at ["options", "at"] (defScope s_length_at) := ⟨rfl, rfl, rfl, by decide +kernel, rfl, by decide +kernel, by decide +kernel⟩
abbrev s_law_state : Stmt := topS 4
abbrev Ns_law_state : List Str := ["script", "cells", "cell"]
theorem x_law_state : FnScope Ns_law_state ["script"] (defScope s_law_state) := ⟨rfl, rfl, rfl, by decide +kernel, rfl, by decide +kernel, by decide +kernel⟩
abbrev s_law_take : Stmt := topS 5
abbrev Ns_law_take : List Str := ["state", "most", "cells", "at", "cell", "mixed"]
theorem x_law_take : FnScope Ns_law_take ["state", "most"] (defScope s_law_take) := ⟨rfl, rfl, rfl, by decide +kernel, rfl, by decide +kernel, by decide +kernel⟩
abbrev s_law_pick : Stmt := topS 6
abbrev Ns_law_pick : List Str := ["state", "row"]
theorem x_law_pick : FnScope Ns_law_pick ["state", "row"] (defScope s_law_pick) := ⟨rfl, rfl, rfl, by decide +kernel, rfl, by decide +kernel, by decide +kernel⟩
abbrev s_law_same : Stmt := topS 7
abbrev Ns_law_same : List Str := ["told", "due", "key", "k"]
theorem x_law_same : FnScope Ns_law_same ["told", "due"] (defScope s_law_same) := ⟨rfl, rfl, rfl, by decide +kernel, rfl, by decide +kernel, by decide +kernel⟩
abbrev s_law_record : Stmt := topS 8
abbrev Ns_law_record : List Str := ["state", "kind", "size", "k"]
theorem x_law_record : FnScope Ns_law_record ["state"] (defScope s_law_record) := ⟨rfl, rfl, rfl, by decide +kernel, rfl, by decide +kernel, by decide +kernel⟩
abbrev s_law_options : Stmt := topS 9
abbrev Ns_law_options : List Str := ["state", "octets", "k"]
theorem x_law_options : FnScope Ns_law_options ["state"] (defScope s_law_options) := ⟨rfl, rfl, rfl, by decide +kernel, rfl, by decide +kernel, by decide +kernel⟩
abbrev s_law_due : Stmt := topS 10
abbrev Ns_law_due : List Str := ["options", "at", "turn", "size"]
theorem x_law_due : FnScope Ns_law_due ["options"] (defScope s_law_due) := ⟨rfl, rfl, rfl, by decide +kernel, rfl, by decide +kernel, by decide +kernel⟩
abbrev s_law : Stmt := topS 11
abbrev Ns_law : List Str := ["script", "state", "worked", "shift", "options", "due", "turn"]
theorem x_law : FnScope Ns_law ["script"] (defScope s_law) := ⟨rfl, rfl, rfl, by decide +kernel, rfl, by decide +kernel, by decide +kernel⟩
/-- what the top has written -/
structure Df (K : PySem.W.Frag) (mg : Str → Option Value) (x : Str) (st : Stmt) (ps : List Str) (a : Addr) (fd : FuncData) : Prop where
  F : Fun K x x st a fd
  b : Binds K fd ps []
  g : mg x = some (.ref a)
structure Tx (K : PySem.W.Frag) (mg : Str → Option Value) where
  ad_shift_of : Addr
  fd_shift_of : FuncData
  d_shift_of : Df K mg "shift_of" s_shift_of ["options"] ad_shift_of fd_shift_of
  ad_length_at : Addr
  fd_length_at : FuncData
  d_length_at : Df K mg "_length_at" s_length_at ["options", "at"] ad_length_at fd_length_at
  ad_law_state : Addr
  fd_law_state : FuncData
  d_law_state : Df K mg "_law_state" s_law_state ["script"] ad_law_state fd_law_state
  ad_law_take : Addr
  fd_law_take : FuncData
  d_law_take : Df K mg "_law_take" s_law_take ["state", "most"] ad_law_take fd_law_take
  ad_law_pick : Addr
  fd_law_pick : FuncData
  d_law_pick : Df K mg "_law_pick" s_law_pick ["state", "row"] ad_law_pick fd_law_pick
  ad_law_same : Addr
  fd_law_same : FuncData
  d_law_same : Df K mg "_law_same" s_law_same ["told", "due"] ad_law_same fd_law_same
  ad_law_record : Addr
  fd_law_record : FuncData
  d_law_record : Df K mg "_law_record" s_law_record ["state"] ad_law_record fd_law_record
  ad_law_options : Addr
  fd_law_options : FuncData
  d_law_options : Df K mg "_law_options" s_law_options ["state"] ad_law_options fd_law_options
  ad_law_due : Addr
  fd_law_due : FuncData
  d_law_due : Df K mg "_law_due" s_law_due ["options"] ad_law_due fd_law_due
  ad_law : Addr
  fd_law : FuncData
  d_law : Df K mg "law" s_law ["script"] ad_law fd_law
  b_len : mg "len" = none
  b_min : mg "min" = none
  b_abs : mg "abs" = none
  b_int : mg "int" = none
  b_isinstance : mg "isinstance" = none
  b_dict : mg "dict" = none
  b_all : mg "all" = none
  b_bool : mg "bool" = none
  b_str : mg "str" = none
  b_tuple : mg "tuple" = none
  b_list : mg "list" = none
  b_range : mg "range" = none
abbrev rLenS (K : PySem.W.Frag) : List V → Hp → VK → Prop := fun xs H Q => ∃ p ys, xs = [.ref p] ∧ (SqL K H p ys ∨ SqT K H p ys) ∧ Q (.int ys.length) H
/-- the state of the law's own draws stands at p, its numbers at c -/
def LS (H : Hp) (p c : Addr) : Prop := ∃ (k : Int) (ns : List Int), H p = some (.lst [.int k, .ref c]) ∧ H c = some (.lst (ns.map V.int)) ∧ ns ≠ []
/-- all else stays as it stands -/
def Kp (p c : Addr) (H H' : Hp) : Prop := ∀ b o, H b = some o → b ≠ p → b ≠ c → H' b = some o
theorem Kp.refl (p c : Addr) (H : Hp) : Kp p c H H := fun _ _ h _ _ => h
theorem Kp.trans {p c : Addr} {H H1 H2 : Hp} (a : Kp p c H H1) (b : Kp p c H1 H2) : Kp p c H H2 := fun q o h h1 h2 => b q o (a q o h h1 h2) h1 h2
theorem LS.ne {H : Hp} {p c : Addr} (h : LS H p c) : p ≠ c := by
  obtain ⟨k, ns, h1, h2, h3⟩ := h
  intro e
  subst e
  rw [h1] at h2
  cases ns with
  | nil => exact h3 rfl
  | cons x r =>
    have z := congrArg (fun o => match o with | some (HO.lst [_, y]) => y | _ => V.non) h2
    cases r with
    | nil => cases h2
    | cons y r =>
      cases r with
      | nil => cases h2
      | cons _ _ => cases h2
theorem same_upd {H : Hp} {p : Addr} {o : HO} (h : H p = none) : Same H (upd H p o) := fun b x e => by
  rw [upd_ne (ne_of_none e h)]
  exact e
theorem kp_same {p c : Addr} {H H' : Hp} (s : Same H H') : Kp p c H H' := fun b o h _ _ => s b o h
theorem LS.same {H H' : Hp} {p c : Addr} (h : LS H p c) (s : Same H H') : LS H' p c := by
  obtain ⟨k, ns, h1, h2, h3⟩ := h
  exact ⟨k, ns, s _ _ h1, s _ _ h2, h3⟩
theorem LS.new {H : Hp} {p c q : Addr} {o : HO} (h : LS H p c) (n : H q = none) : LS (upd H q o) p c := h.same (same_upd n)
theorem LS.ne1 {H : Hp} {p c l : Addr} (h : LS H p c) (n : H l = none) : l ≠ p := by
  obtain ⟨k, ns, g1, g2, g3⟩ := h
  exact (ne_of_none g1 n).symm
theorem LS.ne2 {H : Hp} {p c l : Addr} (h : LS H p c) (n : H l = none) : l ≠ c := by
  obtain ⟨k, ns, g1, g2, g3⟩ := h
  exact (ne_of_none g2 n).symm
def spState (K : PySem.W.Frag) : Sp := fun vs H Q _ => ∃ (a : Addr) (ns : List Int), vs = [.ref a] ∧ SqL K H a (ns.map V.int) ∧ ns.length ≤ 63 ∧
  ∀ (p c : Addr) (H' : Hp), LS H' p c → Same H H' → H p = none → H c = none → Q (.ref p) H'
def spTake : Sp := fun vs H Q _ => ∃ (p c : Addr) (m : Int), vs = [.ref p, .int m] ∧ LS H p c ∧ m < 1073741824 ∧
  ∀ (r : Int) (H' : Hp), 0 ≤ r → (r < m ∨ r < 1) → LS H' p c → Kp p c H H' → Q (.int r) H'
def spPick (K : PySem.W.Frag) : Sp := fun vs H Q _ => ∃ (p c q : Addr) (xs : List V), vs = [.ref p, .ref q] ∧ LS H p c ∧ q ≠ p ∧ q ≠ c ∧ H q = some (.lst xs) ∧ xs ≠ [] ∧ xs.length < 1073741824 ∧
  ∀ (v : V) (H' : Hp), v ∈ xs → LS H' p c → Kp p c H H' → Q v H'
def spNumber : Sp := fun vs H Q _ => ∃ (p c : Addr) (lo hi : Int), vs = [.ref p, .int lo, .int hi] ∧ LS H p c ∧ lo ≤ hi ∧
  ∀ (r : Int) (H' : Hp), lo ≤ r → r ≤ hi → LS H' p c → Kp p c H H' → Q (.int r) H'
section
variable {P : Program} {w : World} {K : PySem.W.Frag} {mg : Str → Option Value} {base : Heap}
theorem emod_rng (x : Int) {m : Int} (h : 0 < m) : 0 ≤ x % m ∧ x % m < m := ⟨Int.emod_nonneg _ (by omega), Int.emod_lt_of_pos _ h⟩
theorem at_mod {α : Type} {xs : List α} (h : xs ≠ []) (k : Int) : ∃ (j : Nat) (v : α), k % (xs.length : Int) = (j : Int) ∧ j < xs.length ∧ xs[j]? = some v := by
  have hl : 0 < xs.length := by
    cases xs with
    | nil => exact absurd rfl h
    | cons _ _ => exact Nat.zero_lt_succ _
  have e := emod_rng k (m := (xs.length : Int)) (by omega)
  refine ⟨(k % (xs.length : Int)).toNat, xs[(k % (xs.length : Int)).toNat]'(by omega), by omega, by omega, List.getElem?_eq_getElem _⟩
theorem ok_law_take (T : Tx K mg) : FnOk P w K mg base CX0 1 T.ad_law_take T.fd_law_take ["state", "most"] spTake := by
  refine T.d_law_take.F.ok x_law_take (fun vs H Q E h => ?_) (fun cdv A outer s H vs Q E hr h => ?_)
  · obtain ⟨p, c, m, rfl, _⟩ := h
    rfl
  · obtain ⟨p, c, m, rfl, hL, hm, q⟩ := h
    have nd := x_law_take.nd
    have npc := hL.ne
    obtain ⟨k, ns, h1, h2, h3⟩ := id hL
    refine ⟨_, (pss_cons (ps_if (pt_cmpR op_lt (pv 1) pe_int (nomark _)) (pss_one (ps_ret pe_int)) pss_nil)
        (pss_cons (ps_set (i := 2) nd rfl (Or.inl rfl) (pe_ix ix_list (pv 0) pe_int (fun _ _ => rfl)))
        (pss_cons (ps_set (i := 3) nd rfl (Or.inl rfl) (pe_op op_mod (pe_callTy call_int1 (by rfl) T.b_int (by decide +kernel) (pa_cons (pe_ix ix_list (pv 0) pe_int (fun _ _ => rfl)) pa_nil)) (pe_callB call_len_seq (by rfl) T.b_len (by decide +kernel) (pa_cons (pv 2) pa_nil))))
        (pss_cons (ps_set (i := 4) nd rfl (Or.inl rfl) (pe_ix ix_list (pv 2) (pv 3) (fun _ _ => rfl)))
        (pss_cons (ps_if (pt_cmpR op_ge (pv 4) pe_int (nomark _)) (pss_cons (ps_asg (pe_op op_fdiv (pv 4) (pv 1)) (pg_sub (pv 2) (pv 3) set_list))
        (pss_one (ps_ret (pe_op op_mod (pe_callTy call_int1 (by rfl) T.b_int (by decide +kernel) (pa_cons (pv 4) pa_nil)) (pv 1))))) pss_nil)
        (pss_cons (ps_asg (pe_op op_add (pe_ix ix_list (pv 0) pe_int (fun _ _ => rfl)) pe_int) (pg_sub (pv 0) pe_int set_list))
        (pss_cons (ps_set (i := 5) nd rfl (Or.inl rfl) (pe_op op_mod (pe_callTy call_int1 (by rfl) T.b_int (by decide +kernel) (pa_cons (pe_op op_add (pe_op op_mul (pv 4) pe_int) (pe_op op_mul (pe_ix ix_list (pv 0) pe_int (fun _ _ => rfl)) pe_int)) pa_nil)) pe_int))
        (pss_cons (ps_set (i := 5) nd rfl (Or.inl rfl) (pe_op op_mod (pe_callTy call_int1 (by rfl) T.b_int (by decide +kernel) (pa_cons (pe_op op_add (pe_op op_mul (pv 5) pe_int) (pe_op op_mul (pe_ix ix_list (pv 0) pe_int (fun _ _ => rfl)) pe_int)) pa_nil)) pe_int))
        (pss_one (ps_ret (pe_op op_mod (pe_callTy call_int1 (by rfl) T.b_int (by decide +kernel) (pa_cons (pe_op op_fdiv (pv 5) pe_int) pa_nil)) (pv 1)))))))))))), ?_⟩
    refine ⟨_, rfl, _, _, rfl, rfl, _, rfl, ite2 (fun e => ?_) (fun e => ?_)⟩
    · exact q 0 H (by decide) (.inr (by decide)) hL (Kp.refl _ _ _)
    have e2 : ¬ m < 2 := of_decide_eq_false (Bool.not_eq_true _ ▸ e)
    have hl0 : (ns.map V.int) ≠ [] := by
      cases ns with
      | nil => exact absurd rfl h3
      | cons _ _ => intro z; cases z
    obtain ⟨j, v, ej, hj, hv⟩ := at_mod hl0 k
    have hjn : j < ns.length := by rw [List.length_map] at hj; exact hj
    obtain ⟨x, hx, rfl⟩ : ∃ x, ns[j]? = some x ∧ v = V.int x := by
      rw [List.getElem?_map] at hv
      cases e : ns[j]? with
      | none => rw [e] at hv; cases hv
      | some x => rw [e] at hv; exact ⟨x, rfl, (Option.some.inj hv).symm⟩
    have hpos : (0 : Int) < ((ns.map V.int).length : Int) := by omega
    refine ⟨_, rfl, _, _, _, _, rfl, rfl, SqL.of h1, atI_nat (j := 1) rfl, ?_⟩
    refine ⟨_, rfl, _, _, _, _, rfl, rfl, SqL.of h1, atI_nat (j := 0) rfl, .inl ⟨_, rfl, ?_⟩⟩
    refine ⟨_, rfl, _, _, rfl, .inl (SqL.of h2), _, _, rfl, rfl, hpos, ?_⟩
    refine ⟨_, rfl, _, rfl, _, _, _, _, rfl, rfl, SqL.of h2, at_of ej hv, ?_⟩
    refine ⟨_, rfl, _, _, rfl, rfl, _, rfl, ite2 (fun eb => ?_) (fun eb => ?_)⟩
    · -- cells[at] = cell // most
      refine ⟨_, rfl, _, rfl, _, _, rfl, rfl, ⟨by omega, by omega⟩, _, rfl, _, rfl, _, _, _, j, rfl, rfl, h2, ?_, ?_⟩
      · rw [ej]
        unfold ixN
        rw [if_pos (by omega), if_pos (by omega)]
        exact congrArg some (by omega)
      · refine ⟨_, rfl, .inl ⟨_, rfl, _, rfl, _, _, rfl, rfl, by omega, ?_⟩⟩
        have r := emod_rng x (m := m) (by omega)
        refine q _ _ r.1 (.inl r.2) ⟨k, ns.set j (x / m), by rw [upd_ne npc]; exact h1, by rw [upd_same, List.map_set], ?_⟩ fun b o e hb hc => by rw [upd_ne hc]; exact e
        intro z
        have zz := congrArg List.length z
        rw [List.length_set] at zz
        have : ns.length = 0 := zz
        omega
    · -- state[0] = state[0] + 1
      refine ⟨_, rfl, _, _, _, _, rfl, rfl, SqL.of h1, atI_nat (j := 0) rfl, _, _, rfl, rfl, _, rfl, _, _, _, 0, rfl, rfl, h1, rfl, ?_⟩
      have g1 : (upd H p (.lst ([V.int k, V.ref c].set 0 (.int (k + 1))))) p = some (.lst [V.int (k + 1), V.ref c]) := upd_same
      have hL' : LS (upd H p (.lst ([V.int k, V.ref c].set 0 (.int (k + 1))))) p c := ⟨k + 1, ns, g1, by rw [upd_ne npc.symm]; exact h2, h3⟩
      have hk : Kp p c H (upd H p (.lst ([V.int k, V.ref c].set 0 (.int (k + 1))))) := fun b o e hb hc => by rw [upd_ne hb]; exact e
      generalize upd H p (.lst ([V.int k, V.ref c].set 0 (.int (k + 1)))) = H1 at g1 hL' hk ⊢
      refine ⟨_, rfl, _, _, rfl, rfl, .inr ⟨by decide, by decide⟩, _, rfl, _, _, _, _, rfl, rfl, SqL.of g1, atI_nat (j := 0) rfl, _, _, rfl, rfl, .inr ⟨by decide, by decide⟩, _, _, rfl, rfl, .inl ⟨_, rfl, _, _, rfl, rfl, (by show (0 : Int) < 2147483647; decide), ?_⟩⟩
      refine ⟨_, rfl, _, _, rfl, rfl, .inr ⟨by decide, by decide⟩, _, rfl, _, _, _, _, rfl, rfl, SqL.of g1, atI_nat (j := 0) rfl, _, _, rfl, rfl, .inr ⟨by decide, by decide⟩, _, _, rfl, rfl, .inl ⟨_, rfl, _, _, rfl, rfl, (by show (0 : Int) < 1000000007; decide), ?_⟩⟩
      refine ⟨_, rfl, _, _, rfl, rfl, ⟨by decide, by decide⟩, .inl ⟨_, rfl, _, rfl, _, _, rfl, rfl, (by show 0 < m; omega), ?_⟩⟩
      have r := emod_rng ((((x * 48271 + (k + 1) * 69621) % 2147483647 * 16807 + (k + 1) * 7919) % 1000000007) / 7) (m := m) (by omega)
      exact q _ _ r.1 (.inl r.2) hL' hk
end

section
variable {P : Program} {w : World} {K : PySem.W.Frag} {mg : Str → Option Value} {base : Heap}
theorem cut63 (xs : List V) (h : xs.length ≤ 63) : cutV xs none (some 63) = xs := by
  unfold cutV
  rw [HT.sIx_none, show HT.sIx xs.length xs.length (some 63) = min 63 xs.length from HT.sIx_nat xs.length xs.length 63]
  rw [List.drop_zero, Nat.min_eq_right h, Nat.sub_zero, List.take_length]
theorem cut_lo (xs : List V) (j : Nat) (h : j ≤ xs.length) : cutV xs none (some (j : Int)) = xs.take j := by
  unfold cutV
  rw [HT.sIx_none, HT.sIx_nat, Nat.min_eq_left h, List.drop_zero, Nat.sub_zero]
theorem cut_any (xs : List V) (j : Nat) : cutV xs none (some (j : Int)) = xs.take j := by
  unfold cutV
  rw [HT.sIx_none, HT.sIx_nat, List.drop_zero, Nat.sub_zero]
  by_cases h : j ≤ xs.length
  · rw [Nat.min_eq_left h]
  · rw [Nat.min_eq_right (by omega), List.take_length, List.take_of_length_le (by omega)]
theorem cut_hi (xs : List V) (j : Nat) (h : j ≤ xs.length) : cutV xs (some (j : Int)) none = xs.drop j := by
  unfold cutV
  rw [HT.sIx_none, HT.sIx_nat, Nat.min_eq_left h]
  exact List.take_of_length_le (by rw [List.length_drop]; omega)
theorem ok_law_state (T : Tx K mg) : FnOk P w K mg base CX0 1 T.ad_law_state T.fd_law_state ["script"] (spState K) := by
  refine T.d_law_state.F.ok x_law_state (fun vs H Q E h => ?_) (fun cdv A outer s H vs Q E hr h => ?_)
  · obtain ⟨a, ns, rfl, _⟩ := h
    rfl
  · obtain ⟨a, ns, rfl, hS, hlen, q⟩ := h
    have nd := x_law_state.nd
    refine ⟨_, (pss_cons (ps_setLc (i := 1) (own := [("cell", 2)]) (g := gName 2) rfl nd rfl rfl (sw_true rfl rfl rfl (by decide +kernel)) (pi_list (pe_slice sl_list (pv 0) po_none (po_some pe_int))) (blkOk_by (own := [("cell", 2)]) (N := Ns_law_state) (sc := defScope s_law_state) (by decide +kernel)) (fun _ _ _ _ _ => (pg_name (i := 2) nd rfl (Or.inl rfl))) (fun _ _ _ _ _ => pts_nil) (fun _ _ _ _ _ => (pe_callB call_abs (by rfl) T.b_abs (by decide +kernel) (pa_cons (pv 2) pa_nil))))
        (pss_cons (ps_if (pt_cmpR op_eq (pe_callB call_len_seq (by rfl) T.b_len (by decide +kernel) (pa_cons (pv 1) pa_nil)) pe_int (nomark _)) (pss_one (ps_set (i := 1) nd rfl (Or.inl rfl) (pe_lst (pa_cons pe_int pa_nil)))) pss_nil)
        (pss_one (ps_ret (pe_lst (pa_cons pe_int (pa_cons (pv 1) pa_nil))))))), ?_⟩
    have hml : (ns.map V.int).length ≤ 63 := by rw [List.length_map]; exact hlen
    refine ⟨_, rfl, 63, rfl, a, _, rfl, hS, fun p np => ?_⟩
    rw [cut63 _ hml]
    have g0 : (upd H p (.lst (ns.map V.int))) p = some (.lst (ns.map V.int)) := upd_same
    have s0 : Same H (upd H p (.lst (ns.map V.int))) := same_upd np
    generalize upd H p (.lst (ns.map V.int)) = H0 at g0 s0 ⊢
    refine ⟨p, rfl, ⟨_, SqL.of g0⟩, fun D hD => lc_list (K := K) (a := p) (xs := ns.map V.int) (fun i H1 => Same H0 H1 ∧ H1 D = some (.lst (((ns.take i).map fun x => if x < 0 then -x else x).map V.int))) ⟨same_upd hD, upd_same⟩ (fun i H1 _ z => SqL.of (z.1 _ _ g0)) ?_ ?_⟩
    · rintro i x H1 hi ⟨s1, g1⟩
      obtain ⟨z, hz, rfl⟩ : ∃ z, ns[i]? = some z ∧ x = V.int z := by
        rw [List.getElem?_map] at hi
        cases e : ns[i]? with
        | none => rw [e] at hi; cases hi
        | some z => rw [e] at hi; exact ⟨z, rfl, (Option.some.inj hi).symm⟩
      have hil := (List.getElem?_eq_some_iff.mp hz).1
      refine ⟨rfl, ?_⟩
      refine ⟨_, rfl, z, rfl, _, g1, ?_, fun b o e => ?_, ?_⟩
      · rw [List.length_map, List.length_map, List.length_take]
        exact small1000 (by omega)
      · rw [upd_ne (ne_of_none e hD)]
        exact s1 _ _ e
      · rw [upd_same, List.take_add_one, hz]
        simp
    · rintro H1 ⟨s1, g1⟩
      rw [List.length_map, List.take_length] at g1
      have np2 : H D = none := s0.free hD
      refine ⟨_, rfl, D, _, rfl, .inl (SqL.of g1), rfl, _, rfl, ite2 (fun e => ?_) (fun e => ?_)⟩
      · refine ⟨by show 1 ≤ sizeLine; decide, fun c hc => ?_⟩
        refine ⟨_, rfl, by show 2 ≤ sizeLine; decide, fun r hr' => ?_⟩
        have s2 : Same H1 (upd H1 c (.lst [.int 0])) := same_upd hc
        have s3 : Same (upd H1 c (.lst [.int 0])) (upd (upd H1 c (.lst [.int 0])) r (.lst [.int 0, .ref c])) := same_upd hr'
        refine q r c _ ⟨0, [0], upd_same, s3 _ _ upd_same, by intro z; cases z⟩ (s0.trans (s1.trans (s2.trans s3))) ?_ ?_
        · exact s0.free (s1.free (s2.free hr'))
        · exact s0.free (s1.free hc)
      · refine ⟨_, rfl, by show 2 ≤ sizeLine; decide, fun r hr' => ?_⟩
        have s3 : Same H1 (upd H1 r (.lst [.int 0, .ref D])) := same_upd hr'
        refine q r D _ ⟨0, _, upd_same, s3 _ _ g1, ?_⟩ (s0.trans (s1.trans s3)) (s0.free (s1.free hr')) np2
        intro z
        refine e (decide_eq_true (congrArg V.int ?_))
        rw [List.length_map, z]
        rfl
theorem ok_law_pick (T : Tx K mg) : FnOk P w K mg base CX0 2 T.ad_law_pick T.fd_law_pick ["state", "row"] (spPick K) := by
  refine T.d_law_pick.F.ok x_law_pick (fun vs H Q E h => ?_) (fun cdv A outer s H vs Q E hr h => ?_)
  · obtain ⟨p, c, t, xs, rfl, _⟩ := h
    rfl
  · obtain ⟨p, c, t, xs, rfl, hL, n1, n2, ht, hx, hlx, q⟩ := h
    have nd := x_law_pick.nd
    refine ⟨_, (pss_one (ps_ret (pe_ix ix_list (pv 1) (pe_call (ok_law_take T) hr (by rfl) T.d_law_take.g T.d_law_take.F.kp T.d_law_take.b .nil pass0 (pa_cons (pv 0) (pa_cons (pe_callB call_len_seq (by rfl) T.b_len (by decide +kernel) (pa_cons (pv 1) pa_nil)) pa_nil))) (fun _ _ => rfl)))), ?_⟩
    refine ⟨_, rfl, _, rfl, _, rfl, t, xs, rfl, .inl (SqL.of ht), p, c, _, rfl, hL, by omega, fun r H' h0 h1 hL' hk => ?_⟩
    have hl : 0 < xs.length := by
      cases xs with
      | nil => exact absurd rfl hx
      | cons _ _ => exact Nat.zero_lt_succ _
    have ht' := hk t _ ht n1 n2
    have hi : r.toNat < xs.length := by omega
    refine ⟨t, xs, r, xs[r.toNat], rfl, rfl, SqL.of ht', at_of (j := r.toNat) (by omega) (List.getElem?_eq_getElem hi), ?_⟩
    exact q _ H' (List.getElem_mem hi) hL' hk
end

/-- None, truths, numbers, texts -/
def flt1 : V → Bool
  | .non => true | .bl _ => true | .int _ => true | .str z => PyData.strOk z | _ => false
/-- x and y are the same data, at most n deep -/
def Sm (K : PySem.W.Frag) (H : Hp) : Nat → V → V → Prop
  | 0, x, y => x = y ∧ flt1 x = true
  | n + 1, x, y => (x = y ∧ flt1 x = true) ∨ ∃ (a b : Addr) (xs ys : List V), x = .ref a ∧ y = .ref b ∧ ((SqL K H a xs ∧ SqL K H b ys) ∨ (SqT K H a xs ∧ SqT K H b ys)) ∧ xs.length = ys.length ∧ xs.length ≤ 100000 ∧
      ∀ (i : Nat) (u v : V), xs[i]? = some u → ys[i]? = some v → Sm K H n u v
theorem sqT_same {K : PySem.W.Frag} {H H' : Hp} {a : Addr} {xs : List V} (e : Same H H') (h : SqT K H a xs) : SqT K H' a xs := by
  rcases h with (h | ⟨o, h⟩) | h
  · exact .inl (.inl (e _ _ h))
  · exact .inl (.inr ⟨o, e _ _ h⟩)
  · exact .inr h
theorem Sm.same {K : PySem.W.Frag} {H H' : Hp} (e : Same H H') : ∀ {n : Nat} {x y : V}, Sm K H n x y → Sm K H' n x y
  | 0, _, _, h => h
  | n + 1, _, _, .inl h => .inl h
  | n + 1, _, _, .inr ⟨a, b, xs, ys, h1, h2, h3, h4, h5, h6⟩ => .inr ⟨a, b, xs, ys, h1, h2, (match h3 with
      | .inl z => .inl ⟨e.seq z.1, e.seq z.2⟩
      | .inr z => .inr ⟨sqT_same e z.1, sqT_same e z.2⟩), h4, h5, fun i u v hu hv => Sm.same e (h6 i u v hu hv)⟩
theorem Sm.flat {K : PySem.W.Frag} {H : Hp} {n : Nat} {x : V} (h : flt1 x = true) : Sm K H n x x := by
  cases n with
  | zero => exact ⟨rfl, h⟩
  | succ n => exact .inl ⟨rfl, h⟩
theorem tyx_L {K : PySem.W.Frag} {H : Hp} {a : Addr} {xs : List V} (h : SqL K H a xs) : TyX K H (.ref a) (.type "list") := by
  rcases h with (h | ⟨o, h⟩) | ⟨o, its, n, h1, h2, h3⟩
  · exact .base (.lst h)
  · exact .base (.frz h)
  · exact .kList h1 h2
theorem tyx_T {K : PySem.W.Frag} {H : Hp} {a : Addr} {xs : List V} (h : SqT K H a xs) : TyX K H (.ref a) (.type "tuple") := by
  rcases h with (h | ⟨o, h⟩) | ⟨o, its, n, h1, h2, h3⟩
  · exact .base (.tup h)
  · exact .fTuple h
  · exact .kTuple h1 h2
theorem kt {K : PySem.W.Frag} (a b : String) {r : Bool} (h : kitB a b = some r) : PySem.W.kitOne K (.type a) (.type b) = some r := h
theorem k_ib {K : PySem.W.Frag} : PySem.W.kitOne K (.type "int") (.type "bool") = some false := kt _ _ (by decide +kernel)
theorem k_is {K : PySem.W.Frag} : PySem.W.kitOne K (.type "int") (.type "str") = some false := kt _ _ (by decide +kernel)
theorem k_ii {K : PySem.W.Frag} : PySem.W.kitOne K (.type "int") (.type "int") = some true := kt _ _ (by decide +kernel)
theorem k_bb {K : PySem.W.Frag} : PySem.W.kitOne K (.type "bool") (.type "bool") = some true := kt _ _ (by decide +kernel)
theorem k_bs {K : PySem.W.Frag} : PySem.W.kitOne K (.type "bool") (.type "str") = some false := kt _ _ (by decide +kernel)
theorem k_sb {K : PySem.W.Frag} : PySem.W.kitOne K (.type "str") (.type "bool") = some false := kt _ _ (by decide +kernel)
theorem k_ss {K : PySem.W.Frag} : PySem.W.kitOne K (.type "str") (.type "str") = some true := kt _ _ (by decide +kernel)
theorem k_lb {K : PySem.W.Frag} : PySem.W.kitOne K (.type "list") (.type "bool") = some false := kt _ _ (by decide +kernel)
theorem k_ls {K : PySem.W.Frag} : PySem.W.kitOne K (.type "list") (.type "str") = some false := kt _ _ (by decide +kernel)
theorem k_li {K : PySem.W.Frag} : PySem.W.kitOne K (.type "list") (.type "int") = some false := kt _ _ (by decide +kernel)
theorem k_ld {K : PySem.W.Frag} : PySem.W.kitOne K (.type "list") (.type "dict") = some false := kt _ _ (by decide +kernel)
theorem k_lt {K : PySem.W.Frag} : PySem.W.kitOne K (.type "list") (.type "tuple") = some false := kt _ _ (by decide +kernel)
theorem k_ll {K : PySem.W.Frag} : PySem.W.kitOne K (.type "list") (.type "list") = some true := kt _ _ (by decide +kernel)
theorem k_tb {K : PySem.W.Frag} : PySem.W.kitOne K (.type "tuple") (.type "bool") = some false := kt _ _ (by decide +kernel)
theorem k_ts {K : PySem.W.Frag} : PySem.W.kitOne K (.type "tuple") (.type "str") = some false := kt _ _ (by decide +kernel)
theorem k_ti {K : PySem.W.Frag} : PySem.W.kitOne K (.type "tuple") (.type "int") = some false := kt _ _ (by decide +kernel)
theorem k_td {K : PySem.W.Frag} : PySem.W.kitOne K (.type "tuple") (.type "dict") = some false := kt _ _ (by decide +kernel)
theorem k_tt {K : PySem.W.Frag} : PySem.W.kitOne K (.type "tuple") (.type "tuple") = some true := kt _ _ (by decide +kernel)
theorem k_tl {K : PySem.W.Frag} : PySem.W.kitOne K (.type "tuple") (.type "list") = some false := kt _ _ (by decide +kernel)
theorem ka2 {K : PySem.W.Frag} {t c d : Value} {x y : Bool} (h1 : PySem.W.kitOne K t c = some x) (h2 : PySem.W.kitOne K t d = some y) : PySem.W.kitAny K t [c, d] = some (x || y) := by
  unfold PySem.W.kitAny
  rw [h1]
  cases x with
  | true => rfl
  | false =>
    show PySem.W.kitAny K t [d] = _
    unfold PySem.W.kitAny
    rw [h2]
    cases y <;> rfl
def spSame (K : PySem.W.Frag) (n : Nat) : Sp := fun vs H Q _ => ∃ (x y : V), vs = [x, y] ∧ Sm K H n x y ∧ ∀ (H' : Hp), Same H H' → Q (.bl true) H'
theorem Sm.eq {K : PySem.W.Frag} {H : Hp} {n : Nat} {x y : V} (e : x = y) (h : flt1 x = true) : Sm K H n x y := e ▸ Sm.flat h
theorem Sm.lst {K : PySem.W.Frag} {H : Hp} {n : Nat} {a b : Addr} {xs : List V} (ha : SqL K H a xs) (hb : SqL K H b xs) (hf : ∀ x ∈ xs, flt1 x = true) (hl : xs.length ≤ 100000) : Sm K H (n + 1) (.ref a) (.ref b) :=
  .inr ⟨a, b, xs, xs, rfl, rfl, .inl ⟨ha, hb⟩, rfl, hl, fun i u v hu hv => by
    rw [hu] at hv
    cases hv
    exact Sm.flat (hf u (List.mem_of_getElem? hu))⟩
theorem Sm.tup {K : PySem.W.Frag} {H : Hp} {n : Nat} {a b : Addr} {xs : List V} (ha : SqT K H a xs) (hb : SqT K H b xs) (hf : ∀ x ∈ xs, flt1 x = true) (hl : xs.length ≤ 100000) : Sm K H (n + 1) (.ref a) (.ref b) :=
  .inr ⟨a, b, xs, xs, rfl, rfl, .inr ⟨ha, hb⟩, rfl, hl, fun i u v hu hv => by
    rw [hu] at hv
    cases hv
    exact Sm.flat (hf u (List.mem_of_getElem? hu))⟩
theorem ix_sq {K : PySem.W.Frag} {H : Hp} {a : Addr} {xs : List V} {i : Int} {v : V} {Q : VK} (h : SqL K H a xs ∨ SqT K H a xs) (hi : atI xs i = some v) (q : Q v H) : rIx K (.ref a) (.int i) H Q := by
  rcases h with h | h
  · exact .inl ⟨a, xs, i, v, rfl, rfl, h, hi, q⟩
  · exact .inr (.inl ⟨a, xs, i, v, rfl, rfl, h, hi, q⟩)
/-- two lists, or two tuples, of the same data -/
def spSeq (K : PySem.W.Frag) (n : Nat) : Sp := fun vs H Q _ => ∃ (a b : Addr) (xs ys : List V), vs = [.ref a, .ref b] ∧ ((SqL K H a xs ∧ SqL K H b ys) ∨ (SqT K H a xs ∧ SqT K H b ys)) ∧ xs.length = ys.length ∧ xs.length ≤ 100000 ∧
  (∀ (i : Nat) (u v : V), xs[i]? = some u → ys[i]? = some v → Sm K H n u v) ∧ ∀ (H' : Hp), Same H H' → Q (.bl true) H'
section
variable {P : Program} {w : World} {K : PySem.W.Frag} {mg : Str → Option Value} {base : Heap}
theorem ok_same0 (T : Tx K mg) : FnOk P w K mg base CX0 1 T.ad_law_same T.fd_law_same ["told", "due"] (spSame K 0) := by
  refine T.d_law_same.F.ok x_law_same (fun vs H Q E h => ?_) (fun cdv A outer s H vs Q E hr h => ?_)
  · obtain ⟨x, y, rfl, _⟩ := h
    rfl
  · obtain ⟨x, y, rfl, ⟨rfl, hf⟩, q⟩ := h
    have nd := x_law_same.nd
    refine ⟨_, (pss_cons (ps_if (pt_cmpR op_isN (pv 1) pe_non (nomark _)) (pss_one (ps_ret (pe_cmpR op_isN (pv 0) pe_non (nomark _)))) pss_nil)
        (pss_cons (ps_if (pt_val (pe_callB call_isiT (by rfl) T.b_isinstance (by decide +kernel) (pa_cons (pv 1) (pa_cons (pe_tup (pa_cons (pe_bltn (v := .ty "bool") (by rfl) T.b_bool (by decide +kernel) rfl) (pa_cons (pe_bltn (v := .ty "str") (by rfl) T.b_str (by decide +kernel) rfl) pa_nil))) pa_nil)))) (pss_one (ps_ret (pe_and (pe_cmpR op_eq (pe_callB call_isi (by rfl) T.b_isinstance (by decide +kernel) (pa_cons (pv 0) (pa_cons (pe_bltn (v := .ty "bool") (by rfl) T.b_bool (by decide +kernel) rfl) pa_nil))) (pe_callB call_isi (by rfl) T.b_isinstance (by decide +kernel) (pa_cons (pv 1) (pa_cons (pe_bltn (v := .ty "bool") (by rfl) T.b_bool (by decide +kernel) rfl) pa_nil))) (nomark _)) (pe_and (pe_cmpR op_eq (pe_callB call_isi (by rfl) T.b_isinstance (by decide +kernel) (pa_cons (pv 0) (pa_cons (pe_bltn (v := .ty "str") (by rfl) T.b_str (by decide +kernel) rfl) pa_nil))) (pe_callB call_isi (by rfl) T.b_isinstance (by decide +kernel) (pa_cons (pv 1) (pa_cons (pe_bltn (v := .ty "str") (by rfl) T.b_str (by decide +kernel) rfl) pa_nil))) (nomark _)) (pe_one (pe_cmpR op_eq (pv 0) (pv 1) (nomark _))))))) pss_nil)
        (pss_cons (ps_if (pt_val (pe_callB call_isi (by rfl) T.b_isinstance (by decide +kernel) (pa_cons (pv 1) (pa_cons (pe_bltn (v := .ty "int") (by rfl) T.b_int (by decide +kernel) rfl) pa_nil)))) (pss_one (ps_ret (pe_and (pe_callB call_isi (by rfl) T.b_isinstance (by decide +kernel) (pa_cons (pv 0) (pa_cons (pe_bltn (v := .ty "int") (by rfl) T.b_int (by decide +kernel) rfl) pa_nil))) (pe_and (pe_not (pe_callB call_isi (by rfl) T.b_isinstance (by decide +kernel) (pa_cons (pv 0) (pa_cons (pe_bltn (v := .ty "bool") (by rfl) T.b_bool (by decide +kernel) rfl) pa_nil)))) (pe_one (pe_cmpR op_eq (pv 0) (pv 1) (nomark _))))))) pss_nil)
        pss_never))), ?_⟩
    cases x with
    | non => exact ⟨_, rfl, rfl, _, rfl, _, rfl, rfl, q H (Same.refl H)⟩
    | int i =>
      refine ⟨_, rfl, rfl, _, rfl, _, rfl, by show 2 ≤ sizeLine; decide, fun t ht => ?_⟩
      have s1 := same_upd (o := .tup [.ty "bool", .ty "str"]) ht
      refine ⟨_, t, _, _, _, _, rfl, upd_same, .cons (.ty _) (.cons (.ty _) .nil), .base (.int i), ka2 k_ib k_is, _, rfl, ?_⟩
      refine ⟨_, rfl, _, _, _, _, _, rfl, .ty _, .base (.int i), k_ii, _, rfl, ?_⟩
      refine ⟨_, rfl, _, _, _, _, _, rfl, .ty _, .base (.int i), k_ii, _, rfl, ?_⟩
      refine ⟨_, rfl, _, _, _, _, _, rfl, .ty _, .base (.int i), k_ib, _, rfl, _, rfl, ?_⟩
      refine ⟨_, rfl, _, rfl, rfl, ?_⟩
      rw [decide_eq_true rfl]
      exact q _ s1
    | bl i =>
      refine ⟨_, rfl, rfl, _, rfl, _, rfl, by show 2 ≤ sizeLine; decide, fun t ht => ?_⟩
      have s1 := same_upd (o := .tup [.ty "bool", .ty "str"]) ht
      refine ⟨_, t, _, _, _, _, rfl, upd_same, .cons (.ty _) (.cons (.ty _) .nil), .base (.bl i), ka2 k_bb k_bs, _, rfl, ?_⟩
      refine ⟨_, rfl, _, _, _, _, _, rfl, .ty _, .base (.bl i), k_bb, _, rfl, _, _, _, _, _, rfl, .ty _, .base (.bl i), k_bb, rfl, _, rfl, ite2 (fun _ => ?_) (fun e => absurd (decide_eq_true rfl) e)⟩
      refine ⟨_, rfl, _, _, _, _, _, rfl, .ty _, .base (.bl i), k_bs, _, rfl, _, _, _, _, _, rfl, .ty _, .base (.bl i), k_bs, rfl, _, rfl, ite2 (fun _ => ?_) (fun e => absurd (decide_eq_true rfl) e)⟩
      refine ⟨_, rfl, _, rfl, rfl, ?_⟩
      rw [decide_eq_true rfl]
      exact q _ s1
    | str i =>
      refine ⟨_, rfl, rfl, _, rfl, _, rfl, by show 2 ≤ sizeLine; decide, fun t ht => ?_⟩
      have s1 := same_upd (o := .tup [.ty "bool", .ty "str"]) ht
      refine ⟨_, t, _, _, _, _, rfl, upd_same, .cons (.ty _) (.cons (.ty _) .nil), .base (.str i), ka2 k_sb k_ss, _, rfl, ?_⟩
      refine ⟨_, rfl, _, _, _, _, _, rfl, .ty _, .base (.str i), k_sb, _, rfl, _, _, _, _, _, rfl, .ty _, .base (.str i), k_sb, rfl, _, rfl, ite2 (fun _ => ?_) (fun e => absurd (decide_eq_true rfl) e)⟩
      refine ⟨_, rfl, _, _, _, _, _, rfl, .ty _, .base (.str i), k_ss, _, rfl, _, _, _, _, _, rfl, .ty _, .base (.str i), k_ss, rfl, _, rfl, ite2 (fun _ => ?_) (fun e => absurd (decide_eq_true rfl) e)⟩
      refine ⟨_, rfl, _, rfl, rfl, ?_⟩
      rw [decide_eq_true rfl]
      exact q _ s1
    | _ => cases hf
theorem ok_same1 (T : Tx K mg) {m : Nat} (G : FnOk P w K mg base CX0 (m + 1) T.ad_law_same T.fd_law_same ["told", "due"] (spSame K m)) :
    FnOk P w K mg base CX0 (m + 2) T.ad_law_same T.fd_law_same ["told", "due"] (spSeq K m) := by
  refine T.d_law_same.F.ok x_law_same (fun vs H Q E h => ?_) (fun cdv A outer s H vs Q E hr h => ?_)
  · obtain ⟨x, y, xs, ys, rfl, _⟩ := h
    rfl
  · obtain ⟨a, b, xs, ys, rfl, hS, hl, hle, hi, q⟩ := h
    have nd := x_law_same.nd
    have hrS := hr
    refine ⟨_, (pss_cons (ps_if (pt_cmpR op_isN (pv 1) pe_non (nomark _)) (pss_one (ps_ret (pe_cmpR op_isN (pv 0) pe_non (nomark _)))) pss_nil)
        (pss_cons (ps_if (pt_val (pe_callB call_isiT (by rfl) T.b_isinstance (by decide +kernel) (pa_cons (pv 1) (pa_cons (pe_tup (pa_cons (pe_bltn (v := .ty "bool") (by rfl) T.b_bool (by decide +kernel) rfl) (pa_cons (pe_bltn (v := .ty "str") (by rfl) T.b_str (by decide +kernel) rfl) pa_nil))) pa_nil)))) (pss_one (ps_ret (pe_and (pe_cmpR op_eq (pe_callB call_isi (by rfl) T.b_isinstance (by decide +kernel) (pa_cons (pv 0) (pa_cons (pe_bltn (v := .ty "bool") (by rfl) T.b_bool (by decide +kernel) rfl) pa_nil))) (pe_callB call_isi (by rfl) T.b_isinstance (by decide +kernel) (pa_cons (pv 1) (pa_cons (pe_bltn (v := .ty "bool") (by rfl) T.b_bool (by decide +kernel) rfl) pa_nil))) (nomark _)) (pe_and (pe_cmpR op_eq (pe_callB call_isi (by rfl) T.b_isinstance (by decide +kernel) (pa_cons (pv 0) (pa_cons (pe_bltn (v := .ty "str") (by rfl) T.b_str (by decide +kernel) rfl) pa_nil))) (pe_callB call_isi (by rfl) T.b_isinstance (by decide +kernel) (pa_cons (pv 1) (pa_cons (pe_bltn (v := .ty "str") (by rfl) T.b_str (by decide +kernel) rfl) pa_nil))) (nomark _)) (pe_one (pe_cmpR op_eq (pv 0) (pv 1) (nomark _))))))) pss_nil)
        (pss_cons (ps_if (pt_val (pe_callB call_isi (by rfl) T.b_isinstance (by decide +kernel) (pa_cons (pv 1) (pa_cons (pe_bltn (v := .ty "int") (by rfl) T.b_int (by decide +kernel) rfl) pa_nil)))) (pss_one (ps_ret (pe_and (pe_callB call_isi (by rfl) T.b_isinstance (by decide +kernel) (pa_cons (pv 0) (pa_cons (pe_bltn (v := .ty "int") (by rfl) T.b_int (by decide +kernel) rfl) pa_nil))) (pe_and (pe_not (pe_callB call_isi (by rfl) T.b_isinstance (by decide +kernel) (pa_cons (pv 0) (pa_cons (pe_bltn (v := .ty "bool") (by rfl) T.b_bool (by decide +kernel) rfl) pa_nil)))) (pe_one (pe_cmpR op_eq (pv 0) (pv 1) (nomark _))))))) pss_nil)
        (pss_cons (ps_if (pt_val (pe_callB call_isi (by rfl) T.b_isinstance (by decide +kernel) (pa_cons (pv 1) (pa_cons (pe_bltn (v := .ty "dict") (by rfl) T.b_dict (by decide +kernel) rfl) pa_nil)))) pss_never pss_nil)
        (pss_cons (ps_if (PW.pt (pw_or (pt_cmpR op_ne (pe_callB call_isi (by rfl) T.b_isinstance (by decide +kernel) (pa_cons (pv 0) (pa_cons (pe_bltn (v := .ty "tuple") (by rfl) T.b_tuple (by decide +kernel) rfl) pa_nil))) (pe_callB call_isi (by rfl) T.b_isinstance (by decide +kernel) (pa_cons (pv 1) (pa_cons (pe_bltn (v := .ty "tuple") (by rfl) T.b_tuple (by decide +kernel) rfl) pa_nil))) (nomark _)) (pw_or (pt_not (pt_val (pe_callB call_isiT (by rfl) T.b_isinstance (by decide +kernel) (pa_cons (pv 0) (pa_cons (pe_tup (pa_cons (pe_bltn (v := .ty "tuple") (by rfl) T.b_tuple (by decide +kernel) rfl) (pa_cons (pe_bltn (v := .ty "list") (by rfl) T.b_list (by decide +kernel) rfl) pa_nil))) pa_nil))))) (pw_or1 (pt_cmpR op_ne (pe_callB call_len_seq (by rfl) T.b_len (by decide +kernel) (pa_cons (pv 0) pa_nil)) (pe_callB call_len_seq (by rfl) T.b_len (by decide +kernel) (pa_cons (pv 1) pa_nil)) (nomark _)))))) (pss_one (ps_ret pe_bl)) pss_nil)
        (pss_one (ps_ret (pe_callB (cr_all rfl) (by rfl) T.b_all (by decide +kernel) (pa_cons (pe_lc (own := [("k", 3)]) (g := gName 3) rfl nd (pi_range1 (by rfl) T.b_range (pa_cons (pe_callB call_len_seq (by rfl) T.b_len (by decide +kernel) (pa_cons (pv 1) pa_nil)) pa_nil)) (blkOk_by (own := [("k", 3)]) (N := Ns_law_same) (sc := defScope s_law_same) (by decide +kernel)) (fun _ _ _ _ _ => (pg_name (i := 3) nd rfl (Or.inl rfl))) (fun _ _ _ _ _ => pts_nil) (fun _ _ _ _ _ => (pe_call G hrS (by rfl) T.d_law_same.g T.d_law_same.F.kp T.d_law_same.b .nil pass0 (pa_cons (pe_ix (r := rIx K) ix_seq (pv 0) (pv 3) (fun _ _ => rfl)) (pa_cons (pe_ix (r := rIx K) ix_seq (pv 1) (pv 3) (fun _ _ => rfl)) pa_nil))))) pa_nil))))))))), ?_⟩
    have hb : ∃ tn, (∀ H1, Same H H1 → TyX K H1 (.ref b) (.type tn) ∧ TyX K H1 (.ref a) (.type tn)) ∧ kitB tn "bool" = some false ∧ kitB tn "str" = some false ∧ kitB tn "int" = some false ∧ kitB tn "dict" = some false ∧ ∃ ip, kitB tn "tuple" = some ip ∧ ∃ il, kitB tn "list" = some il ∧ (ip || il) = true := by
      rcases hS with ⟨h1, h2⟩ | ⟨h1, h2⟩
      · exact ⟨"list", fun H1 s1 => ⟨tyx_L (s1.seq h2), tyx_L (s1.seq h1)⟩, by decide +kernel, by decide +kernel, by decide +kernel, by decide +kernel, false, by decide +kernel, true, by decide +kernel, rfl⟩
      · exact ⟨"tuple", fun H1 s1 => ⟨tyx_T (sqT_same s1 h2), tyx_T (sqT_same s1 h1)⟩, by decide +kernel, by decide +kernel, by decide +kernel, by decide +kernel, true, by decide +kernel, false, by decide +kernel, rfl⟩
    obtain ⟨tn, hT, e1, e2, e3, e4, ip, e5, il, e6, e7⟩ := hb
    have ea : ∀ H1, Same H H1 → (SqL K H1 a xs ∨ SqT K H1 a xs) := fun H1 s1 => by
      rcases hS with ⟨h1, h2⟩ | ⟨h1, h2⟩
      · exact .inl (s1.seq h1)
      · exact .inr (sqT_same s1 h1)
    have eb : ∀ H1, Same H H1 → (SqL K H1 b ys ∨ SqT K H1 b ys) := fun H1 s1 => by
      rcases hS with ⟨h1, h2⟩ | ⟨h1, h2⟩
      · exact .inl (s1.seq h2)
      · exact .inr (sqT_same s1 h2)
    have ek : PySem.W.kitAny K (.type tn) [.type "tuple", .type "list"] = some true := e7 ▸ ka2 (kt _ _ e5) (kt _ _ e6)
    refine ⟨_, rfl, rfl, _, rfl, _, rfl, by show 2 ≤ sizeLine; decide, fun t ht => ?_⟩
    have s1 := same_upd (o := .tup [.ty "bool", .ty "str"]) ht
    refine ⟨_, t, _, _, _, _, rfl, upd_same, .cons (.ty _) (.cons (.ty _) .nil), (hT _ s1).1, ka2 (kt _ _ e1) (kt _ _ e2), _, rfl, ?_⟩
    refine ⟨_, rfl, _, _, _, _, _, rfl, .ty _, (hT _ s1).1, kt _ _ e3, _, rfl, ?_⟩
    refine ⟨_, rfl, _, _, _, _, _, rfl, .ty _, (hT _ s1).1, kt _ _ e4, _, rfl, ?_⟩
    refine ⟨_, rfl, _, _, _, _, _, rfl, .ty _, (hT _ s1).2, kt _ _ e5, _, rfl, _, _, _, _, _, rfl, .ty _, (hT _ s1).1, kt _ _ e5, rfl, _, rfl, iteNS rfl ?_⟩
    refine ⟨_, rfl, by show 2 ≤ sizeLine; decide, fun t2 ht2 => ?_⟩
    have s2 := s1.trans (same_upd (o := .tup [.ty "tuple", .ty "list"]) ht2)
    refine ⟨_, t2, _, _, _, _, rfl, upd_same, .cons (.ty _) (.cons (.ty _) .nil), (hT _ s2).2, ek, _, rfl, ?_⟩
    refine ⟨_, rfl, a, xs, rfl, ea _ s2, _, rfl, b, ys, rfl, eb _ s2, rfl, _, rfl, iteNS (congrArg V.int (congrArg Nat.cast hl)) ?_⟩
    generalize upd (upd H t (.tup [.ty "bool", .ty "str"])) t2 (.tup [.ty "tuple", .ty "list"]) = H2 at s2 ⊢
    refine ⟨_, rfl, b, ys, rfl, eb _ s2, _, rfl, by omega, by omega, fun D hD => ?_⟩
    refine lc_range (lo := 0) (n := (ys.length : Int).toNat) (fun i H1 => Same H2 H1 ∧ H1 D = some (.lst ((List.replicate i true).map V.bl))) ⟨same_upd hD, upd_same⟩ ?_ ?_
    · rintro i H1 hin ⟨s3, g3⟩
      have h23 := s2.trans s3
      have hix : i < xs.length := by omega
      have hiy : i < ys.length := by omega
      refine ⟨rfl, _, rfl, _, rfl, ix_sq (ea _ h23) (at_of (j := i) (by omega) (List.getElem?_eq_getElem hix)) ?_⟩
      refine ⟨_, rfl, _, rfl, ix_sq (eb _ h23) (at_of (j := i) (by omega) (List.getElem?_eq_getElem hiy)) ?_⟩
      refine ⟨_, _, rfl, (hi i _ _ (List.getElem?_eq_getElem hix) (List.getElem?_eq_getElem hiy)).same h23, fun H4 s4 => ⟨_, s4 _ _ g3, ?_, fun c o e => ?_, ?_⟩⟩
      · rw [List.length_map, List.length_replicate]
        exact Nat.lt_of_le_of_lt (m := 100000) (by omega) (by decide)
      · rw [upd_ne (ne_of_none e hD)]
        exact s4 _ _ (s3 _ _ e)
      · rw [upd_same, List.replicate_succ', List.map_append]
        rfl
    · rintro H1 ⟨s3, g3⟩
      refine ⟨D, _, rfl, SqL.of g3, ?_⟩
      have ht : (List.replicate (ys.length : Int).toNat true).all id = true := by
        rw [List.all_eq_true]
        intro z hz
        exact (List.mem_replicate.mp hz).2
      rw [ht]
      exact q H1 (s2.trans s3)
theorem ok_same (T : Tx K mg) : ∀ n : Nat, FnOk P w K mg base CX0 (n + 1) T.ad_law_same T.fd_law_same ["told", "due"] (spSame K n)
  | 0 => ok_same0 T
  | n + 1 => by
    have F0 : FnOk P w K mg base CX0 (n + 2) T.ad_law_same T.fd_law_same ["told", "due"] (spSame K 0) := (ok_same0 T).mono (by omega)
    have F1 := ok_same1 (P := P) (w := w) (base := base) T (ok_same T n)
    refine ⟨fun vs H Q E h => ?_, fun A outer s H args us vs Q E hr he hb hv hs => ?_⟩
    · obtain ⟨x, y, rfl, _⟩ := h
      rfl
    · obtain ⟨x, y, rfl, h | ⟨a, b, xs, ys, rfl, rfl, h⟩, q⟩ := hs
      · exact F0.run A outer s H args us _ Q E hr he hb hv ⟨x, y, rfl, h, q⟩
      · obtain ⟨h1, h2, h3, h4⟩ := h
        exact F1.run A outer s H args us _ Q E hr he hb hv ⟨a, b, xs, ys, rfl, h1, h2, h3, h4, q⟩
end

/-- the shift of options, with fuel -/
def shf : Nat → List Int → V
  | 0, _ => .non
  | _ + 1, [] => .non
  | n + 1, [x] => if x = 0 then .non else if x = 1 then shf n [] else .non
  | n + 1, x :: s :: t => if x = 0 then .non else if x = 1 then shf n (s :: t) else if s < 2 ∨ ((x :: s :: t).length : Int) < s then .non
      else if x = 3 ∧ s = 3 then .int (if 14 < t.getD 0 0 then 14 else t.getD 0 0) else shf n ((x :: s :: t).drop s.toNat)
theorem shf_nil : ∀ n : Nat, shf n [] = .non
  | 0 => rfl
  | _ + 1 => rfl
theorem shf_fuel : ∀ (n m : Nat) (l : List Int), l.length ≤ n → l.length ≤ m → shf n l = shf m l
  | 0, m, l, h, _ => by
    have : l = [] := List.eq_nil_of_length_eq_zero (by omega)
    subst this
    rw [shf_nil, shf_nil]
  | n + 1, 0, l, _, h => by
    have : l = [] := List.eq_nil_of_length_eq_zero (by omega)
    subst this
    rw [shf_nil, shf_nil]
  | n + 1, m + 1, [], _, _ => rfl
  | n + 1, m + 1, [x], _, _ => by
    simp only [shf, shf_nil]
  | n + 1, m + 1, x :: s :: t, h1, h2 => by
    simp only [List.length_cons] at h1 h2
    have e1 : shf n (s :: t) = shf m (s :: t) := shf_fuel n m _ (by simp only [List.length_cons]; omega) (by simp only [List.length_cons]; omega)
    simp only [shf, e1]
    split
    · rfl
    · split
      · rfl
      · split
        · rfl
        · rename_i hs
          split
          · rfl
          · refine shf_fuel n m _ ?_ ?_
            · rw [List.length_drop]
              simp only [List.length_cons]
              omega
            · rw [List.length_drop]
              simp only [List.length_cons]
              omega
def SH (l : List Int) : V := shf l.length l
theorem SH_nil : SH [] = .non := rfl
theorem SH_zero (r : List Int) : SH (0 :: r) = .non := by
  unfold SH
  cases r with
  | nil => rfl
  | cons s t =>
    show shf (t.length + 1 + 1) (0 :: s :: t) = _
    simp only [shf, if_true]
theorem SH_one (r : List Int) : SH (1 :: r) = SH r := by
  unfold SH
  cases r with
  | nil => rfl
  | cons s t =>
    show shf (t.length + 1 + 1) (1 :: s :: t) = shf (t.length + 1) (s :: t)
    rw [shf, if_neg (by decide), if_pos rfl]
theorem SH_end {x : Int} (h0 : x ≠ 0) (h1 : x ≠ 1) : SH [x] = .non := by
  show shf 1 [x] = _
  rw [shf, if_neg h0, if_neg h1]
theorem SH_bad {x s : Int} {t : List Int} (h0 : x ≠ 0) (h1 : x ≠ 1) (hs : s < 2 ∨ ((x :: s :: t).length : Int) < s) : SH (x :: s :: t) = .non := by
  show shf ((s :: t).length + 1) (x :: s :: t) = _
  rw [shf, if_neg h0, if_neg h1, if_pos hs]
theorem SH_three {t : List Int} (hs : ¬ ((3 : Int) < 2 ∨ (((3 : Int) :: 3 :: t).length : Int) < 3)) : SH (3 :: 3 :: t) = .int (if 14 < t.getD 0 0 then 14 else t.getD 0 0) := by
  show shf ((3 :: t).length + 1) (3 :: 3 :: t) = _
  rw [shf, if_neg (by decide), if_neg (by decide), if_neg hs, if_pos ⟨rfl, rfl⟩]
theorem SH_go {x s : Int} {t : List Int} (h0 : x ≠ 0) (h1 : x ≠ 1) (hs : ¬ (s < 2 ∨ ((x :: s :: t).length : Int) < s)) (h3 : ¬ (x = 3 ∧ s = 3)) : SH (x :: s :: t) = SH ((x :: s :: t).drop s.toNat) := by
  show shf ((s :: t).length + 1) (x :: s :: t) = shf ((x :: s :: t).drop s.toNat).length ((x :: s :: t).drop s.toNat)
  rw [shf, if_neg h0, if_neg h1, if_neg hs, if_neg h3]
  refine shf_fuel _ _ _ ?_ (Nat.le_refl _)
  rw [List.length_drop]
  simp only [List.length_cons]
  omega
def Oc (l : List Int) : Prop := ∀ x ∈ l, 0 ≤ x ∧ x ≤ 255
theorem drop_at {l : List Int} {j : Nat} (h : j < l.length) : l.drop j = l[j] :: l.drop (j + 1) := List.drop_eq_getElem_cons h
theorem shf_flat : ∀ (n : Nat) (l : List Int), flt1 (shf n l) = true
  | 0, _ => rfl
  | _ + 1, [] => rfl
  | n + 1, [x] => by
    rw [shf, shf_nil]
    split
    · rfl
    · split <;> rfl
  | n + 1, x :: s :: t => by
    rw [shf]
    split
    · rfl
    · split
      · exact shf_flat n _
      · split
        · rfl
        · split
          · rfl
          · exact shf_flat n _
theorem SH_flat (l : List Int) : flt1 (SH l) = true := shf_flat _ l
/-- the length of the option at a place of a list -/
def lenAt (l : List Int) (j : Nat) : V :=
  if l.getD j 0 = 1 then .int 1 else if j + 1 = l.length then .non else if l.getD (j + 1) 0 < 2 ∨ (l.length : Int) < (j : Int) + l.getD (j + 1) 0 then .non else .int (l.getD (j + 1) 0)
def spLen (K : PySem.W.Frag) : Sp := fun vs H Q _ => ∃ (a : Addr) (l : List Int) (j : Nat), vs = [.ref a, .int (j : Int)] ∧ SqT K H a (l.map V.int) ∧ j < l.length ∧ l.length ≤ 1000 ∧ Q (lenAt l j) H
def spShift (K : PySem.W.Frag) : Sp := fun vs H Q _ => ∃ (a : Addr) (l : List Int), vs = [.ref a] ∧ SqT K H a (l.map V.int) ∧ l.length ≤ 1000 ∧ Q (SH l) H
def spDue (K : PySem.W.Frag) : Sp := fun vs H Q _ => ∃ (a : Addr) (l : List Int), vs = [.ref a] ∧ SqT K H a (l.map V.int) ∧ l.length ≤ 40 ∧ Q (SH l) H
theorem get_at {l : List Int} {j : Nat} (h : j < l.length) : (l.map V.int)[j]? = some (.int (l.getD j 0)) := by
  rw [List.getElem?_map, List.getD_eq_getElem?_getD, List.getElem?_eq_getElem h]
  rfl
section
variable {P : Program} {w : World} {K : PySem.W.Frag} {mg : Str → Option Value} {base : Heap}
theorem ok_length_at (T : Tx K mg) : FnOk P w K mg base CX0 1 T.ad_length_at T.fd_length_at ["options", "at"] (spLen K) := by
  refine T.d_length_at.F.ok x_length_at (fun vs H Q E h => ?_) (fun cdv A outer s H vs Q E hr h => ?_)
  · obtain ⟨a, l, j, rfl, _⟩ := h
    rfl
  · obtain ⟨a, l, j, rfl, hS, hj, hl, q⟩ := h
    have nd := x_length_at.nd
    refine ⟨_, (pss_cons (ps_if (pt_cmpR op_eq (pe_ix ix_tup (pv 0) (pv 1) (fun _ _ => rfl)) pe_int (nomark _)) (pss_one (ps_ret pe_int)) pss_nil)
        (pss_cons (ps_if (pt_cmpR op_eq (pe_op op_add (pv 1) pe_int) (pe_callB call_len_seq (by rfl) T.b_len (by decide +kernel) (pa_cons (pv 0) pa_nil)) (nomark _)) (pss_one (ps_ret pe_non)) pss_nil)
        (pss_cons (ps_set (i := 2) nd rfl (Or.inl rfl) (pe_ix ix_tup (pv 0) (pe_op op_add (pv 1) pe_int) (fun _ _ => rfl)))
        (pss_cons (ps_if (PW.pt (pw_or (pt_cmpR op_lt (pv 2) pe_int (nomark _)) (pw_or1 (pt_cmpR op_gt (pe_op op_add (pv 1) (pv 2)) (pe_callB call_len_seq (by rfl) T.b_len (by decide +kernel) (pa_cons (pv 0) pa_nil)) (nomark _))))) (pss_one (ps_ret pe_non)) pss_nil)
        (pss_one (ps_ret (pv 2))))))), ?_⟩
    unfold lenAt at q
    refine ⟨_, rfl, _, rfl, a, _, _, _, rfl, rfl, hS, at_of rfl (get_at hj), rfl, _, rfl, ite2 (fun e => ?_) (fun e => ?_)⟩
    · have e1 : l.getD j 0 = 1 := V.int.inj (of_decide_eq_true e)
      rw [if_pos e1] at q
      exact q
    have e1 : ¬ l.getD j 0 = 1 := fun z => e (decide_eq_true (congrArg V.int z))
    rw [if_neg e1] at q
    refine ⟨_, rfl, _, _, rfl, rfl, _, rfl, a, _, rfl, .inr hS, rfl, _, rfl, ite2 (fun e => ?_) (fun e => ?_)⟩
    · have e2 : (j : Int) + 1 = ((l.map V.int).length : Int) := V.int.inj (of_decide_eq_true e)
      rw [List.length_map] at e2
      rw [if_pos (by omega)] at q
      exact q
    have e2 : ¬ j + 1 = l.length := fun z => e (decide_eq_true (congrArg V.int (by rw [List.length_map]; omega)))
    rw [if_neg e2] at q
    have hj1 : j + 1 < l.length := by omega
    refine ⟨_, rfl, _, rfl, _, _, rfl, rfl, a, _, _, _, rfl, rfl, hS, at_of (j := j + 1) (by omega) (get_at hj1), ?_⟩
    refine ⟨_, rfl, _, _, rfl, rfl, _, rfl, ite2 (fun e => ?_) (fun e => ?_)⟩
    · rw [if_pos (.inl (of_decide_eq_true e))] at q
      exact q
    have e3 : ¬ l.getD (j + 1) 0 < 2 := fun z => e (decide_eq_true z)
    refine ⟨_, rfl, _, rfl, _, _, rfl, rfl, _, rfl, a, _, rfl, .inr hS, _, _, rfl, rfl, _, rfl, ite2 (fun e => ?_) (fun e => ?_)⟩
    · have e4 : ((l.map V.int).length : Int) < (j : Int) + l.getD (j + 1) 0 := of_decide_eq_true e
      rw [List.length_map] at e4
      rw [if_pos (.inr e4)] at q
      exact q
    · have e4 : ¬ (l.length : Int) < (j : Int) + l.getD (j + 1) 0 := fun z => e (decide_eq_true (by rw [List.length_map]; exact z))
      rw [if_neg (fun z => z.elim e3 e4)] at q
      exact ⟨_, rfl, q⟩
end

theorem drop_getD {l : List Int} {j : Nat} (h : j < l.length) : l.drop j = l.getD j 0 :: l.drop (j + 1) := by
  rw [List.drop_eq_getElem_cons h, List.getD_eq_getElem?_getD, List.getElem?_eq_getElem h]
  rfl
theorem getD_drop (l : List Int) (j : Nat) : (l.drop j).getD 0 0 = l.getD j 0 := by
  rw [List.getD_eq_getElem?_getD, List.getD_eq_getElem?_getD, List.getElem?_drop]
  rfl
/-- what the shift is at a place -/
structure At (l : List Int) (j : Nat) : Prop where
  z : l.getD j 0 = 0 → SH (l.drop j) = .non
  o : l.getD j 0 = 1 → SH (l.drop j) = SH (l.drop (j + 1))
  e : l.getD j 0 ≠ 0 → l.getD j 0 ≠ 1 → j + 1 = l.length → SH (l.drop j) = .non
  b : l.getD j 0 ≠ 0 → l.getD j 0 ≠ 1 → j + 1 < l.length → (l.getD (j + 1) 0 < 2 ∨ (l.length : Int) < (j : Int) + l.getD (j + 1) 0) → SH (l.drop j) = .non
  t : l.getD j 0 = 3 → j + 1 < l.length → l.getD (j + 1) 0 = 3 → ¬ (l.length : Int) < (j : Int) + 3 → SH (l.drop j) = .int (if 14 < l.getD (j + 2) 0 then 14 else l.getD (j + 2) 0)
  g : l.getD j 0 ≠ 0 → l.getD j 0 ≠ 1 → j + 1 < l.length → ¬ (l.getD (j + 1) 0 < 2 ∨ (l.length : Int) < (j : Int) + l.getD (j + 1) 0) → ¬ (l.getD j 0 = 3 ∧ l.getD (j + 1) 0 = 3) → SH (l.drop j) = SH (l.drop (j + (l.getD (j + 1) 0).toNat))
theorem at_all {l : List Int} {j : Nat} (h : j < l.length) : At l j := by
  have e0 := drop_getD h
  have e1 : ∀ h1 : j + 1 < l.length, l.drop j = l.getD j 0 :: l.getD (j + 1) 0 :: l.drop (j + 2) := fun h1 => by rw [e0, drop_getD h1]
  have ln : ∀ h1 : j + 1 < l.length, ((l.getD j 0 :: l.getD (j + 1) 0 :: l.drop (j + 2)).length : Int) = (l.length : Int) - j := fun h1 => by
    rw [← e1 h1, List.length_drop]
    omega
  refine ⟨fun z => ?_, fun z => ?_, fun z0 z1 z => ?_, fun z0 z1 h1 z => ?_, fun z h1 z3 zl => ?_, fun z0 z1 h1 z z3 => ?_⟩
  · rw [e0, z, SH_zero]
  · rw [e0, z, SH_one]
  · rw [e0, show l.drop (j + 1) = [] from List.drop_eq_nil_of_le (by omega), SH_end z0 z1]
  · rw [e1 h1]
    refine SH_bad z0 z1 ?_
    rw [ln h1]
    rcases z with z | z
    · exact .inl z
    · exact .inr (by omega)
  · have l3 := ln h1
    rw [e1 h1]
    rw [z, z3] at l3 ⊢
    rw [SH_three (by rw [l3]; omega), getD_drop]
  · rw [e1 h1, SH_go z0 z1 (by rw [ln h1]; omega) z3, ← e1 h1, List.drop_drop]
section
variable {P : Program} {w : World} {K : PySem.W.Frag} {mg : Str → Option Value} {base : Heap}
theorem ok_shift_of (T : Tx K mg) : FnOk P w K mg base CX0 2 T.ad_shift_of T.fd_shift_of ["options"] (spShift K) := by
  refine T.d_shift_of.F.ok x_shift_of (fun vs H Q E h => ?_) (fun cdv A outer s H vs Q E hr h => ?_)
  · obtain ⟨a, l, rfl, _⟩ := h
    rfl
  · obtain ⟨a, l, rfl, hS, hl, q⟩ := h
    have nd := x_shift_of.nd
    refine ⟨_, (pss_cons (ps_set (i := 1) nd rfl (Or.inl rfl) pe_int)
        (pss_cons (ps_while PassesOwn.never (PW.pt (pw_and (pt_cmpR op_lt (pv 1) (pe_callB call_len_seq (by rfl) T.b_len (by decide +kernel) (pa_cons (pv 0) pa_nil)) (nomark _)) (pw_and1 (pt_cmpR op_ne (pe_ix ix_tup (pv 0) (pv 1) (fun _ _ => rfl)) pe_int (nomark _))))) (pss_cons (ps_set (i := 2) nd rfl (Or.inl rfl) (pe_call (ok_length_at T) hr (by rfl) T.d_length_at.g T.d_length_at.F.kp T.d_length_at.b .nil pass0 (pa_cons (pv 0) (pa_cons (pv 1) pa_nil))))
        (pss_cons (ps_if (pt_cmpR op_isN (pv 2) pe_non (nomark _)) (pss_one (ps_ret pe_non)) pss_nil)
        (pss_cons (ps_if (PW.pt (pw_and (pt_cmpR op_eq (pe_ix ix_tup (pv 0) (pv 1) (fun _ _ => rfl)) pe_int (nomark _)) (pw_and1 (pt_cmpR op_eq (pv 2) pe_int (nomark _))))) (pss_one (ps_ret (pe_callB (call_min2 rfl) (by rfl) T.b_min (by decide +kernel) (pa_cons (pe_ix ix_tup (pv 0) (pe_op op_add (pv 1) pe_int) (fun _ _ => rfl)) (pa_cons pe_int pa_nil))))) pss_nil)
        (pss_one (ps_aug (i := 1) nd rfl (Or.inl rfl) (pv 2) ip_add))))))
        (pss_one (ps_ret pe_non)))), ?_⟩
    refine ⟨fun m σ H' => ∃ (j : Nat) (v2 : Option V), σ = [some (.ref a), some (.int (j : Int)), v2] ∧ H' = H ∧ j ≤ l.length ∧ SH (l.drop j) = SH l ∧ m = l.length - j, ⟨_, 0, none, rfl, rfl, Nat.zero_le _, by rw [List.drop_zero], rfl⟩, ?_⟩
    rintro m σ H' ⟨j, v2, rfl, rfl, hj, hs, rfl⟩
    refine ⟨_, rfl, _, rfl, a, _, rfl, .inr hS, _, _, rfl, rfl, _, rfl, ite2 (fun e => ?_) (fun e => ?_)⟩
    · have hjl : j < l.length := by
        have z : (j : Int) < ((l.map V.int).length : Int) := of_decide_eq_true e
        rw [List.length_map] at z
        omega
      have A1 := at_all hjl
      refine ⟨_, rfl, _, rfl, a, _, _, _, rfl, rfl, hS, at_of rfl (get_at hjl), rfl, _, rfl, ?_⟩
      by_cases z0 : l.getD j 0 = 0
      · rw [decide_eq_true (congrArg V.int z0 : V.int (l.getD j 0) = V.int 0)]
        rw [← hs, A1.z z0] at q
        exact q
      · rw [decide_eq_false (fun z => z0 (V.int.inj z) : ¬ V.int (l.getD j 0) = V.int 0)]
        refine ⟨_, fun _ _ h => h, ?_⟩
        refine ⟨_, rfl, _, rfl, a, l, j, rfl, hS, hjl, hl, ?_⟩
        by_cases z1 : l.getD j 0 = 1
        · have el : lenAt l j = .int 1 := by unfold lenAt; rw [if_pos z1]
          rw [el]
          refine ⟨_, rfl, rfl, _, rfl, _, rfl, _, rfl, a, _, _, _, rfl, rfl, hS, at_of rfl (get_at hjl), rfl, _, rfl, ?_⟩
          rw [decide_eq_false (fun z => by have := V.int.inj z; omega : ¬ V.int (l.getD j 0) = V.int 3)]
          refine ⟨_, rfl, _, rfl, _, _, rfl, rfl, _, ?_, j + 1, _, rfl, rfl, by omega, by rw [← A1.o z1]; exact hs, rfl⟩
          omega
        · by_cases ze : j + 1 = l.length
          · have el : lenAt l j = .non := by unfold lenAt; rw [if_neg z1, if_pos ze]
            rw [el]
            refine ⟨_, rfl, rfl, _, rfl, ?_⟩
            rw [← hs, A1.e z0 z1 ze] at q
            exact q
          · have hj1 : j + 1 < l.length := by omega
            by_cases zb : l.getD (j + 1) 0 < 2 ∨ (l.length : Int) < (j : Int) + l.getD (j + 1) 0
            · have el : lenAt l j = .non := by unfold lenAt; rw [if_neg z1, if_neg ze, if_pos zb]
              rw [el]
              refine ⟨_, rfl, rfl, _, rfl, ?_⟩
              rw [← hs, A1.b z0 z1 hj1 zb] at q
              exact q
            · have el : lenAt l j = .int (l.getD (j + 1) 0) := by unfold lenAt; rw [if_neg z1, if_neg ze, if_neg zb]
              rw [el]
              refine ⟨_, rfl, rfl, _, rfl, _, rfl, _, rfl, a, _, _, _, rfl, rfl, hS, at_of rfl (get_at hjl), rfl, _, rfl, ite2 (fun e3 => ?_) (fun e3 => ?_)⟩
              · have z3 : l.getD j 0 = 3 := V.int.inj (of_decide_eq_true e3)
                refine ⟨_, rfl, rfl, _, rfl, ite2 (fun e4 => ?_) (fun e4 => ?_)⟩
                · have z4 : l.getD (j + 1) 0 = 3 := V.int.inj (of_decide_eq_true e4)
                  have hj2 : j + 2 < l.length := by omega
                  refine ⟨_, rfl, _, rfl, _, _, rfl, rfl, a, _, _, _, rfl, rfl, hS, at_of (j := j + 2) (by omega) (get_at hj2), _, _, rfl, ?_⟩
                  rw [← hs, A1.t z3 hj1 z4 (by omega)] at q
                  exact q
                · have z4 : ¬ l.getD (j + 1) 0 = 3 := fun z => e4 (decide_eq_true (congrArg V.int z))
                  refine ⟨_, rfl, _, rfl, _, _, rfl, rfl, _, ?_, j + (l.getD (j + 1) 0).toNat, some (.int (l.getD (j + 1) 0)), ?_, rfl, by omega, by rw [← A1.g z0 z1 hj1 zb fun z => z4 z.2]; exact hs, rfl⟩
                  · omega
                  · rw [show ((j + (l.getD (j + 1) 0).toNat : Nat) : Int) = (j : Int) + l.getD (j + 1) 0 by omega]
                    rfl
              · have z3 : ¬ l.getD j 0 = 3 := fun z => e3 (decide_eq_true (congrArg V.int z))
                refine ⟨_, rfl, _, rfl, _, _, rfl, rfl, _, ?_, j + (l.getD (j + 1) 0).toNat, some (.int (l.getD (j + 1) 0)), ?_, rfl, by omega, by rw [← A1.g z0 z1 hj1 zb fun z => z3 z.1]; exact hs, rfl⟩
                · omega
                · rw [show ((j + (l.getD (j + 1) 0).toNat : Nat) : Int) = (j : Int) + l.getD (j + 1) 0 by omega]
                  rfl
    · have hjl : j = l.length := by
        have z : ¬ (j : Int) < ((l.map V.int).length : Int) := fun z => e (decide_eq_true z)
        rw [List.length_map] at z
        omega
      rw [← hs, hjl, List.drop_length] at q
      exact q
theorem ok_law_due (T : Tx K mg) : FnOk P w K mg base CX0 1 T.ad_law_due T.fd_law_due ["options"] (spDue K) := by
  refine T.d_law_due.F.ok x_law_due (fun vs H Q E h => ?_) (fun cdv A outer s H vs Q E hr h => ?_)
  · obtain ⟨a, l, rfl, _⟩ := h
    rfl
  · obtain ⟨a, l, rfl, hS, hl, q⟩ := h
    have nd := x_law_due.nd
    refine ⟨_, (pss_cons (ps_set (i := 1) nd rfl (Or.inl rfl) pe_int)
        (pss_cons (ps_for PassesOwn.never rfl (pi_range1 (by rfl) T.b_range (pa_cons pe_int pa_nil)) (pg_name (i := 2) nd rfl (Or.inl rfl)) (pss_cons (ps_if (PW.pt (pw_or (pt_cmpR op_ge (pv 1) (pe_callB call_len_seq (by rfl) T.b_len (by decide +kernel) (pa_cons (pv 0) pa_nil)) (nomark _)) (pw_or1 (pt_cmpR op_eq (pe_ix ix_tup (pv 0) (pv 1) (fun _ _ => rfl)) pe_int (nomark _))))) (pss_one (ps_ret pe_non)) pss_nil)
        (pss_cons (ps_set (i := 3) nd rfl (Or.inl rfl) pe_int)
        (pss_cons (ps_if (pt_cmpR op_ne (pe_ix ix_tup (pv 0) (pv 1) (fun _ _ => rfl)) pe_int (nomark _)) (pss_cons (ps_if (pt_cmpR op_ge (pe_op op_add (pv 1) pe_int) (pe_callB call_len_seq (by rfl) T.b_len (by decide +kernel) (pa_cons (pv 0) pa_nil)) (nomark _)) (pss_one (ps_ret pe_non)) pss_nil)
        (pss_cons (ps_set (i := 3) nd rfl (Or.inl rfl) (pe_ix ix_tup (pv 0) (pe_op op_add (pv 1) pe_int) (fun _ _ => rfl)))
        (pss_cons (ps_if (PW.pt (pw_or (pt_cmpR op_lt (pv 3) pe_int (nomark _)) (pw_or1 (pt_cmpR op_gt (pe_op op_add (pv 1) (pv 3)) (pe_callB call_len_seq (by rfl) T.b_len (by decide +kernel) (pa_cons (pv 0) pa_nil)) (nomark _))))) (pss_one (ps_ret pe_non)) pss_nil)
        (pss_one (ps_if (PW.pt (pw_and (pt_cmpR op_eq (pv 3) pe_int (nomark _)) (pw_and1 (pt_cmpR op_eq (pe_ix ix_tup (pv 0) (pv 1) (fun _ _ => rfl)) pe_int (nomark _))))) (pss_one (ps_ret (pe_ifExp (pt_cmpR op_lt (pe_ix ix_tup (pv 0) (pe_op op_add (pv 1) pe_int) (fun _ _ => rfl)) pe_int (nomark _)) (pe_ix ix_tup (pv 0) (pe_op op_add (pv 1) pe_int) (fun _ _ => rfl)) pe_int))) pss_nil))))) pss_nil)
        (pss_one (ps_set (i := 1) nd rfl (Or.inl rfl) (pe_op op_add (pv 1) (pv 3))))))))
        (pss_one (ps_ret pe_non)))), ?_⟩
    have lm : ((l.map V.int).length : Int) = (l.length : Int) := by rw [List.length_map]
    refine ⟨41, rfl, by decide, by decide, for_range (n := 41) (fun i σ H' => ∃ (j : Nat) (v2 v3 : Option V), σ = [some (.ref a), some (.int (j : Int)), v2, v3] ∧ H' = H ∧ i ≤ j ∧ j ≤ l.length ∧ SH (l.drop j) = SH l)
      ⟨0, none, none, rfl, rfl, Nat.le_refl _, Nat.zero_le _, by rw [List.drop_zero]⟩ ?_ ?_⟩
    · rintro i σ H' hi ⟨j, v2, v3, rfl, rfl, hij, hj, hs⟩
      refine ⟨_, rfl, _, rfl, a, _, rfl, .inr hS, _, _, rfl, rfl, _, rfl, ite2 (fun e => ?_) (fun e => ?_)⟩
      · have z : ((l.map V.int).length : Int) ≤ (j : Int) := of_decide_eq_true e
        have hjl : j = l.length := by omega
        rw [← hs, hjl, List.drop_length] at q
        exact q
      have hjl : j < l.length := by
        have z : ¬ ((l.map V.int).length : Int) ≤ (j : Int) := fun z => e (decide_eq_true z)
        omega
      have A1 := at_all hjl
      refine ⟨_, rfl, _, rfl, a, _, _, _, rfl, rfl, hS, at_of rfl (get_at hjl), rfl, _, rfl, ite2 (fun e => ?_) (fun e => ?_)⟩
      · rw [← hs, A1.z (V.int.inj (of_decide_eq_true e))] at q
        exact q
      have z0 : l.getD j 0 ≠ 0 := fun z => e (decide_eq_true (congrArg V.int z))
      refine ⟨_, rfl, _, rfl, a, _, _, _, rfl, rfl, hS, at_of rfl (get_at hjl), rfl, _, rfl, ?_⟩
      by_cases z1 : l.getD j 0 = 1
      · rw [decide_eq_true (congrArg V.int z1 : V.int (l.getD j 0) = V.int 1)]
        exact ⟨_, rfl, _, rfl, _, _, rfl, rfl, j + 1, _, _, rfl, rfl, by omega, by omega, by rw [← A1.o z1]; exact hs⟩
      rw [decide_eq_false (fun z => z1 (V.int.inj z) : ¬ V.int (l.getD j 0) = V.int 1)]
      refine ⟨_, rfl, _, _, rfl, rfl, _, rfl, a, _, rfl, .inr hS, _, _, rfl, rfl, _, rfl, ite2 (fun e => ?_) (fun e => ?_)⟩
      · have z : ((l.map V.int).length : Int) ≤ (j : Int) + 1 := of_decide_eq_true e
        rw [← hs, A1.e z0 z1 (by omega)] at q
        exact q
      have hj1 : j + 1 < l.length := by
        have z : ¬ ((l.map V.int).length : Int) ≤ (j : Int) + 1 := fun z => e (decide_eq_true z)
        omega
      refine ⟨_, rfl, _, rfl, _, _, rfl, rfl, a, _, _, _, rfl, rfl, hS, at_of (j := j + 1) (by omega) (get_at hj1), ?_⟩
      refine ⟨_, rfl, _, _, rfl, rfl, _, rfl, ite2 (fun e => ?_) (fun e => ?_)⟩
      · rw [← hs, A1.b z0 z1 hj1 (.inl (of_decide_eq_true e))] at q
        exact q
      have zb1 : ¬ l.getD (j + 1) 0 < 2 := fun z => e (decide_eq_true z)
      refine ⟨_, rfl, _, rfl, _, _, rfl, rfl, _, rfl, a, _, rfl, .inr hS, _, _, rfl, rfl, _, rfl, ite2 (fun e => ?_) (fun e => ?_)⟩
      · have z : ((l.map V.int).length : Int) < (j : Int) + l.getD (j + 1) 0 := of_decide_eq_true e
        rw [← hs, A1.b z0 z1 hj1 (.inr (by omega))] at q
        exact q
      have zb : ¬ (l.getD (j + 1) 0 < 2 ∨ (l.length : Int) < (j : Int) + l.getD (j + 1) 0) := by
        have z : ¬ ((l.map V.int).length : Int) < (j : Int) + l.getD (j + 1) 0 := fun z => e (decide_eq_true z)
        omega
      refine ⟨_, rfl, rfl, _, rfl, ite2 (fun e4 => ?_) (fun e4 => ?_)⟩
      · have z4 : l.getD (j + 1) 0 = 3 := V.int.inj (of_decide_eq_true e4)
        refine ⟨_, rfl, _, rfl, a, _, _, _, rfl, rfl, hS, at_of rfl (get_at hjl), rfl, _, rfl, ite2 (fun e3 => ?_) (fun e3 => ?_)⟩
        · have z3 : l.getD j 0 = 3 := V.int.inj (of_decide_eq_true e3)
          have hj2 : j + 2 < l.length := by omega
          rw [← hs, A1.t z3 hj1 z4 (by omega)] at q
          refine ⟨_, rfl, _, rfl, _, _, rfl, rfl, a, _, _, _, rfl, rfl, hS, at_of (j := j + 2) (by omega) (get_at hj2), _, _, rfl, rfl, _, rfl, ite2 (fun e5 => ?_) (fun e5 => ?_)⟩
          · have z5 : l.getD (j + 2) 0 < 15 := of_decide_eq_true e5
            rw [if_neg (by omega)] at q
            exact ⟨_, rfl, _, rfl, _, _, rfl, rfl, a, _, _, _, rfl, rfl, hS, at_of (j := j + 2) (by omega) (get_at hj2), q⟩
          · have z5 : ¬ l.getD (j + 2) 0 < 15 := fun z => e5 (decide_eq_true z)
            rw [if_pos (by omega)] at q
            exact q
        · have z3 : ¬ l.getD j 0 = 3 := fun z => e3 (decide_eq_true (congrArg V.int z))
          refine ⟨_, rfl, _, rfl, _, _, rfl, rfl, j + (l.getD (j + 1) 0).toNat, some (.int (0 + (i : Int))), some (.int (l.getD (j + 1) 0)), ?_, rfl, by omega, by omega, by rw [← A1.g z0 z1 hj1 zb fun z => z3 z.1]; exact hs⟩
          rw [show ((j + (l.getD (j + 1) 0).toNat : Nat) : Int) = (j : Int) + l.getD (j + 1) 0 by omega]
          rfl
      · have z4 : ¬ l.getD (j + 1) 0 = 3 := fun z => e4 (decide_eq_true (congrArg V.int z))
        refine ⟨_, rfl, _, rfl, _, _, rfl, rfl, j + (l.getD (j + 1) 0).toNat, some (.int (0 + (i : Int))), some (.int (l.getD (j + 1) 0)), ?_, rfl, by omega, by omega, by rw [← A1.g z0 z1 hj1 zb fun z => z4 z.2]; exact hs⟩
        rw [show ((j + (l.getD (j + 1) 0).toNat : Nat) : Int) = (j : Int) + l.getD (j + 1) 0 by omega]
        rfl
    · rintro σ H' ⟨j, v2, v3, rfl, rfl, hij, hj, hs⟩
      omega
end

/-- written numbers in a display -/
def tcs : List Int → TA
  | [] => tNil
  | x :: r => tCons (tC (.int x)) (tcs r)
theorem tcs_eq (σ : L2.St) (H : Hp) : ∀ (xs : List Int) (Q : List V → Hp → Prop), Q (xs.map V.int) H → tcs xs σ H Q
  | [], _, q => q
  | x :: r, Q, q => tcs_eq σ H r (fun vs H1 => Q (.int x :: vs) H1) q
theorem rd_pick {K : PySem.W.Frag} {i : Nat} {p c : Addr} {σ : L2.St} {H : Hp} {Q : VK} {E : XK} (xs : List Int) (hσ : σ[i]? = some (some (.ref p))) (hL : LS H p c) (hx : xs ≠ []) (hl : xs.length ≤ 1000)
    (k : ∀ (x : Int) (H' : Hp), x ∈ xs → LS H' p c → Kp p c H H' → Q (.int x) H') : tCall (spPick K) [] E (tCons (tVar i) (tCons (tLst (tcs xs)) tNil)) σ H Q := by
  refine ⟨_, hσ, tcs_eq σ H xs _ ⟨Nat.le_trans (by rw [List.length_map]; exact hl) (by decide : 1000 ≤ sizeLine), fun l hl2 => ?_⟩⟩
  refine ⟨p, c, l, _, rfl, hL.new hl2, hL.ne1 hl2, hL.ne2 hl2, upd_same, (fun z => hx (List.map_eq_nil_iff.mp z)), Nat.lt_of_le_of_lt (by rw [List.length_map]; exact hl) (by decide : 1000 < 1073741824), fun v H2 hv hL2 k2 => ?_⟩
  obtain ⟨x, hx2, rfl⟩ := List.mem_map.mp hv
  exact k x H2 hx2 hL2 ((kp_same (same_upd hl2)).trans k2)

def spLaw (K : PySem.W.Frag) : Sp := fun vs H Q _ => ∃ (a : Addr) (ns : List Int), vs = [.ref a] ∧ SqL K H a (ns.map V.int) ∧ ns.length ≤ 63 ∧ ∀ H', Q (.bl true) H'
def spRec : Sp := fun vs H Q _ => ∃ (p c : Addr), vs = [.ref p] ∧ LS H p c ∧
  ∀ (t : Addr) (ns : List Int) (H' : Hp), Oc ns → ns.length ≤ 10 → H' t = some (.lst (ns.map V.int)) → LS H' p c → Kp p c H H' → Q (.ref t) H'
def spOpts : Sp := fun vs H Q _ => ∃ (p c : Addr), vs = [.ref p] ∧ LS H p c ∧
  ∀ (t : Addr) (ns : List Int) (H' : Hp), Oc ns → ns.length ≤ 40 → H' t = some (.tup (ns.map V.int)) → LS H' p c → Kp p c H H' → Q (.ref t) H'
theorem Oc.cons {x : Int} {l : List Int} (h0 : 0 ≤ x) (h1 : x ≤ 255) (h : Oc l) : Oc (x :: l) := fun y hy => by
  rcases List.mem_cons.mp hy with rfl | hy
  · exact ⟨h0, h1⟩
  · exact h y hy
theorem Oc.nil : Oc [] := fun y hy => nomatch hy
theorem Oc.app {a b : List Int} (ha : Oc a) (hb : Oc b) : Oc (a ++ b) := fun y hy => by
  rcases List.mem_append.mp hy with hy | hy
  · exact ha y hy
  · exact hb y hy
theorem Oc.mem {x : Int} {l : List Int} (h : Oc l) (hx : x ∈ l) : 0 ≤ x ∧ x ≤ 255 := h x hx
section
variable {P : Program} {w : World} {K : PySem.W.Frag} {mg : Str → Option Value} {base : Heap}
theorem ok_law_record (T : Tx K mg) : FnOk P w K mg base CX0 3 T.ad_law_record T.fd_law_record ["state"] spRec := by
  refine T.d_law_record.F.ok x_law_record (fun vs H Q E h => ?_) (fun cdv A outer s H vs Q E hr h => ?_)
  · obtain ⟨p, c, rfl, _⟩ := h
    rfl
  · obtain ⟨p, c, rfl, hL, q⟩ := h
    have nd := x_law_record.nd
    refine ⟨_, (pss_cons (ps_set (i := 1) nd rfl (Or.inl rfl) (pe_call (ok_law_take T) (hr.mono (by decide)) (by rfl) T.d_law_take.g T.d_law_take.F.kp T.d_law_take.b .nil pass0 (pa_cons (pv 0) (pa_cons pe_int pa_nil))))
        (pss_cons (ps_if (pt_cmpR op_lt (pv 1) pe_int (nomark _)) (pss_one (ps_ret (pe_lst (pa_cons pe_int pa_nil)))) pss_nil)
        (pss_cons (ps_if (pt_cmpR op_eq (pv 1) pe_int (nomark _)) (pss_one (ps_ret (pe_lst (pa_cons (pe_call (ok_law_pick T) hr (by rfl) T.d_law_pick.g T.d_law_pick.F.kp T.d_law_pick.b .nil pass0 (pa_cons (pv 0) (pa_cons (pe_lst (pa_cons pe_int (pa_cons pe_int (pa_cons pe_int (pa_cons pe_int (pa_cons pe_int pa_nil)))))) pa_nil))) pa_nil)))) pss_nil)
        (pss_cons (ps_if (pt_cmpR op_lt (pv 1) pe_int (nomark _)) (pss_one (ps_ret (pe_lst (pa_cons pe_int (pa_cons (pe_call (ok_law_pick T) hr (by rfl) T.d_law_pick.g T.d_law_pick.F.kp T.d_law_pick.b .nil pass0 (pa_cons (pv 0) (pa_cons (pe_lst (pa_cons pe_int (pa_cons pe_int (pa_cons pe_int (pa_cons pe_int (pa_cons pe_int (pa_cons pe_int pa_nil))))))) pa_nil))) (pa_cons (pe_call (ok_law_pick T) hr (by rfl) T.d_law_pick.g T.d_law_pick.F.kp T.d_law_pick.b .nil pass0 (pa_cons (pv 0) (pa_cons (pe_lst (pa_cons pe_int (pa_cons pe_int (pa_cons pe_int (pa_cons pe_int (pa_cons pe_int (pa_cons pe_int (pa_cons pe_int pa_nil)))))))) pa_nil))) pa_nil)))))) pss_nil)
        (pss_cons (ps_if (pt_cmpR op_eq (pv 1) pe_int (nomark _)) (pss_one (ps_ret (pe_lst (pa_cons (pe_call (ok_law_pick T) hr (by rfl) T.d_law_pick.g T.d_law_pick.F.kp T.d_law_pick.b .nil pass0 (pa_cons (pv 0) (pa_cons (pe_lst (pa_cons pe_int (pa_cons pe_int (pa_cons pe_int (pa_cons pe_int pa_nil))))) pa_nil))) (pa_cons (pe_call (ok_law_pick T) hr (by rfl) T.d_law_pick.g T.d_law_pick.F.kp T.d_law_pick.b .nil pass0 (pa_cons (pv 0) (pa_cons (pe_lst (pa_cons pe_int (pa_cons pe_int (pa_cons pe_int (pa_cons pe_int pa_nil))))) pa_nil))) pa_nil))))) pss_nil)
        (pss_cons (ps_set (i := 2) nd rfl (Or.inl rfl) (pe_op op_add pe_int (pe_call (ok_law_take T) (hr.mono (by decide)) (by rfl) T.d_law_take.g T.d_law_take.F.kp T.d_law_take.b .nil pass0 (pa_cons (pv 0) (pa_cons pe_int pa_nil)))))
        (pss_one (ps_ret (pe_op op_cat (pe_lst (pa_cons (pe_call (ok_law_pick T) hr (by rfl) T.d_law_pick.g T.d_law_pick.F.kp T.d_law_pick.b .nil pass0 (pa_cons (pv 0) (pa_cons (pe_lst (pa_cons pe_int (pa_cons pe_int (pa_cons pe_int (pa_cons pe_int (pa_cons pe_int (pa_cons pe_int (pa_cons pe_int pa_nil)))))))) pa_nil))) (pa_cons (pv 2) pa_nil))) (pe_lc (own := [("k", 3)]) (g := gName 3) rfl nd (pi_range1 (by rfl) T.b_range (pa_cons (pe_op op_sub (pv 2) pe_int) pa_nil)) (blkOk_by (own := [("k", 3)]) (N := Ns_law_record) (sc := defScope s_law_record) (by decide +kernel)) (fun _ _ _ _ _ => (pg_name (i := 3) nd rfl (Or.inl rfl))) (fun _ _ _ _ _ => pts_nil) (fun _ _ _ _ _ => (pe_call (ok_law_pick T) hr (by rfl) T.d_law_pick.g T.d_law_pick.F.kp T.d_law_pick.b .nil pass0 (pa_cons (pv 0) (pa_cons (pe_lst (pa_cons pe_int (pa_cons pe_int (pa_cons pe_int (pa_cons pe_int (pa_cons pe_int pa_nil)))))) pa_nil)))))))))))))), ?_⟩
    refine ⟨_, rfl, p, c, 8, rfl, hL, by decide, fun kd H1 kd0 kd1 hL1 k1 => ?_⟩
    have fin : ∀ (ns : List Int) (H2 : Hp) (t : Addr), Oc ns → ns.length ≤ 10 → LS H2 p c → Kp p c H H2 → H2 t = none → Q (.ref t) (upd H2 t (.lst (ns.map V.int))) := fun ns H2 t ho hl hL2 k2 ht =>
      q t ns _ ho hl upd_same (hL2.new ht) (k2.trans (kp_same (same_upd ht)))
    refine ⟨_, rfl, _, _, rfl, rfl, _, rfl, ite2 (fun _ => ?_) (fun _ => ?_)⟩
    · exact ⟨by show 1 ≤ sizeLine; decide, fun t ht => fin [1] H1 t (by unfold Oc; decide) (by decide) hL1 k1 ht⟩
    refine ⟨_, rfl, rfl, _, rfl, ite2 (fun _ => ?_) (fun _ => ?_)⟩
    · refine rd_pick [0, 0, 1, 3, 2] rfl hL1 (by decide) (by decide) fun x H2 hx hL2 k2 => ?_
      have bx := Oc.mem (by unfold Oc; decide : Oc [0, 0, 1, 3, 2]) hx
      exact ⟨by show 1 ≤ sizeLine; decide, fun t ht => fin [x] H2 t (Oc.nil.cons bx.1 bx.2) (by show 1 ≤ 10; decide) hL2 (k1.trans k2) ht⟩
    refine ⟨_, rfl, _, _, rfl, rfl, _, rfl, ite2 (fun _ => ?_) (fun _ => ?_)⟩
    · refine rd_pick [3, 3, 3, 3, 4, 2] rfl hL1 (by decide) (by decide) fun x H2 hx hL2 k2 => ?_
      refine rd_pick [0, 1, 7, 13, 14, 15, 255] rfl hL2 (by decide) (by decide) fun y H3 hy hL3 k3 => ?_
      have bx := Oc.mem (by unfold Oc; decide : Oc [3, 3, 3, 3, 4, 2]) hx
      have b2 := Oc.mem (by unfold Oc; decide : Oc [0, 1, 7, 13, 14, 15, 255]) hy
      exact ⟨by show 3 ≤ sizeLine; decide, fun t ht => fin [3, x, y] H3 t (((Oc.nil.cons b2.1 b2.2).cons bx.1 bx.2).cons (by decide) (by decide)) (by show 3 ≤ 10; decide) hL3 (k1.trans (k2.trans k3)) ht⟩
    refine ⟨_, rfl, rfl, _, rfl, ite2 (fun _ => ?_) (fun _ => ?_)⟩
    · refine rd_pick [2, 3, 8, 254] rfl hL1 (by decide) (by decide) fun x H2 hx hL2 k2 => ?_
      refine rd_pick [0, 1, 41, 255] rfl hL2 (by decide) (by decide) fun y H3 hy hL3 k3 => ?_
      have bx := Oc.mem (by unfold Oc; decide : Oc [2, 3, 8, 254]) hx
      have b2 := Oc.mem (by unfold Oc; decide : Oc [0, 1, 41, 255]) hy
      exact ⟨by show 2 ≤ sizeLine; decide, fun t ht => fin [x, y] H3 t ((Oc.nil.cons b2.1 b2.2).cons bx.1 bx.2) (by show 2 ≤ 10; decide) hL3 (k1.trans (k2.trans k3)) ht⟩
    refine ⟨_, rfl, p, c, 9, rfl, hL1, by decide, fun r H2 r0 r1 hL2 k2 => ⟨_, _, rfl, rfl, ?_⟩⟩
    refine rd_pick [2, 4, 5, 8, 30, 255, 3] rfl hL2 (by decide) (by decide) fun x H3 hx hL3 k3 => ?_
    have bx := Oc.mem (by unfold Oc; decide : Oc [2, 4, 5, 8, 30, 255, 3]) hx
    refine ⟨_, rfl, by show 2 ≤ sizeLine; decide, fun t ht => ?_⟩
    have s4 := same_upd (o := .lst [.int x, .int (2 + r)]) ht
    have g4 := upd_same (H := H3) (a := t) (o := .lst [.int x, .int (2 + r)])
    have hL4 := hL3.same s4
    have k4 : Kp p c H (upd H3 t (.lst [.int x, .int (2 + r)])) := k1.trans (k2.trans (k3.trans (kp_same s4)))
    have tp := hL3.ne1 ht
    have tc := hL3.ne2 ht
    generalize upd H3 t (.lst [.int x, .int (2 + r)]) = H4 at g4 hL4 k4 ⊢
    refine ⟨_, rfl, _, _, rfl, rfl, _, rfl, by omega, by omega, fun D hD => ?_⟩
    refine lc_range (lo := 0) (n := (2 + r - 2).toNat) (fun i H' => LS H' p c ∧ Kp p c H4 H' ∧ ∃ ns : List Int, Oc ns ∧ ns.length = i ∧ H' D = some (.lst (ns.map V.int))) ⟨hL4.new hD, kp_same (same_upd hD), [], Oc.nil, rfl, upd_same⟩ ?_ ?_
    · rintro i H5 hi ⟨hL5, k5, ns, ho, hl, g5⟩
      refine ⟨rfl, ?_⟩
      refine rd_pick [0, 1, 3, 14, 99] rfl hL5 (by decide) (by decide) fun y H6 hy hL6 k6 => ?_
      have b2 := Oc.mem (by unfold Oc; decide : Oc [0, 1, 3, 14, 99]) hy
      have Dp := hL4.ne1 hD
      have Dc := hL4.ne2 hD
      have g6 := k6 D _ g5 Dp Dc
      refine ⟨_, g6, ?_, ?_, ?_, ns ++ [y], ho.app (Oc.nil.cons b2.1 b2.2), ?_, ?_⟩
      · rw [List.length_map]
        exact small1000 (by omega)
      · obtain ⟨k, cs, z1, z2, z3⟩ := hL6
        exact ⟨k, cs, by rw [upd_ne Dp.symm]; exact z1, by rw [upd_ne Dc.symm]; exact z2, z3⟩
      · intro b o e b1 b2
        rw [upd_ne (ne_of_none e hD)]
        exact k6 b o (k5 b o e b1 b2) b1 b2
      · rw [List.length_append, hl]
        rfl
      · rw [upd_same, List.map_append]
        rfl
    · rintro H5 ⟨hL5, k5, ns, ho, hl, g5⟩
      have g4' := k5 t _ g4 tp tc
      refine ⟨t, D, _, _, rfl, rfl, g4', g5, ?_, fun z hz => ?_⟩
      · rw [List.length_map]
        exact Nat.le_trans (m := 1000) (by simp only [List.length_cons, List.length_nil]; omega) (by decide)
      · have := fin (x :: (2 + r) :: ns) H5 z ((ho.cons (by omega) (by omega)).cons bx.1 bx.2) (by simp only [List.length_cons]; omega) hL5 (k4.trans k5) hz
        exact this
theorem ok_law_options (T : Tx K mg) : FnOk P w K mg base CX0 4 T.ad_law_options T.fd_law_options ["state"] spOpts := by
  refine T.d_law_options.F.ok x_law_options (fun vs H Q E h => ?_) (fun cdv A outer s H vs Q E hr h => ?_)
  · obtain ⟨p, c, rfl, _⟩ := h
    rfl
  · obtain ⟨p, c, rfl, hL, q⟩ := h
    have nd := x_law_options.nd
    refine ⟨_, (pss_cons (ps_set (i := 1) nd rfl (Or.inl rfl) (pe_lst pa_nil))
        (pss_cons (ps_for PassesOwn.never rfl (pi_range1 (by rfl) T.b_range (pa_cons (pe_call (ok_law_take T) (hr.mono (by decide)) (by rfl) T.d_law_take.g T.d_law_take.F.kp T.d_law_take.b .nil pass0 (pa_cons (pv 0) (pa_cons pe_int pa_nil))) pa_nil)) (pg_name (i := 2) nd rfl (Or.inl rfl)) (pss_one (ps_set (i := 1) nd rfl (Or.inl rfl) (pe_op op_cat (pv 1) (pe_call (ok_law_record T) hr (by rfl) T.d_law_record.g T.d_law_record.F.kp T.d_law_record.b .nil pass0 (pa_cons (pv 0) pa_nil))))))
        (pss_cons (ps_if (pt_cmpR op_eq (pe_call (ok_law_take T) (hr.mono (by decide)) (by rfl) T.d_law_take.g T.d_law_take.F.kp T.d_law_take.b .nil pass0 (pa_cons (pv 0) (pa_cons pe_int pa_nil))) pe_int (nomark _)) (pss_one (ps_setLc (i := 1) (own := [("k", 2)]) (g := gName 2) rfl nd rfl rfl (sw_true rfl rfl rfl (by decide +kernel)) (pi_range1 (by rfl) T.b_range (pa_cons (pe_call (ok_law_take T) (hr.mono (by decide)) (by rfl) T.d_law_take.g T.d_law_take.F.kp T.d_law_take.b .nil pass0 (pa_cons (pv 0) (pa_cons pe_int pa_nil))) pa_nil)) (blkOk_by (own := [("k", 2)]) (N := Ns_law_options) (sc := defScope s_law_options) (by decide +kernel)) (fun _ _ _ _ _ => (pg_name (i := 2) nd rfl (Or.inl rfl))) (fun _ _ _ _ _ => pts_nil) (fun _ _ _ _ _ => (pe_call (ok_law_pick T) (hr.mono (by decide)) (by rfl) T.d_law_pick.g T.d_law_pick.F.kp T.d_law_pick.b .nil pass0 (pa_cons (pv 0) (pa_cons (pe_lst (pa_cons pe_int (pa_cons pe_int (pa_cons pe_int (pa_cons pe_int (pa_cons pe_int (pa_cons pe_int (pa_cons pe_int pa_nil)))))))) pa_nil)))))) pss_nil)
        (pss_cons (ps_set (i := 1) nd rfl (Or.inl rfl) (pe_slice sl_list (pv 1) po_none (po_some pe_int)))
        (pss_one (ps_ret (pe_callTy call_tuple_of (by rfl) T.b_tuple (by decide +kernel) (pa_cons (pe_slice sl_list (pv 1) po_none (po_some (pe_op op_mul (pe_op op_fdiv (pe_callB call_len_seq (by rfl) T.b_len (by decide +kernel) (pa_cons (pv 1) pa_nil)) pe_int) pe_int))) pa_nil)))))))), ?_⟩
    refine ⟨by show 0 ≤ sizeLine; decide, fun l0 n0 => ?_⟩
    refine ⟨_, rfl, p, c, 12, rfl, hL.new n0, by decide, fun r H1 r0 r1 hL1 k1 => ⟨r, rfl, by omega, by omega, ?_⟩⟩
    have k1' : Kp p c H H1 := (kp_same (same_upd n0)).trans k1
    have g1 := k1 l0 _ upd_same (hL.ne1 n0) (hL.ne2 n0)
    refine for_range (n := r.toNat) (fun i σ H' => ∃ (l : Addr) (v2 : Option V) (ns : List Int), σ = [some (.ref p), some (.ref l), v2] ∧ LS H' p c ∧ Kp p c H H' ∧ H' l = some (.lst (ns.map V.int)) ∧ Oc ns ∧ ns.length ≤ 10 * i ∧ l ≠ p ∧ l ≠ c)
      ⟨l0, none, [], rfl, hL1, k1', g1, Oc.nil, Nat.le_refl _, hL.ne1 n0, hL.ne2 n0⟩ ?_ ?_
    · rintro i σ H2 hi ⟨l, v2, ns, rfl, hL2, k2, g2, ho, hl, lp, lc⟩
      refine ⟨_, rfl, _, rfl, p, c, rfl, hL2, fun t ns2 H3 ho2 hl2 gt hL3 k3 => ?_⟩
      refine ⟨l, t, _, _, rfl, rfl, k3 l _ g2 lp lc, gt, ?_, fun z hz => ?_⟩
      · rw [List.length_map, List.length_map]
        exact Nat.le_trans (m := 1000) (by omega) (by decide)
      · exact ⟨z, _, ns ++ ns2, rfl, hL3.new hz, k2.trans (k3.trans (kp_same (same_upd hz))), by rw [upd_same, List.map_append], ho.app ho2, by rw [List.length_append]; omega, hL3.ne1 hz, hL3.ne2 hz⟩
    · rintro σ H2 ⟨l, v2, ns, rfl, hL2, k2, g2, ho, hl, lp, lc⟩
      refine ⟨_, rfl, p, c, 6, rfl, hL2, by decide, fun r2 H3 _ _ hL3 k3 => ?_⟩
      refine ⟨rfl, _, rfl, ite2 (fun _ => ?g1) (fun _ => ?g2)⟩
      case' g2 =>
        have g3 := k3 l _ g2 lp lc
        have k4 : Kp p c H H3 := k2.trans k3
        have hn : ns.length ≤ 1000 := by omega
      case' g1 =>
        refine ⟨_, rfl, p, c, 41, rfl, hL3, by decide, fun r3 H4 r30 r31 hL4 k4 => ⟨r3, rfl, by omega, by omega, fun D hD => ?_⟩⟩
        refine lc_range (lo := 0) (n := r3.toNat) (fun i H' => LS H' p c ∧ Kp p c H4 H' ∧ ∃ ns : List Int, Oc ns ∧ ns.length = i ∧ H' D = some (.lst (ns.map V.int))) ⟨hL4.new hD, kp_same (same_upd hD), [], Oc.nil, rfl, upd_same⟩ ?_ ?_
        · rintro i H5 hi ⟨hL5, k5, ns, ho, hl, g5⟩
          refine ⟨rfl, ?_⟩
          refine rd_pick [0, 1, 2, 3, 3, 4, 255] rfl hL5 (by decide) (by decide) fun y H6 hy hL6 k6 => ?_
          have b2 := Oc.mem (by unfold Oc; decide : Oc [0, 1, 2, 3, 3, 4, 255]) hy
          have Dp := hL4.ne1 hD
          have Dc := hL4.ne2 hD
          have g6 := k6 D _ g5 Dp Dc
          refine ⟨_, g6, ?_, ?_, ?_, ns ++ [y], ho.app (Oc.nil.cons b2.1 b2.2), ?_, ?_⟩
          · rw [List.length_map]
            exact small1000 (by omega)
          · obtain ⟨k, cs, z1, z2, z3⟩ := hL6
            exact ⟨k, cs, by rw [upd_ne Dp.symm]; exact z1, by rw [upd_ne Dc.symm]; exact z2, z3⟩
          · intro b o e b1 b2
            rw [upd_ne (ne_of_none e hD)]
            exact k6 b o (k5 b o e b1 b2) b1 b2
          · rw [List.length_append, hl]
            rfl
          · rw [upd_same, List.map_append]
            rfl
        rintro H5 ⟨hL5, k5, ns, ho, hl, g3⟩
        have lp := hL4.ne1 hD
        have lc := hL4.ne2 hD
        have k4 : Kp p c H H5 := k2.trans (k3.trans (k4.trans k5))
        have hn : ns.length ≤ 1000 := by omega
        have hL3 := hL5
      all_goals
        refine ⟨_, rfl, 40, rfl, _, _, rfl, SqL.of g3, fun z hz => ?_⟩
        rw [show (40 : Int) = ((40 : Nat) : Int) from rfl, cut_any, ← List.map_take]
        refine ⟨_, rfl, _, rfl, z, _, rfl, .inl (SqL.of upd_same), _, _, rfl, rfl, ⟨by decide, by decide⟩, _, _, rfl, rfl, .inr ⟨by decide, by decide⟩, _, rfl, z, _, rfl, SqL.of upd_same, fun y hy => ?_⟩
        obtain ⟨m, hm⟩ : ∃ m : Nat, ((((ns.take 40).map V.int).length : Int) / 4 * 4) = (m : Int) := ⟨((((ns.take 40).map V.int).length : Int) / 4 * 4).toNat, by omega⟩
        rw [hm, cut_any, ← List.map_take]
        refine ⟨y, _, rfl, .inl ⟨SqL.of upd_same, fun t ht => ?_⟩⟩
        refine q t ((ns.take 40).take m) _ (fun x hx => ho x (List.mem_of_mem_take (List.mem_of_mem_take hx))) ?_ upd_same ?_ ?_
        · rw [List.length_take, List.length_take]
          omega
        · exact hL3.same ((same_upd hz).trans ((same_upd hy).trans (same_upd ht)))
        · exact k4.trans (kp_same ((same_upd hz).trans ((same_upd hy).trans (same_upd ht))))
end
/-- a worked one -/
def Ent (H : Hp) (x : V) : Prop := ∃ (t u : Addr) (os : List Int), x = .ref t ∧ H t = some (.tup [.ref u, SH os]) ∧ H u = some (.tup (os.map V.int)) ∧ os.length ≤ 40
theorem Ent.same {H H' : Hp} {x : V} (h : Ent H x) (s : Same H H') : Ent H' x := by
  obtain ⟨t, u, os, h1, h2, h3, h4⟩ := h
  exact ⟨t, u, os, h1, s _ _ h2, s _ _ h3, h4⟩
theorem ent_mk {H : Hp} {u t : Addr} (os : List Int) (d : V) (hd : SH os = d) (hl : os.length ≤ 40) (hu : H u = none) (ht : upd H u (.tup (os.map V.int)) t = none) :
    Same H (upd (upd H u (.tup (os.map V.int))) t (.tup [.ref u, d])) ∧ Ent (upd (upd H u (.tup (os.map V.int))) t (.tup [.ref u, d])) (.ref t) := by
  have s1 := same_upd (o := .tup (os.map V.int)) hu
  have s2 := same_upd (o := .tup [.ref u, d]) ht
  exact ⟨s1.trans s2, t, u, os, rfl, by rw [upd_same, hd], s2 _ _ upd_same, hl⟩
section
variable {P : Program} {w : World} {K : PySem.W.Frag} {mg : Str → Option Value} {base : Heap}
theorem ok_law (T : Tx K mg) : FnOk P w K mg base CX0 5 T.ad_law T.fd_law ["script"] (spLaw K) := by
  refine T.d_law.F.ok x_law (fun vs H Q E h => ?_) (fun cdv A outer s H vs Q E hr h => ?_)
  · obtain ⟨a, ns, rfl, _⟩ := h
    rfl
  · obtain ⟨a0, ns, rfl, hS, hlen, q⟩ := h
    have nd := x_law.nd
    refine ⟨_, (pss_cons (ps_set (i := 1) nd rfl (Or.inl rfl) (pe_call (ok_law_state T) (hr.mono (by decide)) (by rfl) T.d_law_state.g T.d_law_state.F.kp T.d_law_state.b .nil pass0 (pa_cons (pv 0) pa_nil)))
        (pss_cons (ps_set (i := 2) nd rfl (Or.inl rfl) (pe_lst (pa_cons (pe_tup (pa_cons (pe_tup pa_nil) (pa_cons pe_non pa_nil))) (pa_cons (pe_tup (pa_cons (pe_tup (pa_cons pe_int (pa_cons pe_int (pa_cons pe_int (pa_cons pe_int pa_nil))))) (pa_cons pe_int pa_nil))) (pa_cons (pe_tup (pa_cons (pe_tup (pa_cons pe_int (pa_cons pe_int (pa_cons pe_int (pa_cons pe_int pa_nil))))) (pa_cons pe_non pa_nil))) (pa_cons (pe_tup (pa_cons (pe_tup (pa_cons pe_int (pa_cons pe_int (pa_cons pe_int (pa_cons pe_int pa_nil))))) (pa_cons pe_int pa_nil))) (pa_cons (pe_tup (pa_cons (pe_tup (pa_cons pe_int (pa_cons pe_int (pa_cons pe_int (pa_cons pe_int (pa_cons pe_int (pa_cons pe_int (pa_cons pe_int (pa_cons pe_int pa_nil))))))))) (pa_cons pe_int pa_nil))) (pa_cons (pe_tup (pa_cons (pe_tup (pa_cons pe_int (pa_cons pe_int (pa_cons pe_int (pa_cons pe_int pa_nil))))) (pa_cons pe_int pa_nil))) pa_nil))))))))
        (pss_cons (ps_set (i := 2) nd rfl (Or.inl rfl) (pe_op op_cat (pv 2) (pe_lst (pa_cons (pe_tup (pa_cons (pe_tup (pa_cons pe_int (pa_cons pe_int (pa_cons pe_int (pa_cons pe_int pa_nil))))) (pa_cons pe_non pa_nil))) (pa_cons (pe_tup (pa_cons (pe_tup (pa_cons pe_int (pa_cons pe_int (pa_cons pe_int (pa_cons pe_int (pa_cons pe_int (pa_cons pe_int (pa_cons pe_int (pa_cons pe_int pa_nil))))))))) (pa_cons pe_non pa_nil))) (pa_cons (pe_tup (pa_cons (pe_tup (pa_cons pe_int (pa_cons pe_int (pa_cons pe_int (pa_cons pe_int (pa_cons pe_int (pa_cons pe_int (pa_cons pe_int (pa_cons pe_int pa_nil))))))))) (pa_cons pe_int pa_nil))) pa_nil))))))
        (pss_cons (ps_set (i := 3) nd rfl (Or.inl rfl) (pe_call (ok_law_take T) (hr.mono (by decide)) (by rfl) T.d_law_take.g T.d_law_take.F.kp T.d_law_take.b .nil pass0 (pa_cons (pv 1) (pa_cons (pe_callB call_len_seq (by rfl) T.b_len (by decide +kernel) (pa_cons (pv 2) pa_nil)) pa_nil))))
        (pss_cons (ps_for PassesOwn.never rfl (pi_list (pe_op op_cat (pe_slice sl_list (pv 2) (po_some (pv 3)) po_none) (pe_slice sl_list (pv 2) po_none (po_some (pv 3))))) (pg_tup rfl (pgs_cons (pg_name (i := 4) nd rfl (Or.inl rfl)) (pgs_cons (pg_name (i := 5) nd rfl (Or.inl rfl)) pgs_nil))) (pss_one (ps_if (pt_not (pt_val (pe_call (ok_same T 0) (hr.mono (by decide)) (by rfl) T.d_law_same.g T.d_law_same.F.kp T.d_law_same.b .nil pass0 (pa_cons (pe_call (ok_shift_of T) (hr.mono (by decide)) (by rfl) T.d_shift_of.g T.d_shift_of.F.kp T.d_shift_of.b .nil pass0 (pa_cons (pv 4) pa_nil)) (pa_cons (pv 5) pa_nil))))) (pss_one (ps_ret pe_bl)) pss_nil)))
        (pss_cons (ps_for PassesOwn.never rfl (pi_range1 (by rfl) T.b_range (pa_cons pe_int pa_nil)) (pg_name (i := 6) nd rfl (Or.inl rfl)) (pss_cons (ps_set (i := 4) nd rfl (Or.inl rfl) (pe_call (ok_law_options T) hr (by rfl) T.d_law_options.g T.d_law_options.F.kp T.d_law_options.b .nil pass0 (pa_cons (pv 1) pa_nil)))
        (pss_one (ps_if (pt_not (pt_val (pe_call (ok_same T 0) (hr.mono (by decide)) (by rfl) T.d_law_same.g T.d_law_same.F.kp T.d_law_same.b .nil pass0 (pa_cons (pe_call (ok_shift_of T) (hr.mono (by decide)) (by rfl) T.d_shift_of.g T.d_shift_of.F.kp T.d_shift_of.b .nil pass0 (pa_cons (pv 4) pa_nil)) (pa_cons (pe_call (ok_law_due T) (hr.mono (by decide)) (by rfl) T.d_law_due.g T.d_law_due.F.kp T.d_law_due.b .nil pass0 (pa_cons (pv 4) pa_nil)) pa_nil))))) (pss_one (ps_ret pe_bl)) pss_nil))))
        (pss_one (ps_ret pe_bl)))))))), ?_⟩
    refine ⟨_, rfl, a0, ns, rfl, hS, hlen, fun p c H1 hL1 s1 np nc => ?_⟩
    refine ⟨by show 0 ≤ sizeLine; decide, fun u1 h1 => ⟨by show 2 ≤ sizeLine; decide, fun t1 m1 => ?_⟩⟩
    obtain ⟨z1, e1⟩ := ent_mk [] (.non) (by decide) (by decide) h1 m1
    replace z1 : Same H1 (upd (upd H1 u1 (.tup [])) t1 (.tup [.ref u1, .non])) := z1
    replace e1 : Ent (upd (upd H1 u1 (.tup [])) t1 (.tup [.ref u1, .non])) (.ref t1) := e1
    generalize upd (upd H1 u1 (.tup [])) t1 (.tup [.ref u1, .non]) = G1 at z1 e1 ⊢
    refine ⟨by show 4 ≤ sizeLine; decide, fun u2 h2 => ⟨by show 2 ≤ sizeLine; decide, fun t2 m2 => ?_⟩⟩
    obtain ⟨z2, e2⟩ := ent_mk [3, 3, 7, 0] (.int 7) (by decide) (by decide) h2 m2
    replace z2 : Same G1 (upd (upd G1 u2 (.tup [.int 3, .int 3, .int 7, .int 0])) t2 (.tup [.ref u2, .int 7])) := z2
    replace e2 : Ent (upd (upd G1 u2 (.tup [.int 3, .int 3, .int 7, .int 0])) t2 (.tup [.ref u2, .int 7])) (.ref t2) := e2
    generalize upd (upd G1 u2 (.tup [.int 3, .int 3, .int 7, .int 0])) t2 (.tup [.ref u2, .int 7]) = G2 at z2 e2 ⊢
    refine ⟨by show 4 ≤ sizeLine; decide, fun u3 h3 => ⟨by show 2 ≤ sizeLine; decide, fun t3 m3 => ?_⟩⟩
    obtain ⟨z3, e3⟩ := ent_mk [0, 3, 3, 7] (.non) (by decide) (by decide) h3 m3
    replace z3 : Same G2 (upd (upd G2 u3 (.tup [.int 0, .int 3, .int 3, .int 7])) t3 (.tup [.ref u3, .non])) := z3
    replace e3 : Ent (upd (upd G2 u3 (.tup [.int 0, .int 3, .int 3, .int 7])) t3 (.tup [.ref u3, .non])) (.ref t3) := e3
    generalize upd (upd G2 u3 (.tup [.int 0, .int 3, .int 3, .int 7])) t3 (.tup [.ref u3, .non]) = G3 at z3 e3 ⊢
    refine ⟨by show 4 ≤ sizeLine; decide, fun u4 h4 => ⟨by show 2 ≤ sizeLine; decide, fun t4 m4 => ?_⟩⟩
    obtain ⟨z4, e4⟩ := ent_mk [1, 3, 3, 200] (.int 14) (by decide) (by decide) h4 m4
    replace z4 : Same G3 (upd (upd G3 u4 (.tup [.int 1, .int 3, .int 3, .int 200])) t4 (.tup [.ref u4, .int 14])) := z4
    replace e4 : Ent (upd (upd G3 u4 (.tup [.int 1, .int 3, .int 3, .int 200])) t4 (.tup [.ref u4, .int 14])) (.ref t4) := e4
    generalize upd (upd G3 u4 (.tup [.int 1, .int 3, .int 3, .int 200])) t4 (.tup [.ref u4, .int 14]) = G4 at z4 e4 ⊢
    refine ⟨by show 8 ≤ sizeLine; decide, fun u5 h5 => ⟨by show 2 ≤ sizeLine; decide, fun t5 m5 => ?_⟩⟩
    obtain ⟨z5, e5⟩ := ent_mk [2, 4, 3, 3, 3, 3, 5, 0] (.int 5) (by decide) (by decide) h5 m5
    replace z5 : Same G4 (upd (upd G4 u5 (.tup [.int 2, .int 4, .int 3, .int 3, .int 3, .int 3, .int 5, .int 0])) t5 (.tup [.ref u5, .int 5])) := z5
    replace e5 : Ent (upd (upd G4 u5 (.tup [.int 2, .int 4, .int 3, .int 3, .int 3, .int 3, .int 5, .int 0])) t5 (.tup [.ref u5, .int 5])) (.ref t5) := e5
    generalize upd (upd G4 u5 (.tup [.int 2, .int 4, .int 3, .int 3, .int 3, .int 3, .int 5, .int 0])) t5 (.tup [.ref u5, .int 5]) = G5 at z5 e5 ⊢
    refine ⟨by show 4 ≤ sizeLine; decide, fun u6 h6 => ⟨by show 2 ≤ sizeLine; decide, fun t6 m6 => ?_⟩⟩
    obtain ⟨z6, e6⟩ := ent_mk [3, 3, 0, 0] (.int 0) (by decide) (by decide) h6 m6
    replace z6 : Same G5 (upd (upd G5 u6 (.tup [.int 3, .int 3, .int 0, .int 0])) t6 (.tup [.ref u6, .int 0])) := z6
    replace e6 : Ent (upd (upd G5 u6 (.tup [.int 3, .int 3, .int 0, .int 0])) t6 (.tup [.ref u6, .int 0])) (.ref t6) := e6
    generalize upd (upd G5 u6 (.tup [.int 3, .int 3, .int 0, .int 0])) t6 (.tup [.ref u6, .int 0]) = G6 at z6 e6 ⊢
    refine ⟨by show 6 ≤ sizeLine; decide, fun l1 n1 => ?_⟩
    have hA : ∀ x ∈ [V.ref t1, V.ref t2, V.ref t3, V.ref t4, V.ref t5, V.ref t6], Ent G6 x := by
      intro x hx
      simp only [List.mem_cons, List.not_mem_nil, or_false] at hx
      rcases hx with rfl | rfl | rfl | rfl | rfl | rfl
      · exact e1.same (z2.trans (z3.trans (z4.trans (z5.trans z6))))
      · exact e2.same (z3.trans (z4.trans (z5.trans z6)))
      · exact e3.same (z4.trans (z5.trans z6))
      · exact e4.same (z5.trans z6)
      · exact e5.same z6
      · exact e6
    have hL6 := hL1.same (z1.trans (z2.trans (z3.trans (z4.trans (z5.trans z6)))))
    have zl := same_upd (o := .lst [V.ref t1, V.ref t2, V.ref t3, V.ref t4, V.ref t5, V.ref t6]) n1
    have gl := upd_same (H := G6) (a := l1) (o := .lst [V.ref t1, V.ref t2, V.ref t3, V.ref t4, V.ref t5, V.ref t6])
    have hA' : ∀ x ∈ [V.ref t1, V.ref t2, V.ref t3, V.ref t4, V.ref t5, V.ref t6], Ent (upd G6 l1 (.lst [V.ref t1, V.ref t2, V.ref t3, V.ref t4, V.ref t5, V.ref t6])) x := fun x hx => (hA x hx).same zl
    have hL7 := hL6.same zl
    generalize upd G6 l1 (.lst [V.ref t1, V.ref t2, V.ref t3, V.ref t4, V.ref t5, V.ref t6]) = G7 at gl hA' hL7 ⊢
    have lA : [V.ref t1, V.ref t2, V.ref t3, V.ref t4, V.ref t5, V.ref t6].length = 6 := rfl
    generalize [V.ref t1, V.ref t2, V.ref t3, V.ref t4, V.ref t5, V.ref t6] = A at gl hA' lA ⊢
    refine ⟨_, rfl, ?_⟩
    refine ⟨by show 4 ≤ sizeLine; decide, fun u7 h7 => ⟨by show 2 ≤ sizeLine; decide, fun t7 m7 => ?_⟩⟩
    obtain ⟨z7, e7⟩ := ent_mk [1, 1, 3, 3] (.non) (by decide) (by decide) h7 m7
    replace z7 : Same G7 (upd (upd G7 u7 (.tup [.int 1, .int 1, .int 3, .int 3])) t7 (.tup [.ref u7, .non])) := z7
    replace e7 : Ent (upd (upd G7 u7 (.tup [.int 1, .int 1, .int 3, .int 3])) t7 (.tup [.ref u7, .non])) (.ref t7) := e7
    generalize upd (upd G7 u7 (.tup [.int 1, .int 1, .int 3, .int 3])) t7 (.tup [.ref u7, .non]) = G8 at z7 e7 ⊢
    refine ⟨by show 8 ≤ sizeLine; decide, fun u8 h8 => ⟨by show 2 ≤ sizeLine; decide, fun t8 m8 => ?_⟩⟩
    obtain ⟨z8, e8⟩ := ent_mk [2, 1, 3, 3, 4, 0, 0, 0] (.non) (by decide) (by decide) h8 m8
    replace z8 : Same G8 (upd (upd G8 u8 (.tup [.int 2, .int 1, .int 3, .int 3, .int 4, .int 0, .int 0, .int 0])) t8 (.tup [.ref u8, .non])) := z8
    replace e8 : Ent (upd (upd G8 u8 (.tup [.int 2, .int 1, .int 3, .int 3, .int 4, .int 0, .int 0, .int 0])) t8 (.tup [.ref u8, .non])) (.ref t8) := e8
    generalize upd (upd G8 u8 (.tup [.int 2, .int 1, .int 3, .int 3, .int 4, .int 0, .int 0, .int 0])) t8 (.tup [.ref u8, .non]) = G9 at z8 e8 ⊢
    refine ⟨by show 8 ≤ sizeLine; decide, fun u9 h9 => ⟨by show 2 ≤ sizeLine; decide, fun t9 m9 => ?_⟩⟩
    obtain ⟨z9, e9⟩ := ent_mk [3, 4, 9, 9, 3, 3, 2, 1] (.int 2) (by decide) (by decide) h9 m9
    replace z9 : Same G9 (upd (upd G9 u9 (.tup [.int 3, .int 4, .int 9, .int 9, .int 3, .int 3, .int 2, .int 1])) t9 (.tup [.ref u9, .int 2])) := z9
    replace e9 : Ent (upd (upd G9 u9 (.tup [.int 3, .int 4, .int 9, .int 9, .int 3, .int 3, .int 2, .int 1])) t9 (.tup [.ref u9, .int 2])) (.ref t9) := e9
    generalize upd (upd G9 u9 (.tup [.int 3, .int 4, .int 9, .int 9, .int 3, .int 3, .int 2, .int 1])) t9 (.tup [.ref u9, .int 2]) = Ga at z9 e9 ⊢
    refine ⟨by show 3 ≤ sizeLine; decide, fun l2 n2 => ?_⟩
    have y2 := same_upd (o := .lst [V.ref t7, V.ref t8, V.ref t9]) n2
    refine ⟨l1, l2, A, _, rfl, rfl, y2 _ _ (z9 _ _ (z8 _ _ (z7 _ _ gl))), upd_same, ?_, fun l3 n3 => ?_⟩
    · rw [lA]
      exact (by decide : 6 + 3 ≤ sizeLine)
    have y3 := same_upd (o := .lst (A ++ [V.ref t7, V.ref t8, V.ref t9])) n3
    have hB : ∀ x ∈ A ++ [V.ref t7, V.ref t8, V.ref t9], Ent (upd (upd Ga l2 (.lst [V.ref t7, V.ref t8, V.ref t9])) l3 (.lst (A ++ [V.ref t7, V.ref t8, V.ref t9]))) x := by
      intro x hx
      rcases List.mem_append.mp hx with hx | hx
      · exact (hA' x hx).same (z7.trans (z8.trans (z9.trans (y2.trans y3))))
      · simp only [List.mem_cons, List.not_mem_nil, or_false] at hx
        rcases hx with rfl | rfl | rfl
        · exact e7.same (z8.trans (z9.trans (y2.trans y3)))
        · exact e8.same (z9.trans (y2.trans y3))
        · exact e9.same (y2.trans y3)
    have lB : (A ++ [V.ref t7, V.ref t8, V.ref t9]).length = 9 := by rw [List.length_append, lA]; rfl
    have gB := upd_same (H := upd Ga l2 (.lst [V.ref t7, V.ref t8, V.ref t9])) (a := l3) (o := .lst (A ++ [V.ref t7, V.ref t8, V.ref t9]))
    have hL8 := hL7.same (z7.trans (z8.trans (z9.trans y2)))
    have l3p := hL8.ne1 n3
    have l3c := hL8.ne2 n3
    replace hL8 := hL8.same y3
    generalize upd (upd Ga l2 (.lst [V.ref t7, V.ref t8, V.ref t9])) l3 (.lst (A ++ [V.ref t7, V.ref t8, V.ref t9])) = Gb at hB gB hL8 ⊢
    generalize A ++ [V.ref t7, V.ref t8, V.ref t9] = B at hB lB gB ⊢
    refine ⟨_, rfl, _, rfl, l3, _, rfl, .inl (SqL.of gB), p, c, _, rfl, hL8, (by rw [lB]; decide), fun r Gc r0 r1 hLc kc => ?_⟩
    have gC := kc l3 _ gB l3p l3c
    obtain ⟨j, ej, hj⟩ : ∃ j : Nat, r = (j : Int) ∧ j ≤ B.length := ⟨r.toNat, by omega, by rw [lB] at r1 ⊢; omega⟩
    subst ej
    refine ⟨_, rfl, _, rfl, _, rfl, l3, _, rfl, SqL.of gC, fun y1 m1 => ?_⟩
    rw [cut_hi _ _ hj]
    have v1 := same_upd (o := .lst (B.drop j)) m1
    refine ⟨_, rfl, _, rfl, _, rfl, l3, _, rfl, SqL.of (v1 _ _ gC), fun y2 m2 => ?_⟩
    rw [cut_lo _ _ hj]
    have v2 := same_upd (o := .lst (B.take j)) m2
    refine ⟨y1, y2, _, _, rfl, rfl, v2 _ _ upd_same, upd_same, ?_, fun y3 m3 => ?_⟩
    · exact Nat.le_trans (m := 1000) (by rw [List.length_drop, List.length_take]; omega) (by decide)
    have v3 := same_upd (o := .lst (B.drop j ++ B.take j)) m3
    have g3 := upd_same (H := upd (upd Gc y1 (.lst (B.drop j))) y2 (.lst (B.take j))) (a := y3) (o := .lst (B.drop j ++ B.take j))
    have hLd := hLc.same (v1.trans (v2.trans v3))
    have hC : ∀ x ∈ B.drop j ++ B.take j, Ent (upd (upd (upd Gc y1 (.lst (B.drop j))) y2 (.lst (B.take j))) y3 (.lst (B.drop j ++ B.take j))) x := by
      intro x hx
      have hxB : x ∈ B := by
        rcases List.mem_append.mp hx with hx | hx
        · exact List.mem_of_mem_drop hx
        · exact List.mem_of_mem_take hx
      obtain ⟨t, u, os, w1, w2, w3, w4⟩ := hB x hxB
      have tne : t ≠ p ∧ t ≠ c := by
        obtain ⟨k, cs, q1, q2, q3⟩ := hL8
        refine ⟨ne_of w2 q1 (by intro z; cases z), ne_of w2 q2 (by intro z; cases z)⟩
      have une : u ≠ p ∧ u ≠ c := by
        obtain ⟨k, cs, q1, q2, q3⟩ := hL8
        refine ⟨ne_of w3 q1 (by intro z; cases z), ne_of w3 q2 (by intro z; cases z)⟩
      exact Ent.same ⟨t, u, os, w1, kc t _ w2 tne.1 tne.2, kc u _ w3 une.1 une.2, w4⟩ (v1.trans (v2.trans v3))
    generalize upd (upd (upd Gc y1 (.lst (B.drop j))) y2 (.lst (B.take j))) y3 (.lst (B.drop j ++ B.take j)) = Gd at hC g3 hLd ⊢
    generalize B.drop j ++ B.take j = F at hC g3 ⊢
    refine ⟨y3, rfl, ⟨_, SqL.of g3⟩, for_list (K := K) (a := y3) (xs := F) (fun i σ H' => ∃ v4 v5 : Option V, σ = [some (.ref a0), some (.ref p), some (.ref l3), some (.int (j : Int)), v4, v5, none] ∧ Same Gd H')
      ⟨_, _, rfl, Same.refl Gd⟩ (fun i σ H' _ ⟨_, _, _, z⟩ => SqL.of (z _ _ g3)) ?_ ?_⟩
    · rintro i x σ H' hx ⟨v4, v5, rfl, sd⟩
      obtain ⟨t, u, os, rfl, w2, w3, w4⟩ := (hC x (List.mem_of_getElem? hx)).same sd
      refine ⟨t, _, rfl, SqT.of w2, rfl, _, _, rfl, _, _, rfl, rfl, ?_⟩
      exact ⟨_, rfl, u, os, rfl, SqT.of w3, by omega, _, rfl, _, _, rfl, Sm.flat (SH_flat os), fun H2 s2 => ⟨_, rfl, ⟨_, _, rfl, sd.trans s2⟩⟩⟩
    · rintro σ H' ⟨v4, v5, rfl, sd⟩
      refine ⟨20, rfl, by decide, by decide, for_range (n := 20) (fun i σ H' => ∃ v4 v6 : Option V, σ = [some (.ref a0), some (.ref p), some (.ref l3), some (.int (j : Int)), v4, v5, v6] ∧ LS H' p c)
        ⟨_, _, rfl, hLd.same sd⟩ ?_ ?_⟩
      · rintro i σ H2 hi ⟨v4, v6, rfl, hL2⟩
        refine ⟨_, rfl, p, c, rfl, hL2, fun t os H3 ho hl gt hL3 k3 => ?_⟩
        refine ⟨_, rfl, t, os, rfl, SqT.of gt, by omega, _, rfl, t, os, rfl, SqT.of gt, hl, _, _, rfl, Sm.flat (SH_flat os), fun H4 s4 => ⟨_, rfl, ⟨_, _, rfl, hL3.same s4⟩⟩⟩
      · rintro σ H2 ⟨v4, v6, rfl, hL2⟩
        exact q _
end
theorem all_mk {l : PySem.W.OpenLaw} {w : World} {K : PySem.W.Frag} {h : Heap} {mg : Str → Option Value} {fa f0 f1 f2 f3 f4 f5 f6 f7 f8 f9 : Addr} (X : K.In h) (G : h.Ns mainGlobals mg) (hfa : mg "law" = some (.ref fa))
    {od0 an0 od1 an1 od2 an2 od3 an3 od4 an4 od5 an5 od6 an6 od7 an7 od8 an8 od9 an9 : Option Addr} {sl0 sl1 sl2 sl3 sl4 sl5 sl6 sl7 sl8 sl9 : Array (Option Value)} {oc0 kV0 dc0 pm0 cd0 ct0 oc1 kV1 dc1 pm1 cd1 ct1 oc2 kV2 dc2 pm2 cd2 ct2 oc3 kV3 dc3 pm3 cd3 ct3 oc4 kV4 dc4 pm4 cd4 ct4 oc5 kV5 dc5 pm5 cd5 ct5 oc6 kV6 dc6 pm6 cd6 ct6 oc7 kV7 dc7 pm7 cd7 ct7 oc8 kV8 dc8 pm8 cd8 ct8 oc9 kV9 dc9 pm9 cd9 ct9 : Value} 
    (a0 : PySem.W.nsIn K mainGlobals "shift_of" = some (some (.ref f0))) (l0 : K.lookup f0 = some ⟨oc0, od0, .func (PySem.W.fnOf "shift_of" "shift_of" (defArgs s_shift_of) (defBody s_shift_of) (defScope s_shift_of) .none kV0 dc0 pm0 an0 cd0 ct0), sl0⟩) (c0 : PySem.W.codeIn K cd0 "shift_of" = true) (k0 : PySem.W.keepIn K (.ref f0) = true)
    (a1 : PySem.W.nsIn K mainGlobals "_length_at" = some (some (.ref f1))) (l1 : K.lookup f1 = some ⟨oc1, od1, .func (PySem.W.fnOf "_length_at" "_length_at" (defArgs s_length_at) (defBody s_length_at) (defScope s_length_at) .none kV1 dc1 pm1 an1 cd1 ct1), sl1⟩) (c1 : PySem.W.codeIn K cd1 "_length_at" = true) (k1 : PySem.W.keepIn K (.ref f1) = true)
    (a2 : PySem.W.nsIn K mainGlobals "_law_state" = some (some (.ref f2))) (l2 : K.lookup f2 = some ⟨oc2, od2, .func (PySem.W.fnOf "_law_state" "_law_state" (defArgs s_law_state) (defBody s_law_state) (defScope s_law_state) .none kV2 dc2 pm2 an2 cd2 ct2), sl2⟩) (c2 : PySem.W.codeIn K cd2 "_law_state" = true) (k2 : PySem.W.keepIn K (.ref f2) = true)
    (a3 : PySem.W.nsIn K mainGlobals "_law_take" = some (some (.ref f3))) (l3 : K.lookup f3 = some ⟨oc3, od3, .func (PySem.W.fnOf "_law_take" "_law_take" (defArgs s_law_take) (defBody s_law_take) (defScope s_law_take) .none kV3 dc3 pm3 an3 cd3 ct3), sl3⟩) (c3 : PySem.W.codeIn K cd3 "_law_take" = true) (k3 : PySem.W.keepIn K (.ref f3) = true)
    (a4 : PySem.W.nsIn K mainGlobals "_law_pick" = some (some (.ref f4))) (l4 : K.lookup f4 = some ⟨oc4, od4, .func (PySem.W.fnOf "_law_pick" "_law_pick" (defArgs s_law_pick) (defBody s_law_pick) (defScope s_law_pick) .none kV4 dc4 pm4 an4 cd4 ct4), sl4⟩) (c4 : PySem.W.codeIn K cd4 "_law_pick" = true) (k4 : PySem.W.keepIn K (.ref f4) = true)
    (a5 : PySem.W.nsIn K mainGlobals "_law_same" = some (some (.ref f5))) (l5 : K.lookup f5 = some ⟨oc5, od5, .func (PySem.W.fnOf "_law_same" "_law_same" (defArgs s_law_same) (defBody s_law_same) (defScope s_law_same) .none kV5 dc5 pm5 an5 cd5 ct5), sl5⟩) (c5 : PySem.W.codeIn K cd5 "_law_same" = true) (k5 : PySem.W.keepIn K (.ref f5) = true)
    (a6 : PySem.W.nsIn K mainGlobals "_law_record" = some (some (.ref f6))) (l6 : K.lookup f6 = some ⟨oc6, od6, .func (PySem.W.fnOf "_law_record" "_law_record" (defArgs s_law_record) (defBody s_law_record) (defScope s_law_record) .none kV6 dc6 pm6 an6 cd6 ct6), sl6⟩) (c6 : PySem.W.codeIn K cd6 "_law_record" = true) (k6 : PySem.W.keepIn K (.ref f6) = true)
    (a7 : PySem.W.nsIn K mainGlobals "_law_options" = some (some (.ref f7))) (l7 : K.lookup f7 = some ⟨oc7, od7, .func (PySem.W.fnOf "_law_options" "_law_options" (defArgs s_law_options) (defBody s_law_options) (defScope s_law_options) .none kV7 dc7 pm7 an7 cd7 ct7), sl7⟩) (c7 : PySem.W.codeIn K cd7 "_law_options" = true) (k7 : PySem.W.keepIn K (.ref f7) = true)
    (a8 : PySem.W.nsIn K mainGlobals "_law_due" = some (some (.ref f8))) (l8 : K.lookup f8 = some ⟨oc8, od8, .func (PySem.W.fnOf "_law_due" "_law_due" (defArgs s_law_due) (defBody s_law_due) (defScope s_law_due) .none kV8 dc8 pm8 an8 cd8 ct8), sl8⟩) (c8 : PySem.W.codeIn K cd8 "_law_due" = true) (k8 : PySem.W.keepIn K (.ref f8) = true)
    (a9 : PySem.W.nsIn K mainGlobals "law" = some (some (.ref f9))) (l9 : K.lookup f9 = some ⟨oc9, od9, .func (PySem.W.fnOf "law" "law" (defArgs s_law) (defBody s_law) (defScope s_law) .none kV9 dc9 pm9 an9 cd9 ct9), sl9⟩) (c9 : PySem.W.codeIn K cd9 "law" = true) (k9 : PySem.W.keepIn K (.ref f9) = true)
    (z_len : PySem.W.nsIn K mainGlobals "len" = some none)
    (z_min : PySem.W.nsIn K mainGlobals "min" = some none)
    (z_abs : PySem.W.nsIn K mainGlobals "abs" = some none)
    (z_int : PySem.W.nsIn K mainGlobals "int" = some none)
    (z_isinstance : PySem.W.nsIn K mainGlobals "isinstance" = some none)
    (z_dict : PySem.W.nsIn K mainGlobals "dict" = some none)
    (z_all : PySem.W.nsIn K mainGlobals "all" = some none)
    (z_bool : PySem.W.nsIn K mainGlobals "bool" = some none)
    (z_str : PySem.W.nsIn K mainGlobals "str" = some none)
    (z_tuple : PySem.W.nsIn K mainGlobals "tuple" = some none)
    (z_list : PySem.W.nsIn K mainGlobals "list" = some none)
    (z_range : PySem.W.nsIn K mainGlobals "range" = some none)
    : ∃ fd : FuncData, (∀ (s : Shared) (v : Value), BindsTo s fd ⟨[v], []⟩ [("script", v)]) ∧ ∀ base : Heap, K.In base → base.Ns mainGlobals mg → FnOk l.prog w K mg base CX0 5 fa fd ["script"] (spLaw K) := by
  have e := hfa.symm.trans (PySem.W.mg_of X G a9)
  cases e
  have F0 := fun_mk (st := s_shift_of) l0 c0 k0
  have b0 := F0.binds (ps := ["options"]) fun _ _ _ _ _ _ us hl => match us, hl with | [_], _ => rfl
  have F1 := fun_mk (st := s_length_at) l1 c1 k1
  have b1 := F1.binds (ps := ["options", "at"]) fun _ _ _ _ _ _ us hl => match us, hl with | [_, _], _ => rfl
  have F2 := fun_mk (st := s_law_state) l2 c2 k2
  have b2 := F2.binds (ps := ["script"]) fun _ _ _ _ _ _ us hl => match us, hl with | [_], _ => rfl
  have F3 := fun_mk (st := s_law_take) l3 c3 k3
  have b3 := F3.binds (ps := ["state", "most"]) fun _ _ _ _ _ _ us hl => match us, hl with | [_, _], _ => rfl
  have F4 := fun_mk (st := s_law_pick) l4 c4 k4
  have b4 := F4.binds (ps := ["state", "row"]) fun _ _ _ _ _ _ us hl => match us, hl with | [_, _], _ => rfl
  have F5 := fun_mk (st := s_law_same) l5 c5 k5
  have b5 := F5.binds (ps := ["told", "due"]) fun _ _ _ _ _ _ us hl => match us, hl with | [_, _], _ => rfl
  have F6 := fun_mk (st := s_law_record) l6 c6 k6
  have b6 := F6.binds (ps := ["state"]) fun _ _ _ _ _ _ us hl => match us, hl with | [_], _ => rfl
  have F7 := fun_mk (st := s_law_options) l7 c7 k7
  have b7 := F7.binds (ps := ["state"]) fun _ _ _ _ _ _ us hl => match us, hl with | [_], _ => rfl
  have F8 := fun_mk (st := s_law_due) l8 c8 k8
  have b8 := F8.binds (ps := ["options"]) fun _ _ _ _ _ _ us hl => match us, hl with | [_], _ => rfl
  have F9 := fun_mk (st := s_law) l9 c9 k9
  have b9 := F9.binds (ps := ["script"]) fun _ _ _ _ _ _ us hl => match us, hl with | [_], _ => rfl
  let T : Tx K mg := { ad_shift_of := _, fd_shift_of := _, d_shift_of := ⟨F0, b0, PySem.W.mg_of X G a0⟩, ad_length_at := _, fd_length_at := _, d_length_at := ⟨F1, b1, PySem.W.mg_of X G a1⟩, ad_law_state := _, fd_law_state := _, d_law_state := ⟨F2, b2, PySem.W.mg_of X G a2⟩, ad_law_take := _, fd_law_take := _, d_law_take := ⟨F3, b3, PySem.W.mg_of X G a3⟩, ad_law_pick := _, fd_law_pick := _, d_law_pick := ⟨F4, b4, PySem.W.mg_of X G a4⟩, ad_law_same := _, fd_law_same := _, d_law_same := ⟨F5, b5, PySem.W.mg_of X G a5⟩, ad_law_record := _, fd_law_record := _, d_law_record := ⟨F6, b6, PySem.W.mg_of X G a6⟩, ad_law_options := _, fd_law_options := _, d_law_options := ⟨F7, b7, PySem.W.mg_of X G a7⟩, ad_law_due := _, fd_law_due := _, d_law_due := ⟨F8, b8, PySem.W.mg_of X G a8⟩, ad_law := _, fd_law := _, d_law := ⟨F9, b9, PySem.W.mg_of X G a9⟩, b_len := PySem.W.mg_none_of X G z_len, b_min := PySem.W.mg_none_of X G z_min, b_abs := PySem.W.mg_none_of X G z_abs, b_int := PySem.W.mg_none_of X G z_int, b_isinstance := PySem.W.mg_none_of X G z_isinstance, b_dict := PySem.W.mg_none_of X G z_dict, b_all := PySem.W.mg_none_of X G z_all, b_bool := PySem.W.mg_none_of X G z_bool, b_str := PySem.W.mg_none_of X G z_str, b_tuple := PySem.W.mg_none_of X G z_tuple, b_list := PySem.W.mg_none_of X G z_list, b_range := PySem.W.mg_none_of X G z_range }
  exact ⟨T.fd_law, fun s v => .of_eq rfl, fun base _ _ => ok_law T⟩
theorem walk {l : PySem.W.OpenLaw} {q : Program} {loose : List Str} {XP : (Str → Option Value) → Heap → Prop} {YP : World → Heap → Prop} {d : DefRec} {K : Params → PySem.W.Frag} (hn : l.most = some 63) (hdf : d.params.defaults = [])
    (hY : ∀ (w : World) (h : Heap), YP w h → (K w.params).In h)
    (F : ∀ (w : World) (mg : Str → Option Value) (fa : Addr) (h : Heap), (K w.params).In h → h.Ns mainGlobals mg → mg d.name = some (.ref fa) →
      ∃ fd : FuncData, (∀ (s : Shared) (u : Value), BindsTo s fd ⟨[u], []⟩ [("script", u)]) ∧ ∀ base : Heap, (K w.params).In base → base.Ns mainGlobals mg → FnOk l.prog w (K w.params) mg base CX0 5 fa fd ["script"] (spLaw (K w.params))) :
    PySem.W.WalkO q loose XP YP l.row.toRowW d [] (fun f vs => PySem.call f vs) :=
  L2.walk_of (n := 63) (k := 5) (x := "script") (CX := fun _ => CX0) (sp := fun w => spLaw (K w.params)) hn (by decide) hdf ⟨rfl, by decide, by decide⟩ hY F (fun _ _ a ns hl _ hS => ⟨a, ns, rfl, hS, hl, fun _ => rfl⟩) fun _ _ _ _ _ z => z
end Toy
open PySem PySem.W PyProof.Rows
set_option maxRecDepth 100000 in
set_option maxHeartbeats 0 in
theorem PySem.Challenge.cw_onepolicy_k14_shifts_of_options_holds : PySem.Challenge.rw_onepolicy_k14_shifts_of_options.Holds := by
  w_on; o_law; k_head; (case hw => w_witness2)
  k_fill
  refine Toy.walk (l := PySem.Challenge.rw_onepolicy_k14_shifts_of_options) rfl rfl (fun w h Y => PySem.W.kIn_of Y) ?F
  case F =>
    intro w mg fa h KX G hmg
    refine' Toy.all_mk KX G hmg ?a0 ?l0 ?c0 ?k0 ?a1 ?l1 ?c1 ?k1 ?a2 ?l2 ?c2 ?k2 ?a3 ?l3 ?c3 ?k3 ?a4 ?l4 ?c4 ?k4 ?a5 ?l5 ?c5 ?k5 ?a6 ?l6 ?c6 ?k6 ?a7 ?l7 ?c7 ?k7 ?a8 ?l8 ?c8 ?k8 ?a9 ?l9 ?c9 ?k9 ?z_len ?z_min ?z_abs ?z_int ?z_isinstance ?z_dict ?z_all ?z_bool ?z_str ?z_tuple ?z_list ?z_range
    (case a0 => k_is)
    (case l0 => k_is)
    (case c0 => k_is)
    (case k0 => k_is)
    (case a1 => k_is)
    (case l1 => k_is)
    (case c1 => k_is)
    (case k1 => k_is)
    (case a2 => k_is)
    (case l2 => k_is)
    (case c2 => k_is)
    (case k2 => k_is)
    (case a3 => k_is)
    (case l3 => k_is)
    (case c3 => k_is)
    (case k3 => k_is)
    (case a4 => k_is)
    (case l4 => k_is)
    (case c4 => k_is)
    (case k4 => k_is)
    (case a5 => k_is)
    (case l5 => k_is)
    (case c5 => k_is)
    (case k5 => k_is)
    (case a6 => k_is)
    (case l6 => k_is)
    (case c6 => k_is)
    (case k6 => k_is)
    (case a7 => k_is)
    (case l7 => k_is)
    (case c7 => k_is)
    (case k7 => k_is)
    (case a8 => k_is)
    (case l8 => k_is)
    (case c8 => k_is)
    (case k8 => k_is)
    (case a9 => k_is)
    (case l9 => k_is)
    (case c9 => k_is)
    (case k9 => k_is)
    (case z_len => k_is)
    (case z_min => k_is)
    (case z_abs => k_is)
    (case z_int => k_is)
    (case z_isinstance => k_is)
    (case z_dict => k_is)
    (case z_all => k_is)
    (case z_bool => k_is)
    (case z_str => k_is)
    (case z_tuple => k_is)
    (case z_list => k_is)
    (case z_range => k_is)
