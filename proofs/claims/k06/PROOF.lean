import PyProof.Rows.All
import Wide.All
import OpenK.AllK
import Wide.FinOn
import HandS.Base
import HandS.Call
import HandS.List
import HandS.Comp
import HandS.Ends
import HandS.Words
import HandS.WordsList
import HandS.IsInst
import HandS.TupMul
import HandS.Set
import HandS.SetFor
import HandS.Strs
import PySem.Challenge.RW_onepolicy_k06_sums_that_are_moved
set_option Elab.async false
set_option linter.all false
set_option maxRecDepth 100000
set_option maxHeartbeats 4000000
namespace Toy
open PySem PySem.Spec PyProof.Rows L2
def topS (i : Nat) : Stmt := PySem.Challenge.pw_onepolicy_k06_sums_that_are_moved.main.body.getD i (.Pass ⟨0, 0, 0, 0⟩)
abbrev s_moved_sum : Stmt := topS 1
abbrev Ns_moved_sum : List Str := ["number", "olds", "news", "rest"]
theorem x_moved_sum : FnScope Ns_moved_sum ["number", "olds", "news"] (defScope s_moved_sum) := ⟨rfl, rfl, rfl, by decide +kernel, rfl, by decide +kernel, by decide +kernel⟩
abbrev s_law_state : Stmt := topS 3
abbrev Ns_law_state : List Str := ["script", "cells", "cell"]
theorem x_law_state : FnScope Ns_law_state ["script"] (defScope s_law_state) := ⟨rfl, rfl, rfl, by decide +kernel, rfl, by decide +kernel, by decide +kernel⟩
abbrev s_law_take : Stmt := topS 4
abbrev Ns_law_take : List Str := ["state", "most", "cells", "at", "cell", "mixed"]
theorem x_law_take : FnScope Ns_law_take ["state", "most"] (defScope s_law_take) := ⟨rfl, rfl, rfl, by decide +kernel, rfl, by decide +kernel, by decide +kernel⟩
abbrev s_law_same : Stmt := topS 5
abbrev Ns_law_same : List Str := ["told", "due", "key", "k"]
theorem x_law_same : FnScope Ns_law_same ["told", "due"] (defScope s_law_same) := ⟨rfl, rfl, rfl, by decide +kernel, rfl, by decide +kernel, by decide +kernel⟩
abbrev s_law_two : Stmt := topS 6
abbrev Ns_law_two : List Str := ["number"]
theorem x_law_two : FnScope Ns_law_two ["number"] (defScope s_law_two) := ⟨rfl, rfl, rfl, by decide +kernel, rfl, by decide +kernel, by decide +kernel⟩
abbrev s_law_sum : Stmt := topS 7
abbrev Ns_law_sum : List Str := ["octets", "total", "k", "turn"]
theorem x_law_sum : FnScope Ns_law_sum ["octets"] (defScope s_law_sum) := ⟨rfl, rfl, rfl, by decide +kernel, rfl, by decide +kernel, by decide +kernel⟩
abbrev s_law_number : Stmt := topS 8
abbrev Ns_law_number : List Str := ["state", "low", "high", "kind", "span"]
theorem x_law_number : FnScope Ns_law_number ["state", "low", "high"] (defScope s_law_number) := ⟨rfl, rfl, rfl, by decide +kernel, rfl, by decide +kernel, by decide +kernel⟩
abbrev s_law_octets_of : Stmt := topS 9
abbrev Ns_law_octets_of : List Str := ["pairs", "found", "pair"]
theorem x_law_octets_of : FnScope Ns_law_octets_of ["pairs"] (defScope s_law_octets_of) := ⟨rfl, rfl, rfl, by decide +kernel, rfl, by decide +kernel, by decide +kernel⟩
abbrev s_law : Stmt := topS 10
abbrev Ns_law : List Str := ["script", "state", "turn", "pairs", "news", "places", "place", "before", "behind", "given", "told", "number", "k", "pair"]
theorem x_law : FnScope Ns_law ["script"] (defScope s_law) := ⟨rfl, rfl, rfl, by decide +kernel, rfl, by decide +kernel, by decide +kernel⟩
/-- what the top has written -/
structure Df (K : PySem.W.Frag) (mg : Str → Option Value) (x : Str) (st : Stmt) (ps : List Str) (a : Addr) (fd : FuncData) : Prop where
  F : Fun K x x st a fd
  b : Binds K fd ps []
  g : mg x = some (.ref a)
structure Tx (K : PySem.W.Frag) (mg : Str → Option Value) where
  ad_moved_sum : Addr
  fd_moved_sum : FuncData
  d_moved_sum : Df K mg "moved_sum" s_moved_sum ["number", "olds", "news"] ad_moved_sum fd_moved_sum
  ad_law_state : Addr
  fd_law_state : FuncData
  d_law_state : Df K mg "_law_state" s_law_state ["script"] ad_law_state fd_law_state
  ad_law_take : Addr
  fd_law_take : FuncData
  d_law_take : Df K mg "_law_take" s_law_take ["state", "most"] ad_law_take fd_law_take
  ad_law_same : Addr
  fd_law_same : FuncData
  d_law_same : Df K mg "_law_same" s_law_same ["told", "due"] ad_law_same fd_law_same
  ad_law_two : Addr
  fd_law_two : FuncData
  d_law_two : Df K mg "_law_two" s_law_two ["number"] ad_law_two fd_law_two
  ad_law_sum : Addr
  fd_law_sum : FuncData
  d_law_sum : Df K mg "_law_sum" s_law_sum ["octets"] ad_law_sum fd_law_sum
  ad_law_number : Addr
  fd_law_number : FuncData
  d_law_number : Df K mg "_law_number" s_law_number ["state", "low", "high"] ad_law_number fd_law_number
  ad_law_octets_of : Addr
  fd_law_octets_of : FuncData
  d_law_octets_of : Df K mg "_law_octets_of" s_law_octets_of ["pairs"] ad_law_octets_of fd_law_octets_of
  ad_law : Addr
  fd_law : FuncData
  d_law : Df K mg "law" s_law ["script"] ad_law fd_law
  b_sum : mg "sum" = none
  b_abs : mg "abs" = none
  b_len : mg "len" = none
  b_int : mg "int" = none
  b_isinstance : mg "isinstance" = none
  b_dict : mg "dict" = none
  b_all : mg "all" = none
  b_bool : mg "bool" = none
  b_str : mg "str" = none
  b_tuple : mg "tuple" = none
  b_list : mg "list" = none
  b_range : mg "range" = none
  b_min : mg "min" = none
  b_max : mg "max" = none
  b_sorted : mg "sorted" = none
  b_set : mg "set" = none
abbrev rLenS (K : PySem.W.Frag) : List V → Hp → VK → Prop := fun xs H Q => ∃ p ys, xs = [.ref p] ∧ (SqL K H p ys ∨ SqT K H p ys) ∧ Q (.int ys.length) H
/-- the state of the law's own draws stands at p, its numbers at c -/
def LS (H : Hp) (p c : Addr) : Prop := ∃ (k : Int) (ns : List Int), H p = some (.lst [.int k, .ref c]) ∧ H c = some (.lst (ns.map V.int)) ∧ ns ≠ []
/-- all else stays as it stands -/
def Kp (p c : Addr) (H H' : Hp) : Prop := ∀ b o, H b = some o → b ≠ p → b ≠ c → H' b = some o
theorem Kp.refl (p c : Addr) (H : Hp) : Kp p c H H := fun _ _ h _ _ => h
theorem Kp.trans {p c : Addr} {H H1 H2 : Hp} (a : Kp p c H H1) (b : Kp p c H1 H2) : Kp p c H H2 := fun q o h h1 h2 => b q o (a q o h h1 h2) h1 h2
theorem LS.ne {H : Hp} {p c : Addr} (h : LS H p c) : p ≠ c := by
  obtain ⟨k, ns, h1, h2, h3⟩ := h
  intro e
  subst e
  rw [h1] at h2
  cases ns with
  | nil => exact h3 rfl
  | cons x r =>
    have z := congrArg (fun o => match o with | some (HO.lst [_, y]) => y | _ => V.non) h2
    cases r with
    | nil => cases h2
    | cons y r =>
      cases r with
      | nil => cases h2
      | cons _ _ => cases h2
theorem same_upd {H : Hp} {p : Addr} {o : HO} (h : H p = none) : Same H (upd H p o) := fun b x e => by
  rw [upd_ne (ne_of_none e h)]
  exact e
theorem kp_same {p c : Addr} {H H' : Hp} (s : Same H H') : Kp p c H H' := fun b o h _ _ => s b o h
theorem LS.same {H H' : Hp} {p c : Addr} (h : LS H p c) (s : Same H H') : LS H' p c := by
  obtain ⟨k, ns, h1, h2, h3⟩ := h
  exact ⟨k, ns, s _ _ h1, s _ _ h2, h3⟩
theorem LS.new {H : Hp} {p c q : Addr} {o : HO} (h : LS H p c) (n : H q = none) : LS (upd H q o) p c := h.same (same_upd n)
theorem LS.ne1 {H : Hp} {p c l : Addr} (h : LS H p c) (n : H l = none) : l ≠ p := by
  obtain ⟨k, ns, g1, g2, g3⟩ := h
  exact (ne_of_none g1 n).symm
theorem LS.ne2 {H : Hp} {p c l : Addr} (h : LS H p c) (n : H l = none) : l ≠ c := by
  obtain ⟨k, ns, g1, g2, g3⟩ := h
  exact (ne_of_none g2 n).symm
def spState (K : PySem.W.Frag) : Sp := fun vs H Q _ => ∃ (a : Addr) (ns : List Int), vs = [.ref a] ∧ SqL K H a (ns.map V.int) ∧ ns.length ≤ 63 ∧
  ∀ (p c : Addr) (H' : Hp), LS H' p c → Same H H' → H p = none → H c = none → Q (.ref p) H'
def spTake : Sp := fun vs H Q _ => ∃ (p c : Addr) (m : Int), vs = [.ref p, .int m] ∧ LS H p c ∧ m < 1073741824 ∧
  ∀ (r : Int) (H' : Hp), 0 ≤ r → (r < m ∨ r < 1) → LS H' p c → Kp p c H H' → Q (.int r) H'
def spPick (K : PySem.W.Frag) : Sp := fun vs H Q _ => ∃ (p c q : Addr) (xs : List V), vs = [.ref p, .ref q] ∧ LS H p c ∧ q ≠ p ∧ q ≠ c ∧ H q = some (.lst xs) ∧ xs ≠ [] ∧ xs.length < 1073741824 ∧
  ∀ (v : V) (H' : Hp), v ∈ xs → LS H' p c → Kp p c H H' → Q v H'
def spNumber : Sp := fun vs H Q _ => ∃ (p c : Addr) (lo hi : Int), vs = [.ref p, .int lo, .int hi] ∧ LS H p c ∧ lo ≤ hi ∧
  ∀ (r : Int) (H' : Hp), lo ≤ r → r ≤ hi → LS H' p c → Kp p c H H' → Q (.int r) H'
section
variable {P : Program} {w : World} {K : PySem.W.Frag} {mg : Str → Option Value} {base : Heap}
theorem emod_rng (x : Int) {m : Int} (h : 0 < m) : 0 ≤ x % m ∧ x % m < m := ⟨Int.emod_nonneg _ (by omega), Int.emod_lt_of_pos _ h⟩
theorem at_mod {α : Type} {xs : List α} (h : xs ≠ []) (k : Int) : ∃ (j : Nat) (v : α), k % (xs.length : Int) = (j : Int) ∧ j < xs.length ∧ xs[j]? = some v := by
  have hl : 0 < xs.length := by
    cases xs with
    | nil => exact absurd rfl h
    | cons _ _ => exact Nat.zero_lt_succ _
  have e := emod_rng k (m := (xs.length : Int)) (by omega)
  refine ⟨(k % (xs.length : Int)).toNat, xs[(k % (xs.length : Int)).toNat]'(by omega), by omega, by omega, List.getElem?_eq_getElem _⟩
theorem ok_law_take (T : Tx K mg) : FnOk P w K mg base CX0 1 T.ad_law_take T.fd_law_take ["state", "most"] spTake := by
  refine T.d_law_take.F.ok x_law_take (fun vs H Q E h => ?_) (fun cdv A outer s H vs Q E hr h => ?_)
  · obtain ⟨p, c, m, rfl, _⟩ := h
    rfl
  · obtain ⟨p, c, m, rfl, hL, hm, q⟩ := h
    have nd := x_law_take.nd
    have npc := hL.ne
    obtain ⟨k, ns, h1, h2, h3⟩ := id hL
    refine ⟨_, (pss_cons (ps_if (pt_cmpR op_lt (pv 1) pe_int (nomark _)) (pss_one (ps_ret pe_int)) pss_nil)
        (pss_cons (ps_set (i := 2) nd rfl (Or.inl rfl) (pe_ix ix_list (pv 0) pe_int (fun _ _ => rfl)))
        (pss_cons (ps_set (i := 3) nd rfl (Or.inl rfl) (pe_op op_mod (pe_callTy call_int1 (by rfl) T.b_int (by decide +kernel) (pa_cons (pe_ix ix_list (pv 0) pe_int (fun _ _ => rfl)) pa_nil)) (pe_callB call_len_seq (by rfl) T.b_len (by decide +kernel) (pa_cons (pv 2) pa_nil))))
        (pss_cons (ps_set (i := 4) nd rfl (Or.inl rfl) (pe_ix ix_list (pv 2) (pv 3) (fun _ _ => rfl)))
        (pss_cons (ps_if (pt_cmpR op_ge (pv 4) pe_int (nomark _)) (pss_cons (ps_asg (pe_op op_fdiv (pv 4) (pv 1)) (pg_sub (pv 2) (pv 3) set_list))
        (pss_one (ps_ret (pe_op op_mod (pe_callTy call_int1 (by rfl) T.b_int (by decide +kernel) (pa_cons (pv 4) pa_nil)) (pv 1))))) pss_nil)
        (pss_cons (ps_asg (pe_op op_add (pe_ix ix_list (pv 0) pe_int (fun _ _ => rfl)) pe_int) (pg_sub (pv 0) pe_int set_list))
        (pss_cons (ps_set (i := 5) nd rfl (Or.inl rfl) (pe_op op_mod (pe_callTy call_int1 (by rfl) T.b_int (by decide +kernel) (pa_cons (pe_op op_add (pe_op op_mul (pv 4) pe_int) (pe_op op_mul (pe_ix ix_list (pv 0) pe_int (fun _ _ => rfl)) pe_int)) pa_nil)) pe_int))
        (pss_cons (ps_set (i := 5) nd rfl (Or.inl rfl) (pe_op op_mod (pe_callTy call_int1 (by rfl) T.b_int (by decide +kernel) (pa_cons (pe_op op_add (pe_op op_mul (pv 5) pe_int) (pe_op op_mul (pe_ix ix_list (pv 0) pe_int (fun _ _ => rfl)) pe_int)) pa_nil)) pe_int))
        (pss_one (ps_ret (pe_op op_mod (pe_callTy call_int1 (by rfl) T.b_int (by decide +kernel) (pa_cons (pe_op op_fdiv (pv 5) pe_int) pa_nil)) (pv 1)))))))))))), ?_⟩
    refine ⟨_, rfl, _, _, rfl, rfl, _, rfl, ite2 (fun e => ?_) (fun e => ?_)⟩
    · exact q 0 H (by decide) (.inr (by decide)) hL (Kp.refl _ _ _)
    have e2 : ¬ m < 2 := of_decide_eq_false (Bool.not_eq_true _ ▸ e)
    have hl0 : (ns.map V.int) ≠ [] := by
      cases ns with
      | nil => exact absurd rfl h3
      | cons _ _ => intro z; cases z
    obtain ⟨j, v, ej, hj, hv⟩ := at_mod hl0 k
    have hjn : j < ns.length := by rw [List.length_map] at hj; exact hj
    obtain ⟨x, hx, rfl⟩ : ∃ x, ns[j]? = some x ∧ v = V.int x := by
      rw [List.getElem?_map] at hv
      cases e : ns[j]? with
      | none => rw [e] at hv; cases hv
      | some x => rw [e] at hv; exact ⟨x, rfl, (Option.some.inj hv).symm⟩
    have hpos : (0 : Int) < ((ns.map V.int).length : Int) := by omega
    refine ⟨_, rfl, _, _, _, _, rfl, rfl, SqL.of h1, atI_nat (j := 1) rfl, ?_⟩
    refine ⟨_, rfl, _, _, _, _, rfl, rfl, SqL.of h1, atI_nat (j := 0) rfl, .inl ⟨_, rfl, ?_⟩⟩
    refine ⟨_, rfl, _, _, rfl, .inl (SqL.of h2), _, _, rfl, rfl, hpos, ?_⟩
    refine ⟨_, rfl, _, rfl, _, _, _, _, rfl, rfl, SqL.of h2, at_of ej hv, ?_⟩
    refine ⟨_, rfl, _, _, rfl, rfl, _, rfl, ite2 (fun eb => ?_) (fun eb => ?_)⟩
    · -- cells[at] = cell // most
      refine ⟨_, rfl, _, rfl, _, _, rfl, rfl, ⟨by omega, by omega⟩, _, rfl, _, rfl, _, _, _, j, rfl, rfl, h2, ?_, ?_⟩
      · rw [ej]
        unfold ixN
        rw [if_pos (by omega), if_pos (by omega)]
        exact congrArg some (by omega)
      · refine ⟨_, rfl, .inl ⟨_, rfl, _, rfl, _, _, rfl, rfl, by omega, ?_⟩⟩
        have r := emod_rng x (m := m) (by omega)
        refine q _ _ r.1 (.inl r.2) ⟨k, ns.set j (x / m), by rw [upd_ne npc]; exact h1, by rw [upd_same, List.map_set], ?_⟩ fun b o e hb hc => by rw [upd_ne hc]; exact e
        intro z
        have zz := congrArg List.length z
        rw [List.length_set] at zz
        have : ns.length = 0 := zz
        omega
    · -- state[0] = state[0] + 1
      refine ⟨_, rfl, _, _, _, _, rfl, rfl, SqL.of h1, atI_nat (j := 0) rfl, _, _, rfl, rfl, _, rfl, _, _, _, 0, rfl, rfl, h1, rfl, ?_⟩
      have g1 : (upd H p (.lst ([V.int k, V.ref c].set 0 (.int (k + 1))))) p = some (.lst [V.int (k + 1), V.ref c]) := upd_same
      have hL' : LS (upd H p (.lst ([V.int k, V.ref c].set 0 (.int (k + 1))))) p c := ⟨k + 1, ns, g1, by rw [upd_ne npc.symm]; exact h2, h3⟩
      have hk : Kp p c H (upd H p (.lst ([V.int k, V.ref c].set 0 (.int (k + 1))))) := fun b o e hb hc => by rw [upd_ne hb]; exact e
      generalize upd H p (.lst ([V.int k, V.ref c].set 0 (.int (k + 1)))) = H1 at g1 hL' hk ⊢
      refine ⟨_, rfl, _, _, rfl, rfl, .inr ⟨by decide, by decide⟩, _, rfl, _, _, _, _, rfl, rfl, SqL.of g1, atI_nat (j := 0) rfl, _, _, rfl, rfl, .inr ⟨by decide, by decide⟩, _, _, rfl, rfl, .inl ⟨_, rfl, _, _, rfl, rfl, (by show (0 : Int) < 2147483647; decide), ?_⟩⟩
      refine ⟨_, rfl, _, _, rfl, rfl, .inr ⟨by decide, by decide⟩, _, rfl, _, _, _, _, rfl, rfl, SqL.of g1, atI_nat (j := 0) rfl, _, _, rfl, rfl, .inr ⟨by decide, by decide⟩, _, _, rfl, rfl, .inl ⟨_, rfl, _, _, rfl, rfl, (by show (0 : Int) < 1000000007; decide), ?_⟩⟩
      refine ⟨_, rfl, _, _, rfl, rfl, ⟨by decide, by decide⟩, .inl ⟨_, rfl, _, rfl, _, _, rfl, rfl, (by show 0 < m; omega), ?_⟩⟩
      have r := emod_rng ((((x * 48271 + (k + 1) * 69621) % 2147483647 * 16807 + (k + 1) * 7919) % 1000000007) / 7) (m := m) (by omega)
      exact q _ _ r.1 (.inl r.2) hL' hk
end

section
variable {P : Program} {w : World} {K : PySem.W.Frag} {mg : Str → Option Value} {base : Heap}
theorem cut63 (xs : List V) (h : xs.length ≤ 63) : cutV xs none (some 63) = xs := by
  unfold cutV
  rw [HT.sIx_none, show HT.sIx xs.length xs.length (some 63) = min 63 xs.length from HT.sIx_nat xs.length xs.length 63]
  rw [List.drop_zero, Nat.min_eq_right h, Nat.sub_zero, List.take_length]
theorem cut_lo (xs : List V) (j : Nat) (h : j ≤ xs.length) : cutV xs none (some (j : Int)) = xs.take j := by
  unfold cutV
  rw [HT.sIx_none, HT.sIx_nat, Nat.min_eq_left h, List.drop_zero, Nat.sub_zero]
theorem cut_any (xs : List V) (j : Nat) : cutV xs none (some (j : Int)) = xs.take j := by
  unfold cutV
  rw [HT.sIx_none, HT.sIx_nat, List.drop_zero, Nat.sub_zero]
  by_cases h : j ≤ xs.length
  · rw [Nat.min_eq_left h]
  · rw [Nat.min_eq_right (by omega), List.take_length, List.take_of_length_le (by omega)]
theorem cut_hi (xs : List V) (j : Nat) (h : j ≤ xs.length) : cutV xs (some (j : Int)) none = xs.drop j := by
  unfold cutV
  rw [HT.sIx_none, HT.sIx_nat, Nat.min_eq_left h]
  exact List.take_of_length_le (by rw [List.length_drop]; omega)
theorem ok_law_state (T : Tx K mg) : FnOk P w K mg base CX0 1 T.ad_law_state T.fd_law_state ["script"] (spState K) := by
  refine T.d_law_state.F.ok x_law_state (fun vs H Q E h => ?_) (fun cdv A outer s H vs Q E hr h => ?_)
  · obtain ⟨a, ns, rfl, _⟩ := h
    rfl
  · obtain ⟨a, ns, rfl, hS, hlen, q⟩ := h
    have nd := x_law_state.nd
    refine ⟨_, (pss_cons (ps_setLc (i := 1) (own := [("cell", 2)]) (g := gName 2) rfl nd rfl rfl (sw_true rfl rfl rfl (by decide +kernel)) (pi_list (pe_slice sl_list (pv 0) po_none (po_some pe_int))) (blkOk_by (own := [("cell", 2)]) (N := Ns_law_state) (sc := defScope s_law_state) (by decide +kernel)) (fun _ _ _ _ _ => (pg_name (i := 2) nd rfl (Or.inl rfl))) (fun _ _ _ _ _ => pts_nil) (fun _ _ _ _ _ => (pe_callB call_abs (by rfl) T.b_abs (by decide +kernel) (pa_cons (pv 2) pa_nil))))
        (pss_cons (ps_if (pt_cmpR op_eq (pe_callB call_len_seq (by rfl) T.b_len (by decide +kernel) (pa_cons (pv 1) pa_nil)) pe_int (nomark _)) (pss_one (ps_set (i := 1) nd rfl (Or.inl rfl) (pe_lst (pa_cons pe_int pa_nil)))) pss_nil)
        (pss_one (ps_ret (pe_lst (pa_cons pe_int (pa_cons (pv 1) pa_nil))))))), ?_⟩
    have hml : (ns.map V.int).length ≤ 63 := by rw [List.length_map]; exact hlen
    refine ⟨_, rfl, 63, rfl, a, _, rfl, hS, fun p np => ?_⟩
    rw [cut63 _ hml]
    have g0 : (upd H p (.lst (ns.map V.int))) p = some (.lst (ns.map V.int)) := upd_same
    have s0 : Same H (upd H p (.lst (ns.map V.int))) := same_upd np
    generalize upd H p (.lst (ns.map V.int)) = H0 at g0 s0 ⊢
    refine ⟨p, rfl, ⟨_, SqL.of g0⟩, fun D hD => lc_list (K := K) (a := p) (xs := ns.map V.int) (fun i H1 => Same H0 H1 ∧ H1 D = some (.lst (((ns.take i).map fun x => if x < 0 then -x else x).map V.int))) ⟨same_upd hD, upd_same⟩ (fun i H1 _ z => SqL.of (z.1 _ _ g0)) ?_ ?_⟩
    · rintro i x H1 hi ⟨s1, g1⟩
      obtain ⟨z, hz, rfl⟩ : ∃ z, ns[i]? = some z ∧ x = V.int z := by
        rw [List.getElem?_map] at hi
        cases e : ns[i]? with
        | none => rw [e] at hi; cases hi
        | some z => rw [e] at hi; exact ⟨z, rfl, (Option.some.inj hi).symm⟩
      have hil := (List.getElem?_eq_some_iff.mp hz).1
      refine ⟨rfl, ?_⟩
      refine ⟨_, rfl, z, rfl, _, g1, ?_, fun b o e => ?_, ?_⟩
      · rw [List.length_map, List.length_map, List.length_take]
        exact small1000 (by omega)
      · rw [upd_ne (ne_of_none e hD)]
        exact s1 _ _ e
      · rw [upd_same, List.take_add_one, hz]
        simp
    · rintro H1 ⟨s1, g1⟩
      rw [List.length_map, List.take_length] at g1
      have np2 : H D = none := s0.free hD
      refine ⟨_, rfl, D, _, rfl, .inl (SqL.of g1), rfl, _, rfl, ite2 (fun e => ?_) (fun e => ?_)⟩
      · refine ⟨by show 1 ≤ sizeLine; decide, fun c hc => ?_⟩
        refine ⟨_, rfl, by show 2 ≤ sizeLine; decide, fun r hr' => ?_⟩
        have s2 : Same H1 (upd H1 c (.lst [.int 0])) := same_upd hc
        have s3 : Same (upd H1 c (.lst [.int 0])) (upd (upd H1 c (.lst [.int 0])) r (.lst [.int 0, .ref c])) := same_upd hr'
        refine q r c _ ⟨0, [0], upd_same, s3 _ _ upd_same, by intro z; cases z⟩ (s0.trans (s1.trans (s2.trans s3))) ?_ ?_
        · exact s0.free (s1.free (s2.free hr'))
        · exact s0.free (s1.free hc)
      · refine ⟨_, rfl, by show 2 ≤ sizeLine; decide, fun r hr' => ?_⟩
        have s3 : Same H1 (upd H1 r (.lst [.int 0, .ref D])) := same_upd hr'
        refine q r D _ ⟨0, _, upd_same, s3 _ _ g1, ?_⟩ (s0.trans (s1.trans s3)) (s0.free (s1.free hr')) np2
        intro z
        refine e (decide_eq_true (congrArg V.int ?_))
        rw [List.length_map, z]
        rfl
theorem ok_law_number (T : Tx K mg) : FnOk P w K mg base CX0 2 T.ad_law_number T.fd_law_number ["state", "low", "high"] spNumber := by
  refine T.d_law_number.F.ok x_law_number (fun vs H Q E h => ?_) (fun cdv A outer s H vs Q E hr h => ?_)
  · obtain ⟨p, c, lo, hi, rfl, _⟩ := h
    rfl
  · obtain ⟨p, c, lo, hi, rfl, hL, hlh, q⟩ := h
    have nd := x_law_number.nd
    refine ⟨_, (pss_cons (ps_set (i := 3) nd rfl (Or.inl rfl) (pe_call (ok_law_take T) hr (by rfl) T.d_law_take.g T.d_law_take.F.kp T.d_law_take.b .nil pass0 (pa_cons (pv 0) (pa_cons pe_int pa_nil))))
        (pss_cons (ps_if (pt_cmpR op_eq (pv 3) pe_int (nomark _)) (pss_one (ps_ret (pv 1))) pss_nil)
        (pss_cons (ps_if (pt_cmpR op_eq (pv 3) pe_int (nomark _)) (pss_one (ps_ret (pv 2))) pss_nil)
        (pss_cons (ps_if (pt_cmpR op_eq (pv 3) pe_int (nomark _)) (pss_one (ps_ret (pe_callB (call_min2 rfl) (by rfl) T.b_min (by decide +kernel) (pa_cons (pv 2) (pa_cons (pe_op op_add (pe_op op_add (pv 1) pe_int) (pe_call (ok_law_take T) hr (by rfl) T.d_law_take.g T.d_law_take.F.kp T.d_law_take.b .nil pass0 (pa_cons (pv 0) (pa_cons pe_int pa_nil)))) pa_nil))))) pss_nil)
        (pss_cons (ps_if (pt_cmpR op_eq (pv 3) pe_int (nomark _)) (pss_one (ps_ret (pe_callB (call_max2 rfl) (by rfl) T.b_max (by decide +kernel) (pa_cons (pv 1) (pa_cons (pe_op op_sub (pe_op op_sub (pv 2) pe_int) (pe_call (ok_law_take T) hr (by rfl) T.d_law_take.g T.d_law_take.F.kp T.d_law_take.b .nil pass0 (pa_cons (pv 0) (pa_cons pe_int pa_nil)))) pa_nil))))) pss_nil)
        (pss_cons (ps_set (i := 4) nd rfl (Or.inl rfl) (pe_op op_add (pe_op op_sub (pv 2) (pv 1)) pe_int))
        (pss_one (ps_ret (pe_op op_add (pv 1) (pe_op op_mod (pe_callTy call_int1 (by rfl) T.b_int (by decide +kernel) (pa_cons (pe_op op_add (pe_op op_mul (pe_call (ok_law_take T) hr (by rfl) T.d_law_take.g T.d_law_take.F.kp T.d_law_take.b .nil pass0 (pa_cons (pv 0) (pa_cons pe_int pa_nil))) pe_int) (pe_call (ok_law_take T) hr (by rfl) T.d_law_take.g T.d_law_take.F.kp T.d_law_take.b .nil pass0 (pa_cons (pv 0) (pa_cons pe_int pa_nil)))) pa_nil)) (pv 4))))))))))), ?_⟩
    refine ⟨_, rfl, p, c, 6, rfl, hL, by decide, fun r H1 h0 h1 hL1 k1 => ?_⟩
    refine ⟨_, rfl, rfl, _, rfl, ite2 (fun _ => ?_) (fun _ => ?_)⟩
    · exact ⟨_, rfl, q _ _ (Int.le_refl _) hlh hL1 k1⟩
    refine ⟨_, rfl, rfl, _, rfl, ite2 (fun _ => ?_) (fun _ => ?_)⟩
    · exact ⟨_, rfl, q _ _ hlh (Int.le_refl _) hL1 k1⟩
    refine ⟨_, rfl, rfl, _, rfl, ite2 (fun _ => ?_) (fun _ => ?_)⟩
    · refine ⟨_, rfl, _, rfl, _, _, rfl, rfl, _, rfl, p, c, 3, rfl, hL1, by decide, fun r2 H2 h02 h12 hL2 k2 => ?_⟩
      refine ⟨_, _, rfl, rfl, _, _, rfl, ?_⟩
      refine q _ _ ?_ ?_ hL2 (k1.trans k2)
      · split <;> omega
      · split <;> omega
    refine ⟨_, rfl, rfl, _, rfl, ite2 (fun _ => ?_) (fun _ => ?_)⟩
    · refine ⟨_, rfl, _, rfl, _, _, rfl, rfl, _, rfl, p, c, 3, rfl, hL1, by decide, fun r2 H2 h02 h12 hL2 k2 => ?_⟩
      refine ⟨_, _, rfl, rfl, _, _, rfl, ?_⟩
      refine q _ _ ?_ ?_ hL2 (k1.trans k2)
      · split <;> omega
      · split <;> omega
    refine ⟨_, rfl, _, rfl, _, _, rfl, rfl, _, _, rfl, rfl, ?_⟩
    refine ⟨_, rfl, _, rfl, p, c, 65536, rfl, hL1, by decide, fun r2 H2 h02 h12 hL2 k2 => ?_⟩
    refine ⟨_, _, rfl, rfl, .inr ⟨by decide, by decide⟩, _, rfl, p, c, 65536, rfl, hL2, by decide, fun r3 H3 h03 h13 hL3 k3 => ?_⟩
    refine ⟨_, _, rfl, rfl, .inl ⟨_, rfl, _, rfl, _, _, rfl, rfl, (by show 0 < hi - lo + 1; omega), _, _, rfl, rfl, ?_⟩⟩
    have e := emod_rng (r2 * 65536 + r3) (m := hi - lo + 1) (by omega)
    exact q _ _ (by omega) (by omega) hL3 (k1.trans (k2.trans k3))
end

/-- None, truths, numbers, texts -/
def flt1 : V → Bool
  | .non => true | .bl _ => true | .int _ => true | .str z => PyData.strOk z | _ => false
/-- x and y are the same data, at most n deep -/
def Sm (K : PySem.W.Frag) (H : Hp) : Nat → V → V → Prop
  | 0, x, y => x = y ∧ flt1 x = true
  | n + 1, x, y => (x = y ∧ flt1 x = true) ∨ ∃ (a b : Addr) (xs ys : List V), x = .ref a ∧ y = .ref b ∧ ((SqL K H a xs ∧ SqL K H b ys) ∨ (SqT K H a xs ∧ SqT K H b ys)) ∧ xs.length = ys.length ∧ xs.length ≤ 100000 ∧
      ∀ (i : Nat) (u v : V), xs[i]? = some u → ys[i]? = some v → Sm K H n u v
theorem sqT_same {K : PySem.W.Frag} {H H' : Hp} {a : Addr} {xs : List V} (e : Same H H') (h : SqT K H a xs) : SqT K H' a xs := by
  rcases h with (h | ⟨o, h⟩) | h
  · exact .inl (.inl (e _ _ h))
  · exact .inl (.inr ⟨o, e _ _ h⟩)
  · exact .inr h
theorem Sm.same {K : PySem.W.Frag} {H H' : Hp} (e : Same H H') : ∀ {n : Nat} {x y : V}, Sm K H n x y → Sm K H' n x y
  | 0, _, _, h => h
  | n + 1, _, _, .inl h => .inl h
  | n + 1, _, _, .inr ⟨a, b, xs, ys, h1, h2, h3, h4, h5, h6⟩ => .inr ⟨a, b, xs, ys, h1, h2, (match h3 with
      | .inl z => .inl ⟨e.seq z.1, e.seq z.2⟩
      | .inr z => .inr ⟨sqT_same e z.1, sqT_same e z.2⟩), h4, h5, fun i u v hu hv => Sm.same e (h6 i u v hu hv)⟩
theorem Sm.flat {K : PySem.W.Frag} {H : Hp} {n : Nat} {x : V} (h : flt1 x = true) : Sm K H n x x := by
  cases n with
  | zero => exact ⟨rfl, h⟩
  | succ n => exact .inl ⟨rfl, h⟩
theorem tyx_L {K : PySem.W.Frag} {H : Hp} {a : Addr} {xs : List V} (h : SqL K H a xs) : TyX K H (.ref a) (.type "list") := by
  rcases h with (h | ⟨o, h⟩) | ⟨o, its, n, h1, h2, h3⟩
  · exact .base (.lst h)
  · exact .base (.frz h)
  · exact .kList h1 h2
theorem tyx_T {K : PySem.W.Frag} {H : Hp} {a : Addr} {xs : List V} (h : SqT K H a xs) : TyX K H (.ref a) (.type "tuple") := by
  rcases h with (h | ⟨o, h⟩) | ⟨o, its, n, h1, h2, h3⟩
  · exact .base (.tup h)
  · exact .fTuple h
  · exact .kTuple h1 h2
theorem kt {K : PySem.W.Frag} (a b : String) {r : Bool} (h : kitB a b = some r) : PySem.W.kitOne K (.type a) (.type b) = some r := h
theorem k_ib {K : PySem.W.Frag} : PySem.W.kitOne K (.type "int") (.type "bool") = some false := kt _ _ (by decide +kernel)
theorem k_is {K : PySem.W.Frag} : PySem.W.kitOne K (.type "int") (.type "str") = some false := kt _ _ (by decide +kernel)
theorem k_ii {K : PySem.W.Frag} : PySem.W.kitOne K (.type "int") (.type "int") = some true := kt _ _ (by decide +kernel)
theorem k_bb {K : PySem.W.Frag} : PySem.W.kitOne K (.type "bool") (.type "bool") = some true := kt _ _ (by decide +kernel)
theorem k_bs {K : PySem.W.Frag} : PySem.W.kitOne K (.type "bool") (.type "str") = some false := kt _ _ (by decide +kernel)
theorem k_sb {K : PySem.W.Frag} : PySem.W.kitOne K (.type "str") (.type "bool") = some false := kt _ _ (by decide +kernel)
theorem k_ss {K : PySem.W.Frag} : PySem.W.kitOne K (.type "str") (.type "str") = some true := kt _ _ (by decide +kernel)
theorem k_lb {K : PySem.W.Frag} : PySem.W.kitOne K (.type "list") (.type "bool") = some false := kt _ _ (by decide +kernel)
theorem k_ls {K : PySem.W.Frag} : PySem.W.kitOne K (.type "list") (.type "str") = some false := kt _ _ (by decide +kernel)
theorem k_li {K : PySem.W.Frag} : PySem.W.kitOne K (.type "list") (.type "int") = some false := kt _ _ (by decide +kernel)
theorem k_ld {K : PySem.W.Frag} : PySem.W.kitOne K (.type "list") (.type "dict") = some false := kt _ _ (by decide +kernel)
theorem k_lt {K : PySem.W.Frag} : PySem.W.kitOne K (.type "list") (.type "tuple") = some false := kt _ _ (by decide +kernel)
theorem k_ll {K : PySem.W.Frag} : PySem.W.kitOne K (.type "list") (.type "list") = some true := kt _ _ (by decide +kernel)
theorem k_tb {K : PySem.W.Frag} : PySem.W.kitOne K (.type "tuple") (.type "bool") = some false := kt _ _ (by decide +kernel)
theorem k_ts {K : PySem.W.Frag} : PySem.W.kitOne K (.type "tuple") (.type "str") = some false := kt _ _ (by decide +kernel)
theorem k_ti {K : PySem.W.Frag} : PySem.W.kitOne K (.type "tuple") (.type "int") = some false := kt _ _ (by decide +kernel)
theorem k_td {K : PySem.W.Frag} : PySem.W.kitOne K (.type "tuple") (.type "dict") = some false := kt _ _ (by decide +kernel)
theorem k_tt {K : PySem.W.Frag} : PySem.W.kitOne K (.type "tuple") (.type "tuple") = some true := kt _ _ (by decide +kernel)
theorem k_tl {K : PySem.W.Frag} : PySem.W.kitOne K (.type "tuple") (.type "list") = some false := kt _ _ (by decide +kernel)
theorem ka2 {K : PySem.W.Frag} {t c d : Value} {x y : Bool} (h1 : PySem.W.kitOne K t c = some x) (h2 : PySem.W.kitOne K t d = some y) : PySem.W.kitAny K t [c, d] = some (x || y) := by
  unfold PySem.W.kitAny
  rw [h1]
  cases x with
  | true => rfl
  | false =>
    show PySem.W.kitAny K t [d] = _
    unfold PySem.W.kitAny
    rw [h2]
    cases y <;> rfl
def spSame (K : PySem.W.Frag) (n : Nat) : Sp := fun vs H Q _ => ∃ (x y : V), vs = [x, y] ∧ Sm K H n x y ∧ ∀ (H' : Hp), Same H H' → Q (.bl true) H'
theorem Sm.eq {K : PySem.W.Frag} {H : Hp} {n : Nat} {x y : V} (e : x = y) (h : flt1 x = true) : Sm K H n x y := e ▸ Sm.flat h
theorem Sm.lst {K : PySem.W.Frag} {H : Hp} {n : Nat} {a b : Addr} {xs : List V} (ha : SqL K H a xs) (hb : SqL K H b xs) (hf : ∀ x ∈ xs, flt1 x = true) (hl : xs.length ≤ 100000) : Sm K H (n + 1) (.ref a) (.ref b) :=
  .inr ⟨a, b, xs, xs, rfl, rfl, .inl ⟨ha, hb⟩, rfl, hl, fun i u v hu hv => by
    rw [hu] at hv
    cases hv
    exact Sm.flat (hf u (List.mem_of_getElem? hu))⟩
theorem Sm.tup {K : PySem.W.Frag} {H : Hp} {n : Nat} {a b : Addr} {xs : List V} (ha : SqT K H a xs) (hb : SqT K H b xs) (hf : ∀ x ∈ xs, flt1 x = true) (hl : xs.length ≤ 100000) : Sm K H (n + 1) (.ref a) (.ref b) :=
  .inr ⟨a, b, xs, xs, rfl, rfl, .inr ⟨ha, hb⟩, rfl, hl, fun i u v hu hv => by
    rw [hu] at hv
    cases hv
    exact Sm.flat (hf u (List.mem_of_getElem? hu))⟩
theorem ix_sq {K : PySem.W.Frag} {H : Hp} {a : Addr} {xs : List V} {i : Int} {v : V} {Q : VK} (h : SqL K H a xs ∨ SqT K H a xs) (hi : atI xs i = some v) (q : Q v H) : rIx K (.ref a) (.int i) H Q := by
  rcases h with h | h
  · exact .inl ⟨a, xs, i, v, rfl, rfl, h, hi, q⟩
  · exact .inr (.inl ⟨a, xs, i, v, rfl, rfl, h, hi, q⟩)
/-- two lists, or two tuples, of the same data -/
def spSeq (K : PySem.W.Frag) (n : Nat) : Sp := fun vs H Q _ => ∃ (a b : Addr) (xs ys : List V), vs = [.ref a, .ref b] ∧ ((SqL K H a xs ∧ SqL K H b ys) ∨ (SqT K H a xs ∧ SqT K H b ys)) ∧ xs.length = ys.length ∧ xs.length ≤ 100000 ∧
  (∀ (i : Nat) (u v : V), xs[i]? = some u → ys[i]? = some v → Sm K H n u v) ∧ ∀ (H' : Hp), Same H H' → Q (.bl true) H'
section
variable {P : Program} {w : World} {K : PySem.W.Frag} {mg : Str → Option Value} {base : Heap}
theorem ok_same0 (T : Tx K mg) : FnOk P w K mg base CX0 1 T.ad_law_same T.fd_law_same ["told", "due"] (spSame K 0) := by
  refine T.d_law_same.F.ok x_law_same (fun vs H Q E h => ?_) (fun cdv A outer s H vs Q E hr h => ?_)
  · obtain ⟨x, y, rfl, _⟩ := h
    rfl
  · obtain ⟨x, y, rfl, ⟨rfl, hf⟩, q⟩ := h
    have nd := x_law_same.nd
    refine ⟨_, (pss_cons (ps_if (pt_cmpR op_isN (pv 1) pe_non (nomark _)) (pss_one (ps_ret (pe_cmpR op_isN (pv 0) pe_non (nomark _)))) pss_nil)
        (pss_cons (ps_if (pt_val (pe_callB call_isiT (by rfl) T.b_isinstance (by decide +kernel) (pa_cons (pv 1) (pa_cons (pe_tup (pa_cons (pe_bltn (v := .ty "bool") (by rfl) T.b_bool (by decide +kernel) rfl) (pa_cons (pe_bltn (v := .ty "str") (by rfl) T.b_str (by decide +kernel) rfl) pa_nil))) pa_nil)))) (pss_one (ps_ret (pe_and (pe_cmpR op_eq (pe_callB call_isi (by rfl) T.b_isinstance (by decide +kernel) (pa_cons (pv 0) (pa_cons (pe_bltn (v := .ty "bool") (by rfl) T.b_bool (by decide +kernel) rfl) pa_nil))) (pe_callB call_isi (by rfl) T.b_isinstance (by decide +kernel) (pa_cons (pv 1) (pa_cons (pe_bltn (v := .ty "bool") (by rfl) T.b_bool (by decide +kernel) rfl) pa_nil))) (nomark _)) (pe_and (pe_cmpR op_eq (pe_callB call_isi (by rfl) T.b_isinstance (by decide +kernel) (pa_cons (pv 0) (pa_cons (pe_bltn (v := .ty "str") (by rfl) T.b_str (by decide +kernel) rfl) pa_nil))) (pe_callB call_isi (by rfl) T.b_isinstance (by decide +kernel) (pa_cons (pv 1) (pa_cons (pe_bltn (v := .ty "str") (by rfl) T.b_str (by decide +kernel) rfl) pa_nil))) (nomark _)) (pe_one (pe_cmpR op_eq (pv 0) (pv 1) (nomark _))))))) pss_nil)
        (pss_cons (ps_if (pt_val (pe_callB call_isi (by rfl) T.b_isinstance (by decide +kernel) (pa_cons (pv 1) (pa_cons (pe_bltn (v := .ty "int") (by rfl) T.b_int (by decide +kernel) rfl) pa_nil)))) (pss_one (ps_ret (pe_and (pe_callB call_isi (by rfl) T.b_isinstance (by decide +kernel) (pa_cons (pv 0) (pa_cons (pe_bltn (v := .ty "int") (by rfl) T.b_int (by decide +kernel) rfl) pa_nil))) (pe_and (pe_not (pe_callB call_isi (by rfl) T.b_isinstance (by decide +kernel) (pa_cons (pv 0) (pa_cons (pe_bltn (v := .ty "bool") (by rfl) T.b_bool (by decide +kernel) rfl) pa_nil)))) (pe_one (pe_cmpR op_eq (pv 0) (pv 1) (nomark _))))))) pss_nil)
        pss_never))), ?_⟩
    cases x with
    | non => exact ⟨_, rfl, rfl, _, rfl, _, rfl, rfl, q H (Same.refl H)⟩
    | int i =>
      refine ⟨_, rfl, rfl, _, rfl, _, rfl, by show 2 ≤ sizeLine; decide, fun t ht => ?_⟩
      have s1 := same_upd (o := .tup [.ty "bool", .ty "str"]) ht
      refine ⟨_, t, _, _, _, _, rfl, upd_same, .cons (.ty _) (.cons (.ty _) .nil), .base (.int i), ka2 k_ib k_is, _, rfl, ?_⟩
      refine ⟨_, rfl, _, _, _, _, _, rfl, .ty _, .base (.int i), k_ii, _, rfl, ?_⟩
      refine ⟨_, rfl, _, _, _, _, _, rfl, .ty _, .base (.int i), k_ii, _, rfl, ?_⟩
      refine ⟨_, rfl, _, _, _, _, _, rfl, .ty _, .base (.int i), k_ib, _, rfl, _, rfl, ?_⟩
      refine ⟨_, rfl, _, rfl, rfl, ?_⟩
      rw [decide_eq_true rfl]
      exact q _ s1
    | bl i =>
      refine ⟨_, rfl, rfl, _, rfl, _, rfl, by show 2 ≤ sizeLine; decide, fun t ht => ?_⟩
      have s1 := same_upd (o := .tup [.ty "bool", .ty "str"]) ht
      refine ⟨_, t, _, _, _, _, rfl, upd_same, .cons (.ty _) (.cons (.ty _) .nil), .base (.bl i), ka2 k_bb k_bs, _, rfl, ?_⟩
      refine ⟨_, rfl, _, _, _, _, _, rfl, .ty _, .base (.bl i), k_bb, _, rfl, _, _, _, _, _, rfl, .ty _, .base (.bl i), k_bb, rfl, _, rfl, ite2 (fun _ => ?_) (fun e => absurd (decide_eq_true rfl) e)⟩
      refine ⟨_, rfl, _, _, _, _, _, rfl, .ty _, .base (.bl i), k_bs, _, rfl, _, _, _, _, _, rfl, .ty _, .base (.bl i), k_bs, rfl, _, rfl, ite2 (fun _ => ?_) (fun e => absurd (decide_eq_true rfl) e)⟩
      refine ⟨_, rfl, _, rfl, rfl, ?_⟩
      rw [decide_eq_true rfl]
      exact q _ s1
    | str i =>
      refine ⟨_, rfl, rfl, _, rfl, _, rfl, by show 2 ≤ sizeLine; decide, fun t ht => ?_⟩
      have s1 := same_upd (o := .tup [.ty "bool", .ty "str"]) ht
      refine ⟨_, t, _, _, _, _, rfl, upd_same, .cons (.ty _) (.cons (.ty _) .nil), .base (.str i), ka2 k_sb k_ss, _, rfl, ?_⟩
      refine ⟨_, rfl, _, _, _, _, _, rfl, .ty _, .base (.str i), k_sb, _, rfl, _, _, _, _, _, rfl, .ty _, .base (.str i), k_sb, rfl, _, rfl, ite2 (fun _ => ?_) (fun e => absurd (decide_eq_true rfl) e)⟩
      refine ⟨_, rfl, _, _, _, _, _, rfl, .ty _, .base (.str i), k_ss, _, rfl, _, _, _, _, _, rfl, .ty _, .base (.str i), k_ss, rfl, _, rfl, ite2 (fun _ => ?_) (fun e => absurd (decide_eq_true rfl) e)⟩
      refine ⟨_, rfl, _, rfl, rfl, ?_⟩
      rw [decide_eq_true rfl]
      exact q _ s1
    | _ => cases hf
theorem ok_same1 (T : Tx K mg) {m : Nat} (G : FnOk P w K mg base CX0 (m + 1) T.ad_law_same T.fd_law_same ["told", "due"] (spSame K m)) :
    FnOk P w K mg base CX0 (m + 2) T.ad_law_same T.fd_law_same ["told", "due"] (spSeq K m) := by
  refine T.d_law_same.F.ok x_law_same (fun vs H Q E h => ?_) (fun cdv A outer s H vs Q E hr h => ?_)
  · obtain ⟨x, y, xs, ys, rfl, _⟩ := h
    rfl
  · obtain ⟨a, b, xs, ys, rfl, hS, hl, hle, hi, q⟩ := h
    have nd := x_law_same.nd
    have hrS := hr
    refine ⟨_, (pss_cons (ps_if (pt_cmpR op_isN (pv 1) pe_non (nomark _)) (pss_one (ps_ret (pe_cmpR op_isN (pv 0) pe_non (nomark _)))) pss_nil)
        (pss_cons (ps_if (pt_val (pe_callB call_isiT (by rfl) T.b_isinstance (by decide +kernel) (pa_cons (pv 1) (pa_cons (pe_tup (pa_cons (pe_bltn (v := .ty "bool") (by rfl) T.b_bool (by decide +kernel) rfl) (pa_cons (pe_bltn (v := .ty "str") (by rfl) T.b_str (by decide +kernel) rfl) pa_nil))) pa_nil)))) (pss_one (ps_ret (pe_and (pe_cmpR op_eq (pe_callB call_isi (by rfl) T.b_isinstance (by decide +kernel) (pa_cons (pv 0) (pa_cons (pe_bltn (v := .ty "bool") (by rfl) T.b_bool (by decide +kernel) rfl) pa_nil))) (pe_callB call_isi (by rfl) T.b_isinstance (by decide +kernel) (pa_cons (pv 1) (pa_cons (pe_bltn (v := .ty "bool") (by rfl) T.b_bool (by decide +kernel) rfl) pa_nil))) (nomark _)) (pe_and (pe_cmpR op_eq (pe_callB call_isi (by rfl) T.b_isinstance (by decide +kernel) (pa_cons (pv 0) (pa_cons (pe_bltn (v := .ty "str") (by rfl) T.b_str (by decide +kernel) rfl) pa_nil))) (pe_callB call_isi (by rfl) T.b_isinstance (by decide +kernel) (pa_cons (pv 1) (pa_cons (pe_bltn (v := .ty "str") (by rfl) T.b_str (by decide +kernel) rfl) pa_nil))) (nomark _)) (pe_one (pe_cmpR op_eq (pv 0) (pv 1) (nomark _))))))) pss_nil)
        (pss_cons (ps_if (pt_val (pe_callB call_isi (by rfl) T.b_isinstance (by decide +kernel) (pa_cons (pv 1) (pa_cons (pe_bltn (v := .ty "int") (by rfl) T.b_int (by decide +kernel) rfl) pa_nil)))) (pss_one (ps_ret (pe_and (pe_callB call_isi (by rfl) T.b_isinstance (by decide +kernel) (pa_cons (pv 0) (pa_cons (pe_bltn (v := .ty "int") (by rfl) T.b_int (by decide +kernel) rfl) pa_nil))) (pe_and (pe_not (pe_callB call_isi (by rfl) T.b_isinstance (by decide +kernel) (pa_cons (pv 0) (pa_cons (pe_bltn (v := .ty "bool") (by rfl) T.b_bool (by decide +kernel) rfl) pa_nil)))) (pe_one (pe_cmpR op_eq (pv 0) (pv 1) (nomark _))))))) pss_nil)
        (pss_cons (ps_if (pt_val (pe_callB call_isi (by rfl) T.b_isinstance (by decide +kernel) (pa_cons (pv 1) (pa_cons (pe_bltn (v := .ty "dict") (by rfl) T.b_dict (by decide +kernel) rfl) pa_nil)))) pss_never pss_nil)
        (pss_cons (ps_if (PW.pt (pw_or (pt_cmpR op_ne (pe_callB call_isi (by rfl) T.b_isinstance (by decide +kernel) (pa_cons (pv 0) (pa_cons (pe_bltn (v := .ty "tuple") (by rfl) T.b_tuple (by decide +kernel) rfl) pa_nil))) (pe_callB call_isi (by rfl) T.b_isinstance (by decide +kernel) (pa_cons (pv 1) (pa_cons (pe_bltn (v := .ty "tuple") (by rfl) T.b_tuple (by decide +kernel) rfl) pa_nil))) (nomark _)) (pw_or (pt_not (pt_val (pe_callB call_isiT (by rfl) T.b_isinstance (by decide +kernel) (pa_cons (pv 0) (pa_cons (pe_tup (pa_cons (pe_bltn (v := .ty "tuple") (by rfl) T.b_tuple (by decide +kernel) rfl) (pa_cons (pe_bltn (v := .ty "list") (by rfl) T.b_list (by decide +kernel) rfl) pa_nil))) pa_nil))))) (pw_or1 (pt_cmpR op_ne (pe_callB call_len_seq (by rfl) T.b_len (by decide +kernel) (pa_cons (pv 0) pa_nil)) (pe_callB call_len_seq (by rfl) T.b_len (by decide +kernel) (pa_cons (pv 1) pa_nil)) (nomark _)))))) (pss_one (ps_ret pe_bl)) pss_nil)
        (pss_one (ps_ret (pe_callB (cr_all rfl) (by rfl) T.b_all (by decide +kernel) (pa_cons (pe_lc (own := [("k", 3)]) (g := gName 3) rfl nd (pi_range1 (by rfl) T.b_range (pa_cons (pe_callB call_len_seq (by rfl) T.b_len (by decide +kernel) (pa_cons (pv 1) pa_nil)) pa_nil)) (blkOk_by (own := [("k", 3)]) (N := Ns_law_same) (sc := defScope s_law_same) (by decide +kernel)) (fun _ _ _ _ _ => (pg_name (i := 3) nd rfl (Or.inl rfl))) (fun _ _ _ _ _ => pts_nil) (fun _ _ _ _ _ => (pe_call G hrS (by rfl) T.d_law_same.g T.d_law_same.F.kp T.d_law_same.b .nil pass0 (pa_cons (pe_ix (r := rIx K) ix_seq (pv 0) (pv 3) (fun _ _ => rfl)) (pa_cons (pe_ix (r := rIx K) ix_seq (pv 1) (pv 3) (fun _ _ => rfl)) pa_nil))))) pa_nil))))))))), ?_⟩
    have hb : ∃ tn, (∀ H1, Same H H1 → TyX K H1 (.ref b) (.type tn) ∧ TyX K H1 (.ref a) (.type tn)) ∧ kitB tn "bool" = some false ∧ kitB tn "str" = some false ∧ kitB tn "int" = some false ∧ kitB tn "dict" = some false ∧ ∃ ip, kitB tn "tuple" = some ip ∧ ∃ il, kitB tn "list" = some il ∧ (ip || il) = true := by
      rcases hS with ⟨h1, h2⟩ | ⟨h1, h2⟩
      · exact ⟨"list", fun H1 s1 => ⟨tyx_L (s1.seq h2), tyx_L (s1.seq h1)⟩, by decide +kernel, by decide +kernel, by decide +kernel, by decide +kernel, false, by decide +kernel, true, by decide +kernel, rfl⟩
      · exact ⟨"tuple", fun H1 s1 => ⟨tyx_T (sqT_same s1 h2), tyx_T (sqT_same s1 h1)⟩, by decide +kernel, by decide +kernel, by decide +kernel, by decide +kernel, true, by decide +kernel, false, by decide +kernel, rfl⟩
    obtain ⟨tn, hT, e1, e2, e3, e4, ip, e5, il, e6, e7⟩ := hb
    have ea : ∀ H1, Same H H1 → (SqL K H1 a xs ∨ SqT K H1 a xs) := fun H1 s1 => by
      rcases hS with ⟨h1, h2⟩ | ⟨h1, h2⟩
      · exact .inl (s1.seq h1)
      · exact .inr (sqT_same s1 h1)
    have eb : ∀ H1, Same H H1 → (SqL K H1 b ys ∨ SqT K H1 b ys) := fun H1 s1 => by
      rcases hS with ⟨h1, h2⟩ | ⟨h1, h2⟩
      · exact .inl (s1.seq h2)
      · exact .inr (sqT_same s1 h2)
    have ek : PySem.W.kitAny K (.type tn) [.type "tuple", .type "list"] = some true := e7 ▸ ka2 (kt _ _ e5) (kt _ _ e6)
    refine ⟨_, rfl, rfl, _, rfl, _, rfl, by show 2 ≤ sizeLine; decide, fun t ht => ?_⟩
    have s1 := same_upd (o := .tup [.ty "bool", .ty "str"]) ht
    refine ⟨_, t, _, _, _, _, rfl, upd_same, .cons (.ty _) (.cons (.ty _) .nil), (hT _ s1).1, ka2 (kt _ _ e1) (kt _ _ e2), _, rfl, ?_⟩
    refine ⟨_, rfl, _, _, _, _, _, rfl, .ty _, (hT _ s1).1, kt _ _ e3, _, rfl, ?_⟩
    refine ⟨_, rfl, _, _, _, _, _, rfl, .ty _, (hT _ s1).1, kt _ _ e4, _, rfl, ?_⟩
    refine ⟨_, rfl, _, _, _, _, _, rfl, .ty _, (hT _ s1).2, kt _ _ e5, _, rfl, _, _, _, _, _, rfl, .ty _, (hT _ s1).1, kt _ _ e5, rfl, _, rfl, iteNS rfl ?_⟩
    refine ⟨_, rfl, by show 2 ≤ sizeLine; decide, fun t2 ht2 => ?_⟩
    have s2 := s1.trans (same_upd (o := .tup [.ty "tuple", .ty "list"]) ht2)
    refine ⟨_, t2, _, _, _, _, rfl, upd_same, .cons (.ty _) (.cons (.ty _) .nil), (hT _ s2).2, ek, _, rfl, ?_⟩
    refine ⟨_, rfl, a, xs, rfl, ea _ s2, _, rfl, b, ys, rfl, eb _ s2, rfl, _, rfl, iteNS (congrArg V.int (congrArg Nat.cast hl)) ?_⟩
    generalize upd (upd H t (.tup [.ty "bool", .ty "str"])) t2 (.tup [.ty "tuple", .ty "list"]) = H2 at s2 ⊢
    refine ⟨_, rfl, b, ys, rfl, eb _ s2, _, rfl, by omega, by omega, fun D hD => ?_⟩
    refine lc_range (lo := 0) (n := (ys.length : Int).toNat) (fun i H1 => Same H2 H1 ∧ H1 D = some (.lst ((List.replicate i true).map V.bl))) ⟨same_upd hD, upd_same⟩ ?_ ?_
    · rintro i H1 hin ⟨s3, g3⟩
      have h23 := s2.trans s3
      have hix : i < xs.length := by omega
      have hiy : i < ys.length := by omega
      refine ⟨rfl, _, rfl, _, rfl, ix_sq (ea _ h23) (at_of (j := i) (by omega) (List.getElem?_eq_getElem hix)) ?_⟩
      refine ⟨_, rfl, _, rfl, ix_sq (eb _ h23) (at_of (j := i) (by omega) (List.getElem?_eq_getElem hiy)) ?_⟩
      refine ⟨_, _, rfl, (hi i _ _ (List.getElem?_eq_getElem hix) (List.getElem?_eq_getElem hiy)).same h23, fun H4 s4 => ⟨_, s4 _ _ g3, ?_, fun c o e => ?_, ?_⟩⟩
      · rw [List.length_map, List.length_replicate]
        exact Nat.lt_of_le_of_lt (m := 100000) (by omega) (by decide)
      · rw [upd_ne (ne_of_none e hD)]
        exact s4 _ _ (s3 _ _ e)
      · rw [upd_same, List.replicate_succ', List.map_append]
        rfl
    · rintro H1 ⟨s3, g3⟩
      refine ⟨D, _, rfl, SqL.of g3, ?_⟩
      have ht : (List.replicate (ys.length : Int).toNat true).all id = true := by
        rw [List.all_eq_true]
        intro z hz
        exact (List.mem_replicate.mp hz).2
      rw [ht]
      exact q H1 (s2.trans s3)
theorem ok_same (T : Tx K mg) : ∀ n : Nat, FnOk P w K mg base CX0 (n + 1) T.ad_law_same T.fd_law_same ["told", "due"] (spSame K n)
  | 0 => ok_same0 T
  | n + 1 => by
    have F0 : FnOk P w K mg base CX0 (n + 2) T.ad_law_same T.fd_law_same ["told", "due"] (spSame K 0) := (ok_same0 T).mono (by omega)
    have F1 := ok_same1 (P := P) (w := w) (base := base) T (ok_same T n)
    refine ⟨fun vs H Q E h => ?_, fun A outer s H args us vs Q E hr he hb hv hs => ?_⟩
    · obtain ⟨x, y, rfl, _⟩ := h
      rfl
    · obtain ⟨x, y, rfl, h | ⟨a, b, xs, ys, rfl, rfl, h⟩, q⟩ := hs
      · exact F0.run A outer s H args us _ Q E hr he hb hv ⟨x, y, rfl, h, q⟩
      · obtain ⟨h1, h2, h3, h4⟩ := h
        exact F1.run A outer s H args us _ Q E hr he hb hv ⟨a, b, xs, ys, rfl, h1, h2, h3, h4, q⟩
end

/-- every second one, from the first on -/
def alt {α : Type} : List α → List α
  | [] => []
  | [x] => [x]
  | x :: _ :: r => x :: alt r
theorem alt_len {α : Type} : ∀ l : List α, (alt l).length = (l.length + 1) / 2
  | [] => by simp [alt]
  | [_] => by simp [alt]
  | _ :: _ :: r => by
    show (alt r).length + 1 = (r.length + 1 + 1 + 1) / 2
    rw [alt_len r]
    omega
theorem alt_vals : ∀ {xs : List V} {us : List Value}, Vals xs us → Vals (alt xs) (alt us)
  | _, _, .nil => .nil
  | _, _, .cons r .nil => .cons r .nil
  | _, _, .cons r (.cons _ t) => .cons r (alt_vals t)
theorem alt_map {α β : Type} (f : α → β) : ∀ l : List α, alt (l.map f) = (alt l).map f
  | [] => rfl
  | [_] => rfl
  | _ :: _ :: r => by
    show _ :: alt (r.map f) = _ :: (alt r).map f
    rw [alt_map f r]
theorem alt_pick {α : Type} : ∀ (l : List α) (m : Nat), m = (l.length + 1) / 2 → (List.range m).filterMap (fun i => l[2 * i]?) = alt l
  | [], m, h => by
    have e : m = 0 := by simp only [List.length_nil] at h; omega
    subst e
    rfl
  | [x], m, h => by
    have e : m = 1 := by simp only [List.length_cons, List.length_nil] at h; omega
    subst e
    rfl
  | x :: y :: r, m, h => by
    obtain ⟨m', rfl⟩ : ∃ m', m = m' + 1 := ⟨m - 1, by simp only [List.length_cons] at h; omega⟩
    rw [List.range_succ_eq_map, List.filterMap_cons]
    show x :: _ = x :: alt r
    rw [List.filterMap_map]
    have e : ((fun i => (x :: y :: r)[2 * i]?) ∘ Nat.succ) = fun i => r[2 * i]? := by
      funext i
      show (x :: y :: r)[2 * (i + 1)]? = r[2 * i]?
      rw [show 2 * (i + 1) = 2 * i + 1 + 1 by omega]
      rfl
    rw [e, alt_pick r m' (by simp only [List.length_cons] at h; omega)]
theorem pick2 (its : List Value) (k : Nat) : slicePick its.toArray (some (k : Int)) none (some 2) = (alt (its.drop k)).toArray := by
  unfold slicePick
  congr 1
  have hb : sliceBounds (some (k : Int)) none (some 2) its.toArray.size = (((min k its.length : Nat) : Int), ((its.length : Nat) : Int), 2) := by
    have h2 : (2 : Int) > 0 := by decide
    have h3 : ¬ ((k : Int) < 0) := by omega
    unfold sliceBounds
    simp only [Option.getD_some, List.size_toArray, h2, h3, if_true, if_false]
    refine Prod.ext ?_ rfl
    show max 0 (min (k : Int) (its.length : Int)) = ((min k its.length : Nat) : Int)
    omega
  rw [hb]
  show (sliceRange ((min k its.length : Nat) : Int) (its.length : Int) 2).filterMap _ = _
  unfold sliceRange
  rw [← alt_pick (its.drop k) ((its.length - k + 1) / 2) (by rw [List.length_drop]), List.filterMap_map]
  have h2 : (2 : Int) > 0 := by decide
  have hm : (if ((min k its.length : Nat) : Int) < (its.length : Int) then ((its.length : Int) - ((min k its.length : Nat) : Int) + 2 - 1) / 2 else 0).toNat = (its.length - k + 1) / 2 := by
    split <;> omega
  simp only [h2, if_true]
  rw [hm]
  by_cases hk : k ≤ its.length
  · congr 1
    funext i
    show its.toArray[(((min k its.length : Nat) : Int) + 2 * (i : Int)).toNat]? = (its.drop k)[2 * i]?
    rw [List.getElem?_toArray, List.getElem?_drop]
    congr 1
    omega
  · rw [show (its.length - k + 1) / 2 = 0 by omega]
    rfl
def tStep2 (K : PySem.W.Frag) (k : Nat) (te : TE) : TE := fun σ H Q => te σ H fun x H1 => ∃ a xs, x = .ref a ∧ SqL K H1 a xs ∧ ∀ p, H1 p = none → Q (.ref p) (upd H1 p (.lst (alt (xs.drop k))))
theorem pe_step2 {X : Cx} {e : Expr} {te : TE} {k : Nat} {ka kb : Nat} {p1 p2 p3 pos : Pos} (he : PE X e te) :
    PE X (.Subscript e (.Slice (some (.Constant (.int (k : Int)) ka p1)) none (some (.Constant (.int 2) kb p2)) p3) pos) (tStep2 X.K k te) := by
  refine ⟨fun pins s σ H Q I h => ?_⟩
  refine Subscript_ (thn (he.run pins s σ H _ I h) fun v s1 ⟨x, H1, I1, r1, q1⟩ => ?_)
  obtain ⟨a, xs, ex, hx, q⟩ := q1
  subst ex
  cases r1
  have hlo : PO X (some (.Constant (.int (k : Int)) ka p1)) (tPart (tC (.int (k : Int)))) := po_some pe_int
  have hst : PO X (some (.Constant (.int 2) kb p2)) (tPart (tC (.int 2))) := po_some pe_int
  refine wpAny_Slice (thn (hlo.run pins s1 σ H1 (fun o H2 => o = some (k : Int) ∧ H2 = H1) I1 ⟨_, rfl, rfl, rfl⟩) fun vl s2 ⟨l, H2, I2, pl, el, e2⟩ => ?_)
  subst el e2
  refine thn (po_none.run pins s2 σ H2 (fun o H3 => o = none ∧ H3 = H2) I2 ⟨rfl, rfl⟩) fun vu s3 ⟨u, H3, I3, pu, eu, e3⟩ => ?_
  subst eu e3
  refine thn (hst.run pins s3 σ H3 (fun o H4 => o = some 2 ∧ H4 = H3) I3 ⟨_, rfl, rfl, rfl⟩) fun vs s4 ⟨o, H4, I4, ps, eo, e4⟩ => ?_
  subst eo e4
  have I5 : Inv X pins σ H4 { s4 with heap := s4.heap.push { cls := .type "slice", data := .fields #[vl, vu, vs] } } := I4.kept (t' := s4.toks) fun b ob q => Heap.get?_push_of_some _ q
  obtain ⟨its, r, ht, hz⟩ := I5.list hx
  have hlen := r.length
  show wpAny (model X.prog X.w) X.A (subscriptTail e (.Slice (some (.Constant (.int (k : Int)) ka p1)) none (some (.Constant (.int 2) kb p2)) p3) (.ref a) (.ref s4.heap.objs.size)) (EP X pins σ Q) X.xe { s4 with heap := s4.heap.push { cls := .type "slice", data := .fields #[vl, vu, vs] } }
  refine tail_any (ops := [.ref a, .ref s4.heap.objs.size]) ht.isList.typeIs (PySem.slot_list_getitem.lookup) ?_ (by with_unfolding_all rfl)
  refine wpAny_getItem_list_slice ht.isList (Heap.IsSliceOf.new _ vl vu vs) pl pu ps (by decide) ?_ (by rw [List.size_toArray]; omega)
  rw [pick2]
  refine ⟨.ref _, _, I5.laid (t' := s4.toks) (o := .lst (alt (xs.drop k))) (fun b ob q => Heap.get?_push_of_some _ q) (Nat.le_refl _) ?_, rfl, q _ (I5.hok.fresh (Nat.le_refl _))⟩
  exact ⟨by rw [alt_len, List.length_drop]; omega, _, 0, alt_vals (r.drop k), Heap.get?_push_size _ rfl⟩

/-- the same data, read by == -/
theorem Sm.data {K : PySem.W.Frag} {H : Hp} : ∀ (n : Nat) (x y : V), Sm K H n x y → ∃ d, Dp K H x d ∧ Dp K H y d ∧ d.canLay0 = true ∧ d.depth ≤ n
  | n, x, y, h => by
    have fl : ∀ x : V, flt1 x = true → ∃ d, Dp K H x d ∧ Dp K H x d ∧ d.canLay0 = true ∧ d.depth ≤ n := by
      intro x h
      cases x with
      | non => exact ⟨_, .non, .non, rfl, Nat.zero_le _⟩
      | bl b => exact ⟨_, .bl b, .bl b, rfl, Nat.zero_le _⟩
      | int i => exact ⟨_, .int i, .int i, rfl, Nat.zero_le _⟩
      | str z => exact ⟨_, .str z, .str z, (by unfold PyData.canLay0; exact h), Nat.zero_le _⟩
      | _ => cases h
    cases n with
    | zero =>
      obtain ⟨rfl, h⟩ := h
      exact fl x h
    | succ n =>
      rcases h with ⟨rfl, h⟩ | ⟨a, b, xs, ys, rfl, rfl, hS, hl, _, hi⟩
      · exact fl x h
      · have all : ∀ (xs ys : List V), xs.length = ys.length → (∀ (i : Nat) (u v : V), xs[i]? = some u → ys[i]? = some v → Sm K H n u v) → ∃ ds, DpAll K H xs ds ∧ DpAll K H ys ds ∧ PyData.canLayAll0 ds = true ∧ PyData.depthAll ds ≤ n := by
          intro xs
          induction xs with
          | nil =>
            intro ys hl _
            cases ys with
            | nil => exact ⟨[], .nil, .nil, rfl, Nat.zero_le _⟩
            | cons _ _ => cases hl
          | cons x xs ih =>
            intro ys hl hi
            cases ys with
            | nil => cases hl
            | cons y ys =>
              obtain ⟨d, d1, d2, d3, d4⟩ := Sm.data n x y (hi 0 x y rfl rfl)
              obtain ⟨ds, e1, e2, e3, e4⟩ := ih ys (Nat.succ.inj hl) fun i u v hu hv => hi (i + 1) u v hu hv
              refine ⟨d :: ds, .cons d1 e1, .cons d2 e2, ?_, ?_⟩
              · simp [PyData.canLayAll0, d3, e3]
              · simp only [PyData.depthAll]
                omega
        obtain ⟨ds, e1, e2, e3, e4⟩ := all xs ys hl hi
        rcases hS with ⟨h1, h2⟩ | ⟨h1, h2⟩
        · exact ⟨.list ds, .lst h1 e1, .lst h2 e2, e3, by simp only [PyData.depth]; omega⟩
        · exact ⟨.tuple ds, .tup h1 e1, .tup h2 e2, e3, by simp only [PyData.depth]; omega⟩
theorem Sm.shaped {K : PySem.W.Frag} {H : Hp} {n : Nat} {x y : V} (h : Sm K H n x y) (hn : n ≤ 64) : ∃ d, Dp K H x d ∧ Dp K H y d ∧ SeqAt.shaped d = true ∧ PyData.eqv d d = true := by
  obtain ⟨d, d1, d2, d3, d4⟩ := Sm.data n x y h
  refine ⟨d, d1, d2, ?_, SeqAt.eqv_refl d d3⟩
  unfold SeqAt.shaped
  rw [d3, decide_eq_true (show d.depth ≤ 64 by omega)]
  rfl
theorem ne_same {K : PySem.W.Frag} {H : Hp} {n : Nat} {x y : V} {Q : VK} (h : Sm K H n x y) (hn : n ≤ 64) (q : Q (.bl false) H) : rNeD K x y H Q := by
  obtain ⟨d, d1, d2, d3, d4⟩ := h.shaped hn
  exact ⟨d, d, d1, d2, d3, d3, by rw [d4]; exact q⟩
theorem eq_same {K : PySem.W.Frag} {H : Hp} {n : Nat} {x y : V} {Q : VK} (h : Sm K H n x y) (hn : n ≤ 64) (q : Q (.bl true) H) : rEqD K x y H Q := by
  obtain ⟨d, d1, d2, d3, d4⟩ := h.shaped hn
  exact ⟨d, d, d1, d2, d3, d3, by rw [d4]; exact q⟩

/-- an empty set, as it is laid -/
abbrev eSet (w : World) : Obj := { cls := .type "set", dict := none, data := .set #[] 0 (.fresh 0 0 (!w.params.followText "set-order")) }
section
variable {P : Program} {w : World} {A : Around} {E : Value → Shared → Prop} {s : Shared}
/-- a set of the ints of a list, with its order -/
theorem set_of_list {l : Addr} {vs : Array Value} (ks : List Int) {Q : Value → Shared → Prop} (nh : A.handled = none) (isl : s.heap.IsList l vs) (hint : IntsAre vs.toList ks) (few : ks.length + 1 < scanBound)
    (fin : ∀ (g : Heap) (tk c : Nat), SetR w g s.heap.objs.size (fun j => decide (j ∈ ks)) c → c ≤ ks.length → (∀ b o, s.heap.get? b = some o → g.get? b = some o) → Q (.ref s.heap.objs.size) { s with heap := g, toks := tk }) :
    wpAny (model P w) A (call (.type "set") [.ref l]) Q E s := by
  have sz : vs.size = ks.length := by have := IntsAre.length hint; rw [Array.length_toList] at this; exact this
  obtain ⟨_, _, m1⟩ := F.called_set.mro
  have m2 := F.called_set.made
  have m3 := F.called_set.sub
  refine wpAny_call (codeAny_of_tree (?_ : wpAny _ _ (callAny (.type "set") _) _ _ _))
  refine wpAny_pure ⟨Code.quiet_builtin _ (by decide +kernel), codeAny_builtin F.entry_type_call (?_ : wpAny _ _ _ _ _ _)⟩
  rw [Around.under_plain (weight_type_call_type "set" [.ref l] []) rfl]
  have m4 := F.called_set.notType
  have m5 := F.called_set.canCreate
  have m6 := F.typeCall_set_1 (.ref l)
  repeat (any_goals (first | assumption | wp_step))
  refine codeAny_mono (code_set_led1 (.ref l) (E := E) (Q₁ := fun u t => u = .ref s.heap.objs.size ∧ t = { s with heap := s.heap.push (eSet w) }) ⟨rfl, rfl⟩) fun r t1 hr => ?_
  match r, hr with
  | .error _, hr => exact hr
  | .ok (.ret _), hr =>
    obtain ⟨rfl, rfl⟩ := hr
    have gS : (s.heap.push (eSet w)).get? s.heap.objs.size = some (eSet w) := Heap.get?_push_size _ rfl
    have tS : Shared.TypeIs { s with heap := s.heap.push (eSet w) } (.ref s.heap.objs.size) "set" := ⟨_, gS, rfl⟩
    have i1 := F.called_set.init.lookup
    have i2 := F.called_set.init.bind (.ref s.heap.objs.size)
    repeat (any_goals (first | assumption | wp_step))
    refine codeAny_mono (codeAny_call_builtin (R := wants (fun r t => r = .none ∧ ∃ g tk c, t = { s with heap := g, toks := tk } ∧ SetR w g s.heap.objs.size (fun j => decide (j ∈ ks)) c ∧ c ≤ ks.length ∧ ∀ b o, s.heap.get? b = some o → g.get? b = some o) E)
      F.called_set.init.plain F.entry_set_init (check_set_init_1 tS ?_)) fun r2 t2 hr2 => ?_
    · obtain ⟨⟨c1, c2, c3, c4⟩, ho, hc, nl, hd⟩ := isl
      simp only at hc hd
      subst hc hd
      have ho2 : (s.heap.push (eSet w)).get? l = some { cls := .type "list", dict := c2, data := .seq vs nl, slots := c4 } := Heap.get?_push_of_some _ ho
      have n1 := F.sub_list_set
      have n2 := F.sub_list_frozenset
      have n3 : (Value.type "list" == Value.type "dict") = false := by decide
      have li : (s.heap.push (eSet w)).IsList l vs := ⟨_, ho2, rfl, nl, rfl⟩
      unfold Builtin.«set.__init__» noKeywords Builtin.Frozenset.updateFrom
      generalize hPI : pyIter = PI
      wp_walk
      subst hPI
      refine wpAny_pyIter_list li (wpAny_bind (wpAny_runValue ?_))
      have lt : l < s.heap.objs.size := Heap.lt_size ho
      have ne1 : l ≠ (s.heap.push (eSet w)).objs.size := by rw [Heap.size_push]; exact Nat.ne_of_lt (Nat.lt_succ_of_lt lt)
      have ne2 : s.heap.objs.size ∉ [(s.heap.push (eSet w)).objs.size, l] := by
        rw [Heap.size_push]
        simp only [List.mem_cons, List.not_mem_nil, or_false, not_or]
        exact ⟨Nat.ne_of_lt (Nat.lt_succ_self _), (Nat.ne_of_lt lt).symm⟩
      refine set_update_ints ((Walks.list (by simp [nh]) _ l ne1 vs).toS) s.heap.objs.size ne2 ks sz few (fun i v hv => ?_) (vs.size - 0) 0 _ (by omega) (Nat.zero_le _) ⟨⟨_, Heap.get?_push_size _ rfl, rfl, rfl⟩, li.push _⟩ ?_ ?_
      · have hi : i < ks.length := by rw [← sz]; exact (Array.getElem?_eq_some_iff.mp hv).1
        obtain ⟨t, e⟩ := PyProof.Rows.IntsAre.int_at hint i v (by rw [Array.getElem?_toList]; exact hv)
        refine ⟨ks[i], t, List.getElem?_eq_getElem hi, ?_⟩
        rw [e, List.getD_eq_getElem?_getD, List.getElem?_eq_getElem hi]
        rfl
      · exact ⟨0, Nat.le_refl 0, setR_new_at (Heap.get?_push_of_some _ gS)⟩
      · rintro ⟨g, g2, d2, tk, o2⟩ c mv hc2 hR
        have q1 : g2 = s.gens := mv.gens
        have q2 : d2 = s.drawn := mv.drawn
        have q3 : o2 = s.os := mv.os
        subst q1 q2 q3
        change wpAny _ _ _ _ _ _
        refine wpAny_pure ?_
        change wpAny _ _ (ret .none) _ _ _
        rw [sz] at hc2
        refine wpAny_pure ⟨rfl, g, tk, c, rfl, hR, hc2, fun b o e => ?_⟩
        have b0 : b < s.heap.objs.size := Heap.lt_size e
        refine mv.heap b o ?_ (Heap.get?_push_of_some _ (Heap.get?_push_of_some _ e))
        rw [Heap.size_push]
        simp only [List.mem_cons, List.not_mem_nil, or_false, not_or]
        exact ⟨Nat.ne_of_lt b0, Nat.ne_of_lt (Nat.lt_succ_of_lt b0)⟩
    · match r2, hr2 with
      | .error _, hr2 => exact hr2
      | .ok (.ret _), hr2 =>
        obtain ⟨rfl, g, tk, c, rfl, hR, hc2, k⟩ := hr2
        repeat (any_goals (first | assumption | wp_step))
        exact fin g tk c hR hc2 k
end
/-- set(xs), xs a list of ints -/
def rSetL1 (K : PySem.W.Frag) (w : World) : List V → Hp → VK → Prop := fun xs H Q => ∃ (p : Addr) (ns : List Int), xs = [.ref p] ∧ SqL K H p (ns.map V.int) ∧ ns.length ≤ 1000 ∧
  ∀ (q : Addr) (c : Nat), H q = none → c ≤ ns.length → Q (.ref q) (upd H q (SetO w q (fun j => decide (j ∈ ns)) c))
theorem cr_set1 {X : Cx} (hc : X.calm = true) : CallR X (.type "set") (rSetL1 X.K X.w) := by
  intro pins s σ H xs us Q I r h
  obtain ⟨p, ns, rfl, hq, hl, q⟩ := h
  rw [Vals.ref1 r]
  obtain ⟨its, rv, pl, hz⟩ := I.list hq
  refine set_of_list ns (I.ok.hd hc) pl.isList (by simpa using intsAre_of rv) (by unfold scanBound; omega) fun g tk c R hcn k => ?_
  exact ⟨.ref s.heap.objs.size, upd H s.heap.objs.size (SetO X.w s.heap.objs.size (fun j => decide (j ∈ ns)) c), I.laid (t' := tk) k (Nat.le_refl _) (setO_new R), rfl, q _ c (I.hok.fresh (Nat.le_refl _)) hcn⟩

/-- the sum of the pairs -/
def W (l : List Int) : Int := 256 * (alt l).sum + (alt (l.drop 1)).sum
def fo (t : Int) : Int := if t = 0 then 0 else (t - 1) % 65535 + 1
def Oc (l : List Int) : Prop := ∀ x ∈ l, 0 ≤ x ∧ x ≤ 255
theorem W_two (x y : Int) (r : List Int) : W (x :: y :: r) = 256 * x + y + W r := by
  unfold W
  cases r with
  | nil =>
    simp [alt]
  | cons z r =>
    show 256 * (x :: alt (z :: r)).sum + (alt (y :: z :: r)).sum = _
    show 256 * (x :: alt (z :: r)).sum + (y :: alt r).sum = 256 * x + y + (256 * (alt (z :: r)).sum + (alt r).sum)
    rw [List.sum_cons, List.sum_cons]
    omega
theorem W_bnd : ∀ (l : List Int), Oc l → 0 ≤ W l ∧ W l ≤ 65535 * (l.length : Int)
  | [], _ => ⟨by decide, by decide⟩
  | [x], h => by
    have hx := h x List.mem_cons_self
    have e : W [x] = 256 * x := by simp [W, alt]
    rw [e]
    simp only [List.length_cons, List.length_nil]
    omega
  | x :: y :: r, h => by
    have hx := h x List.mem_cons_self
    have hy := h y (List.mem_cons_of_mem _ List.mem_cons_self)
    have ih := W_bnd r fun z hz => h z (List.mem_cons_of_mem _ (List.mem_cons_of_mem _ hz))
    rw [W_two]
    simp only [List.length_cons]
    omega
theorem W_app : ∀ (a b : List Int), a.length % 2 = 0 → W (a ++ b) = W a + W b
  | [], b, _ => by
    show W b = 0 + W b
    omega
  | [x], b, h => by simp at h
  | x :: y :: r, b, h => by
    have ih := W_app r b (by simp only [List.length_cons] at h; omega)
    show W (x :: y :: (r ++ b)) = _
    rw [W_two, W_two, ih]
    omega
/-- weights by places -/
def wt : Bool → List Int → Int
  | _, [] => 0
  | b, x :: r => x * (if b = true then 256 else 1) + wt (!b) r
theorem wt_W : ∀ l : List Int, wt true l = W l
  | [] => rfl
  | [x] => by
    simp [wt, W, alt]
    omega
  | x :: y :: r => by
    rw [W_two, ← wt_W r]
    show x * 256 + (y * 1 + wt true r) = _
    omega
theorem wt_take : ∀ (l : List Int) (b : Bool) (k : Nat) (x : Int), l[k]? = some x → wt b (l.take (k + 1)) = wt b (l.take k) + x * (if (decide (k % 2 = 0) == b) = true then 256 else 1)
  | [], b, k, x, h => by simp at h
  | y :: r, b, 0, x, h => by
    have e : y = x := Option.some.inj h
    subst e
    show y * (if b = true then 256 else 1) + 0 = 0 + y * (if (true == b) = true then 256 else 1)
    cases b
    · show y * 1 + 0 = 0 + y * 1
      omega
    · show y * 256 + 0 = 0 + y * 256
      omega
  | y :: r, b, k + 1, x, h => by
    have ih := wt_take r (!b) k x h
    show y * (if b = true then 256 else 1) + wt (!b) (r.take (k + 1)) = y * (if b = true then 256 else 1) + wt (!b) (r.take k) + x * (if (decide ((k + 1) % 2 = 0) == b) = true then 256 else 1)
    rw [ih]
    have e : (decide (k % 2 = 0) == !b) = (decide ((k + 1) % 2 = 0) == b) := by
      by_cases hk : k % 2 = 0
      · rw [decide_eq_true hk, decide_eq_false (by omega : ¬ (k + 1) % 2 = 0)]
        cases b <;> rfl
      · rw [decide_eq_false hk, decide_eq_true (by omega : (k + 1) % 2 = 0)]
        cases b <;> rfl
    rw [e]
    omega
/-- what is carried, added again -/
def cy (t : Int) : Int := t / 65536 + t % 65536
theorem cy6 (t : Int) (h0 : 0 ≤ t) (h1 : t ≤ 200000000) : cy (cy (cy (cy (cy (cy t))))) = fo t := by
  have step : ∀ a : Int, 0 ≤ a → 0 ≤ cy a ∧ (cy a) % 65535 = a % 65535 ∧ (cy a = 0 ↔ a = 0) := by
    intro a ha
    unfold cy
    omega
  have s1 := step t h0
  have b1 : cy t ≤ 68600 := by unfold cy; omega
  have s2 := step _ s1.1
  have b2 : cy (cy t) ≤ 65536 := by
    generalize cy t = a at *
    unfold cy
    omega
  have s3 := step _ s2.1
  have b3 : cy (cy (cy t)) ≤ 65535 := by
    generalize cy (cy t) = a at *
    unfold cy
    omega
  have e : ∀ a : Int, 0 ≤ a → a ≤ 65535 → cy a = a := by
    intro a ha hb
    unfold cy
    omega
  rw [e _ s3.1 b3, e _ s3.1 b3, e _ s3.1 b3]
  generalize cy (cy (cy t)) = c at *
  generalize cy (cy t) = b at *
  generalize cy t = a at *
  unfold fo
  split <;> omega
def spFolded (K : PySem.W.Frag) : Sp := fun vs H Q _ => ∃ (a : Addr) (ns : List Int), vs = [.ref a] ∧ SqL K H a (ns.map V.int) ∧ Oc ns ∧ ∀ H', Same H H' → Q (.int (fo (W ns))) H'
def spSumNo (K : PySem.W.Frag) : Sp := fun vs H Q _ => ∃ (a : Addr) (ns : List Int), vs = [.ref a] ∧ SqL K H a (ns.map V.int) ∧ Oc ns ∧ ∀ H', Same H H' → Q (.int (65535 - fo (W ns))) H'
def spLSum (K : PySem.W.Frag) : Sp := fun vs H Q _ => ∃ (a : Addr) (ns : List Int), vs = [.ref a] ∧ SqL K H a (ns.map V.int) ∧ Oc ns ∧ ns.length ≤ 2000 ∧ Q (.int (65535 - fo (W ns))) H
section
variable {P : Program} {w : World} {K : PySem.W.Frag} {mg : Str → Option Value} {base : Heap}
theorem ok_law_sum (T : Tx K mg) : FnOk P w K mg base CX0 1 T.ad_law_sum T.fd_law_sum ["octets"] (spLSum K) := by
  refine T.d_law_sum.F.ok x_law_sum (fun vs H Q E h => ?_) (fun cdv A outer s H vs Q E hr h => ?_)
  · obtain ⟨a, ns, rfl, _⟩ := h
    rfl
  · obtain ⟨a, ns, rfl, hS, ho, hl, q⟩ := h
    have nd := x_law_sum.nd
    refine ⟨_, (pss_cons (ps_set (i := 1) nd rfl (Or.inl rfl) pe_int)
        (pss_cons (ps_for PassesOwn.never rfl (pi_range1 (by rfl) T.b_range (pa_cons (pe_callB call_len_seq (by rfl) T.b_len (by decide +kernel) (pa_cons (pv 0) pa_nil)) pa_nil)) (pg_name (i := 2) nd rfl (Or.inl rfl)) (pss_one (ps_set (i := 1) nd rfl (Or.inl rfl) (pe_op op_add (pv 1) (pe_op op_mul (pe_ix ix_list (pv 0) (pv 2) (fun _ _ => rfl)) (pe_ifExp (pt_cmpR op_eq (pe_op op_mod (pe_callTy call_int1 (by rfl) T.b_int (by decide +kernel) (pa_cons (pv 2) pa_nil)) pe_int) pe_int (nomark _)) pe_int pe_int))))))
        (pss_cons (ps_for PassesOwn.never rfl (pi_range1 (by rfl) T.b_range (pa_cons pe_int pa_nil)) (pg_name (i := 3) nd rfl (Or.inl rfl)) (pss_one (ps_set (i := 1) nd rfl (Or.inl rfl) (pe_op op_add (pe_op op_fdiv (pv 1) pe_int) (pe_op op_mod (pe_callTy call_int1 (by rfl) T.b_int (by decide +kernel) (pa_cons (pv 1) pa_nil)) pe_int)))))
        (pss_one (ps_ret (pe_op op_sub pe_int (pv 1))))))), ?_⟩
    have hlm : ((ns.map V.int).length : Int) = (ns.length : Int) := by rw [List.length_map]
    refine ⟨_, rfl, a, _, rfl, .inl hS, _, rfl, by omega, by omega, for_range (n := ((ns.map V.int).length : Int).toNat) (fun i σ H' => ∃ v2 v3 : Option V, σ = [some (.ref a), some (.int (wt true (ns.take i))), v2, v3] ∧ H' = H)
      ⟨_, _, rfl, rfl⟩ ?_ ?_⟩
    · rintro i σ H1 hi ⟨v2, v3, rfl, rfl⟩
      have hin : i < ns.length := by omega
      have hx := List.getElem?_eq_getElem hin
      have hw := wt_take ns true i _ hx
      have hb : 0 ≤ ns[i] ∧ ns[i] ≤ 255 := ho _ (List.getElem_mem hin)
      refine ⟨_, rfl, _, rfl, _, rfl, a, _, _, .int ns[i], rfl, rfl, hS, at_of (j := i) (by omega) (by rw [List.getElem?_map, hx]; rfl), ?_⟩
      refine ⟨_, rfl, .inl ⟨_, rfl, _, _, rfl, rfl, (by show (0 : Int) < 2; decide), rfl, _, rfl, ite2 (fun e => ?_) (fun e => ?_)⟩⟩
      · have e1 : (0 + (i : Int)) % 2 = 0 := V.int.inj (of_decide_eq_true e)
        rw [if_pos (by rw [decide_eq_true (by omega : i % 2 = 0)]; rfl)] at hw
        refine ⟨_, _, rfl, rfl, .inr ⟨by decide, by decide⟩, _, _, rfl, rfl, some (.int (0 + (i : Int))), v3, ?_, rfl⟩
        rw [hw]
        rfl
      · have e1 : ¬ (0 + (i : Int)) % 2 = 0 := fun z => e (decide_eq_true (congrArg V.int z))
        rw [if_neg (by rw [decide_eq_false (by omega : ¬ i % 2 = 0)]; decide)] at hw
        refine ⟨_, _, rfl, rfl, .inr ⟨by decide, by decide⟩, _, _, rfl, rfl, some (.int (0 + (i : Int))), v3, ?_, rfl⟩
        rw [hw]
        rfl
    · rintro σ H1 ⟨v2, v3, rfl, rfl⟩
      have et : wt true (ns.take ((ns.map V.int).length : Int).toNat) = W ns := by
        rw [List.take_of_length_le (by omega), wt_W]
      rw [et]
      have hb := W_bnd ns ho
      have hc := cy6 (W ns) hb.1 (by omega)
      refine ⟨6, rfl, by decide, by decide, for_range (n := 6) (fun i σ H' => ∃ v3 : Option V, σ = [some (.ref a), some (.int (Nat.repeat cy i (W ns))), v2, v3] ∧ H' = H1)
        ⟨_, rfl, rfl⟩ ?_ ?_⟩
      · rintro i σ H2 hi ⟨v3, rfl, rfl⟩
        refine ⟨_, rfl, _, _, rfl, rfl, ⟨by decide, by decide⟩, _, rfl, .inl ⟨_, rfl, _, _, rfl, rfl, (by show (0 : Int) < 65536; decide), _, _, rfl, rfl, _, rfl, rfl⟩⟩
      · rintro σ H2 ⟨v3, rfl, rfl⟩
        refine ⟨_, rfl, _, _, rfl, rfl, ?_⟩
        have : Nat.repeat cy 6 (W ns) = fo (W ns) := hc
        rw [this]
        exact q
end

def spLaw (K : PySem.W.Frag) : Sp := fun vs H Q _ => ∃ (a : Addr) (ns : List Int), vs = [.ref a] ∧ SqL K H a (ns.map V.int) ∧ ns.length ≤ 63 ∧ ∀ H', Q (.bl true) H'
def spTwo : Sp := fun vs H Q _ => ∃ n : Int, vs = [.int n] ∧ ∀ p, H p = none → Q (.ref p) (upd H p (.lst [.int (n / 256), .int (n % 256)]))
/-- the moved sum -/
def mv (n o w : Int) : Int := if (65535 - n - o + w) % 65535 = 0 then 0 else 65535 - (65535 - n - o + w) % 65535
def spMoved (K : PySem.W.Frag) : Sp := fun vs H Q _ => ∃ (n : Int) (a b : Addr) (xs ys : List Int), vs = [.int n, .ref a, .ref b] ∧ SqL K H a (xs.map V.int) ∧ SqL K H b (ys.map V.int) ∧ Q (.int (mv n xs.sum ys.sum)) H
def Pr (l : List Int) : Prop := ∀ x ∈ l, 0 ≤ x ∧ x ≤ 65535
def octs : List Int → List Int
  | [] => []
  | x :: r => x / 256 :: x % 256 :: octs r
theorem octs_len : ∀ l : List Int, (octs l).length = 2 * l.length
  | [] => rfl
  | x :: r => by
    show (octs r).length + 1 + 1 = 2 * (r.length + 1)
    rw [octs_len r]
    omega
theorem octs_app : ∀ a b : List Int, octs (a ++ b) = octs a ++ octs b
  | [], _ => rfl
  | x :: r, b => by
    show _ :: _ :: octs (r ++ b) = _ :: _ :: (octs r ++ octs b)
    rw [octs_app r b]
theorem octs_oc : ∀ l : List Int, Pr l → Oc (octs l)
  | [], _ => fun y hy => nomatch hy
  | x :: r, h => fun y hy => by
    have hx := h x List.mem_cons_self
    have ih := octs_oc r fun z hz => h z (List.mem_cons_of_mem _ hz)
    rcases List.mem_cons.mp hy with rfl | hy
    · omega
    · rcases List.mem_cons.mp hy with rfl | hy
      · omega
      · exact ih y hy
theorem octs_W : ∀ l : List Int, W (octs l) = l.sum
  | [] => rfl
  | x :: r => by
    show W (x / 256 :: x % 256 :: octs r) = _
    rw [W_two, octs_W r, List.sum_cons]
    omega
def spOcts (K : PySem.W.Frag) : Sp := fun vs H Q _ => ∃ (a : Addr) (ps : List Int), vs = [.ref a] ∧ SqL K H a (ps.map V.int) ∧ ps.length ≤ 1000 ∧ ∀ (t : Addr) (H' : Hp), Same H H' → H' t = some (.lst ((octs ps).map V.int)) → Q (.ref t) H'
theorem Pr.set {l : List Int} (h : Pr l) {x : Int} (j : Nat) (h0 : 0 ≤ x) (h1 : x ≤ 65535) : Pr (l.set j x) := fun y hy => by
  rcases List.mem_or_eq_of_mem_set hy with hy | rfl
  · exact h y hy
  · exact ⟨h0, h1⟩
theorem Pr.sum : ∀ {l : List Int}, Pr l → 0 ≤ l.sum
  | [], _ => Int.le_refl _
  | x :: r, h => by
    have h1 := h x List.mem_cons_self
    have h2 := Pr.sum (l := r) fun z hz => h z (List.mem_cons_of_mem _ hz)
    rw [List.sum_cons]
    omega
theorem Pr.sum_pos {l : List Int} (h : Pr l) {j : Nat} {x : Int} (hj : l[j]? = some x) (hx : 0 < x) : 0 < l.sum := by
  induction l generalizing j with
  | nil => simp at hj
  | cons y r ih =>
    have hr : Pr r := fun z hz => h z (List.mem_cons_of_mem _ hz)
    have hy := h y List.mem_cons_self
    rw [List.sum_cons]
    cases j with
    | zero =>
      have e : y = x := Option.some.inj hj
      have := Pr.sum hr
      omega
    | succ j =>
      have := ih hr (j := j) hj
      omega
theorem diff_sum : ∀ (qs : List Nat) (P N : List Int), qs.Nodup → (∀ q ∈ qs, q < P.length) → P.length = N.length → (∀ i, i ∉ qs → P[i]? = N[i]?) →
    N.sum - P.sum = (qs.map fun q => N.getD q 0).sum - (qs.map fun q => P.getD q 0).sum
  | [], P, N, _, _, _, h => by
    have e : P = N := List.ext_getElem? fun i => h i (by simp)
    subst e
    show P.sum - P.sum = (0 : Int) - 0
    omega
  | q :: r, P, N, nd, hq, hl, h => by
    have nd2 := List.nodup_cons.mp nd
    have hqP : q < P.length := hq q List.mem_cons_self
    have hqN : q < N.length := by omega
    have eP : P[q]? = some (P.getD q 0) := by rw [List.getD_eq_getElem?_getD, List.getElem?_eq_getElem hqP]; rfl
    have eN : N[q]? = some (N.getD q 0) := by rw [List.getD_eq_getElem?_getD, List.getElem?_eq_getElem hqN]; rfl
    have ih := diff_sum r (P.set q (N.getD q 0)) N nd2.2 (fun x hx => by rw [List.length_set]; exact hq x (List.mem_cons_of_mem _ hx)) (by rw [List.length_set]; exact hl) (fun i hi => by
      by_cases e : i = q
      · subst e
        rw [List.getElem?_set_self hqP, eN]
      · rw [List.getElem?_set_ne (fun z => e z.symm)]
        exact h i (by simp [e, hi]))
    rw [sum_set eP] at ih
    have em : (r.map fun x => (P.set q (N.getD q 0)).getD x 0) = r.map fun x => P.getD x 0 := List.map_congr_left fun x hx => by
      have : q ≠ x := fun z => nd2.1 (z ▸ hx)
      rw [List.getD_eq_getElem?_getD, List.getElem?_set_ne this, List.getD_eq_getElem?_getD]
    rw [em] at ih
    rw [List.map_cons, List.map_cons, List.sum_cons, List.sum_cons]
    omega
theorem mv_right {S S' A B : Int} (h : S' - S = A - B) (h0 : 0 < S) (h1 : 0 < S') : mv (65535 - fo S) B A = 65535 - fo S' := by
  unfold mv fo
  rw [if_neg (by omega : ¬ S = 0), if_neg (by omega : ¬ S' = 0)]
  split <;> omega
theorem mv_any (n A B : Int) : 0 ≤ mv n B A ∧ mv n B A ≤ 65534 ∧ (mv n B A - n - B + A) % 65535 = 0 := by
  unfold mv
  split <;> omega
section
variable {P : Program} {w : World} {K : PySem.W.Frag} {mg : Str → Option Value} {base : Heap}
theorem ok_moved_sum (T : Tx K mg) : FnOk P w K mg base CX0 1 T.ad_moved_sum T.fd_moved_sum ["number", "olds", "news"] (spMoved K) := by
  refine T.d_moved_sum.F.ok x_moved_sum (fun vs H Q E h => ?_) (fun cdv A outer s H vs Q E hr h => ?_)
  · obtain ⟨n, a, b, xs, ys, rfl, _⟩ := h
    rfl
  · obtain ⟨n, a, b, xs, ys, rfl, hA, hB, q⟩ := h
    have nd := x_moved_sum.nd
    refine ⟨_, (pss_cons (ps_set (i := 3) nd rfl (Or.inl rfl) (pe_op op_mod (pe_op op_add (pe_op op_sub (pe_op op_sub pe_int (pv 0)) (pe_callB (cr_sum rfl) (by rfl) T.b_sum (by decide +kernel) (pa_cons (pv 1) pa_nil))) (pe_callB (cr_sum rfl) (by rfl) T.b_sum (by decide +kernel) (pa_cons (pv 2) pa_nil))) pe_int))
        (pss_cons (ps_if (pt_cmpR op_eq (pv 3) pe_int (nomark _)) (pss_one (ps_ret pe_int)) pss_nil)
        (pss_one (ps_ret (pe_op op_sub pe_int (pv 3)))))), ?_⟩
    refine ⟨_, rfl, _, _, rfl, rfl, _, rfl, a, xs, rfl, hA, _, _, rfl, rfl, _, rfl, b, ys, rfl, hB, _, _, rfl, rfl, _, _, rfl, rfl, (by show (0 : Int) < 65535; decide), ?_⟩
    unfold mv at q
    refine ⟨_, rfl, rfl, _, rfl, ite2 (fun e => ?_) (fun e => ?_)⟩
    · have z : (65535 - n - xs.sum + ys.sum) % 65535 = 0 := V.int.inj (of_decide_eq_true e)
      rw [if_pos z] at q
      exact q
    · have z : ¬ (65535 - n - xs.sum + ys.sum) % 65535 = 0 := fun z => e (decide_eq_true (congrArg V.int z))
      rw [if_neg z] at q
      exact ⟨_, rfl, _, _, rfl, rfl, q⟩
theorem ok_law_two (T : Tx K mg) : FnOk P w K mg base CX0 1 T.ad_law_two T.fd_law_two ["number"] spTwo := by
  refine T.d_law_two.F.ok x_law_two (fun vs H Q E h => ?_) (fun cdv A outer s H vs Q E hr h => ?_)
  · obtain ⟨n, rfl, _⟩ := h
    rfl
  · obtain ⟨n, rfl, q⟩ := h
    have nd := x_law_two.nd
    refine ⟨_, (pss_one (ps_ret (pe_lst (pa_cons (pe_op op_fdiv (pv 0) pe_int) (pa_cons (pe_op op_mod (pe_callTy call_int1 (by rfl) T.b_int (by decide +kernel) (pa_cons (pv 0) pa_nil)) pe_int) pa_nil))))), ?_⟩
    exact ⟨_, rfl, _, _, rfl, rfl, ⟨by decide, by decide⟩, _, rfl, .inl ⟨_, rfl, _, _, rfl, rfl, (by show (0 : Int) < 256; decide), by show 2 ≤ sizeLine; decide, fun p hp => q p hp⟩⟩
theorem ok_law_octets_of (T : Tx K mg) : FnOk P w K mg base CX0 2 T.ad_law_octets_of T.fd_law_octets_of ["pairs"] (spOcts K) := by
  refine T.d_law_octets_of.F.ok x_law_octets_of (fun vs H Q E h => ?_) (fun cdv A outer s H vs Q E hr h => ?_)
  · obtain ⟨a, ps, rfl, _⟩ := h
    rfl
  · obtain ⟨a, ps, rfl, hS, hl, q⟩ := h
    have nd := x_law_octets_of.nd
    refine ⟨_, (pss_cons (ps_set (i := 1) nd rfl (Or.inl rfl) (pe_lst pa_nil))
        (pss_cons (ps_for PassesOwn.never rfl (pi_list (pv 0)) (pg_name (i := 2) nd rfl (Or.inl rfl)) (pss_one (ps_set (i := 1) nd rfl (Or.inl rfl) (pe_op op_cat (pv 1) (pe_call (ok_law_two T) hr (by rfl) T.d_law_two.g T.d_law_two.F.kp T.d_law_two.b .nil pass0 (pa_cons (pv 2) pa_nil))))))
        (pss_one (ps_ret (pv 1))))), ?_⟩
    refine ⟨by show 0 ≤ sizeLine; decide, fun l0 n0 => ?_⟩
    refine ⟨_, rfl, a, rfl, ⟨_, (same_upd n0).seq hS⟩, for_list (K := K) (a := a) (xs := ps.map V.int) (fun i σ H' => ∃ (l : Addr) (v2 : Option V), σ = [some (.ref a), some (.ref l), v2] ∧ Same H H' ∧ H' l = some (.lst ((octs (ps.take i)).map V.int)))
      ⟨l0, none, rfl, same_upd n0, upd_same⟩ (fun i σ H' _ ⟨_, _, _, z, _⟩ => z.seq hS) ?_ ?_⟩
    · rintro i x σ H1 hx ⟨l, v2, rfl, s1, g1⟩
      obtain ⟨z, hz, rfl⟩ : ∃ z, ps[i]? = some z ∧ x = V.int z := by
        rw [List.getElem?_map] at hx
        cases e : ps[i]? with
        | none => rw [e] at hx; cases hx
        | some z => rw [e] at hx; exact ⟨z, rfl, (Option.some.inj hx).symm⟩
      refine ⟨_, rfl, _, rfl, z, rfl, fun t ht => ?_⟩
      have s2 := same_upd (o := .lst [.int (z / 256), .int (z % 256)]) ht
      refine ⟨l, t, _, _, rfl, rfl, s2 _ _ g1, upd_same, ?_, fun y hy => ⟨y, _, rfl, s1.trans (s2.trans (same_upd hy)), ?_⟩⟩
      · rw [List.length_map, octs_len, List.length_take]
        exact Nat.le_trans (m := 10000) (by simp only [List.length_cons, List.length_nil]; omega) (by decide)
      · rw [upd_same, List.take_add_one, hz, octs_app, List.map_append]
        rfl
    · rintro σ H1 ⟨l, v2, rfl, s1, g1⟩
      rw [List.length_map, List.take_length] at g1
      exact ⟨_, rfl, q l H1 s1 g1⟩
end
/-- what follows, shown once -/
theorem seq_key {a r : TS} {D : Ends} {σ : L2.St} {H : Hp} (Good : L2.St → Hp → Prop) (key : ∀ σ' H', Good σ' H' → r D σ' H') (h : (∀ σ' H', Good σ' H' → r D σ' H') → tSeq a r D σ H) : tSeq a r D σ H := h key
theorem seq_if {c : TT} {t u r : TS} {D : Ends} {σ : L2.St} {H : Hp} (Good : L2.St → Hp → Prop) (key : ∀ σ' H', Good σ' H' → r D σ' H') (h : (∀ σ' H', Good σ' H' → r D σ' H') → tSeq (tIfS c t u) r D σ H) : tSeq (tIfS c t u) r D σ H := h key
theorem gn {i : Nat} {v : V} {σ : L2.St} {H : Hp} {Q : L2.St → Hp → Prop} (h : Q (σ.set i (some v)) H) : gName i v σ H Q := h
theorem nx_go {f : L2.St → Hp → Prop} {rt : V → Hp → Prop} {bk ct : L2.St → Hp → Prop} {σ : L2.St} {H : Hp} (h : f σ H) : Ends.nx ⟨f, rt, bk, ct⟩ σ H := h

theorem at_int {l : List Int} {i : Nat} {x : V} (h : (l.map V.int)[i]? = some x) : ∃ z, l[i]? = some z ∧ x = V.int z := by
  rw [List.getElem?_map] at h
  cases e : l[i]? with
  | none => rw [e] at h; cases h
  | some z => rw [e] at h; exact ⟨z, rfl, (Option.some.inj h).symm⟩
theorem LS.upd {H : Hp} {p c l : Addr} {o : HO} (h : LS H p c) (lp : l ≠ p) (lc : l ≠ c) : LS (upd H l o) p c := by
  obtain ⟨k, cs, z1, z2, z3⟩ := h
  exact ⟨k, cs, by rw [upd_ne lp.symm]; exact z1, by rw [upd_ne lc.symm]; exact z2, z3⟩
theorem ixN_of {n j : Nat} {i : Int} (e : i = (j : Int)) (h : j < n) : ixN n i = some j := by
  subst e
  unfold ixN
  rw [if_pos (by omega), if_pos (by omega), Int.toNat_natCast]
section
variable {P : Program} {w : World} {K : PySem.W.Frag} {mg : Str → Option Value} {base : Heap}
theorem ok_law (T : Tx K mg) : FnOk P w K mg base CX0 3 T.ad_law T.fd_law ["script"] (spLaw K) := by
  refine T.d_law.F.ok x_law (fun vs H Q E h => ?_) (fun cdv A outer s H vs Q E hr h => ?_)
  · obtain ⟨a, ns, rfl, _⟩ := h
    rfl
  · obtain ⟨a0, ns, rfl, hS, hlen, q⟩ := h
    have nd := x_law.nd
    refine ⟨_, (pss_cons (ps_set (i := 1) nd rfl (Or.inr rfl) (pe_call (ok_law_state T) (hr.mono (by decide)) (by rfl) T.d_law_state.g T.d_law_state.F.kp T.d_law_state.b .nil pass0 (pa_cons (pv 0) pa_nil)))
        (pss_cons (ps_if (PW.pt (pw_or (pt_not (pt_val (pe_call (ok_same T 0) (hr.mono (by decide)) (by rfl) T.d_law_same.g T.d_law_same.F.kp T.d_law_same.b .nil pass0 (pa_cons (pe_call (ok_moved_sum T) (hr.mono (by decide)) (by rfl) T.d_moved_sum.g T.d_moved_sum.F.kp T.d_moved_sum.b .nil pass0 (pa_cons (pe_op op_sub pe_int pe_int) (pa_cons (pe_lst (pa_cons pe_int pa_nil)) (pa_cons (pe_lst (pa_cons pe_int pa_nil)) pa_nil)))) (pa_cons (pe_op op_sub pe_int pe_int) pa_nil))))) (pw_or1 (pt_not (pt_val (pe_call (ok_same T 0) (hr.mono (by decide)) (by rfl) T.d_law_same.g T.d_law_same.F.kp T.d_law_same.b .nil pass0 (pa_cons (pe_call (ok_moved_sum T) (hr.mono (by decide)) (by rfl) T.d_moved_sum.g T.d_moved_sum.F.kp T.d_moved_sum.b .nil pass0 (pa_cons pe_int (pa_cons (pe_lst (pa_cons pe_int pa_nil)) (pa_cons (pe_lst (pa_cons pe_int pa_nil)) pa_nil)))) (pa_cons pe_int pa_nil)))))))) (pss_one (ps_ret pe_bl)) pss_nil)
        (pss_cons (ps_for PassesOwn.never rfl (pi_range1 (by rfl) T.b_range (pa_cons pe_int pa_nil)) (pg_name (i := 2) nd rfl (Or.inl rfl)) (pss_cons (ps_set (i := 3) nd rfl (Or.inr rfl) (pe_lc (own := [("k", 12)]) (g := gName 12) rfl nd (pi_range1 (by rfl) T.b_range (pa_cons (pe_op op_add pe_int (pe_call (ok_law_take T) (hr.mono (by decide)) (by rfl) T.d_law_take.g T.d_law_take.F.kp T.d_law_take.b .nil pass0 (pa_cons (pv 1) (pa_cons pe_int pa_nil)))) pa_nil)) (blkOk_by (own := [("k", 12)]) (N := Ns_law) (sc := defScope s_law) (by decide +kernel)) (fun _ _ _ _ _ => (pg_name (i := 12) nd rfl (Or.inl rfl))) (fun _ _ _ _ _ => pts_nil) (fun _ _ _ _ _ => (pe_call (ok_law_number T) hr (by rfl) T.d_law_number.g T.d_law_number.F.kp T.d_law_number.b .nil pass0 (pa_cons (pv 1) (pa_cons pe_int (pa_cons pe_int pa_nil)))))))
        (pss_cons (ps_if (pt_cmpR op_eq (pe_call (ok_law_take T) (hr.mono (by decide)) (by rfl) T.d_law_take.g T.d_law_take.F.kp T.d_law_take.b .nil pass0 (pa_cons (pv 1) (pa_cons pe_int pa_nil))) pe_int (nomark _)) (pss_one (ps_set (i := 3) nd rfl (Or.inr rfl) (pe_lc (own := [("pair", 13)]) (g := gName 13) rfl nd (pi_list (pv 3)) (blkOk_by (own := [("pair", 13)]) (N := Ns_law) (sc := defScope s_law) (by decide +kernel)) (fun _ _ _ _ _ => (pg_name (i := 13) nd rfl (Or.inl rfl))) (fun _ _ _ _ _ => pts_nil) (fun _ _ _ _ _ => pe_int)))) pss_nil)
        (pss_cons (ps_asg (pe_op op_add pe_int (pe_call (ok_law_take T) (hr.mono (by decide)) (by rfl) T.d_law_take.g T.d_law_take.F.kp T.d_law_take.b .nil pass0 (pa_cons (pv 1) (pa_cons pe_int pa_nil)))) (pg_sub (pv 3) (pe_call (ok_law_take T) (hr.mono (by decide)) (by rfl) T.d_law_take.g T.d_law_take.F.kp T.d_law_take.b .nil pass0 (pa_cons (pv 1) (pa_cons (pe_callB call_len_seq (by rfl) T.b_len (by decide +kernel) (pa_cons (pv 3) pa_nil)) pa_nil))) set_list))
        (pss_cons (ps_set (i := 4) nd rfl (Or.inr rfl) (pe_callTy call_list_of (by rfl) T.b_list (by decide +kernel) (pa_cons (pv 3) pa_nil)))
        (pss_cons (ps_set (i := 5) nd rfl (Or.inl rfl) (pe_callB (r := rSortedSet w) (cr_sortedSet rfl) (by rfl) T.b_sorted (by decide +kernel) (pa_cons (pe_callTy (r := rSetL1 K w) (cr_set1 rfl) (by rfl) T.b_set (by decide +kernel) (pa_cons (pe_lc (own := [("k", 12)]) (g := gName 12) rfl nd (pi_range1 (by rfl) T.b_range (pa_cons (pe_call (ok_law_take T) (hr.mono (by decide)) (by rfl) T.d_law_take.g T.d_law_take.F.kp T.d_law_take.b .nil pass0 (pa_cons (pv 1) (pa_cons pe_int pa_nil))) pa_nil)) (blkOk_by (own := [("k", 12)]) (N := Ns_law) (sc := defScope s_law) (by decide +kernel)) (fun _ _ _ _ _ => (pg_name (i := 12) nd rfl (Or.inl rfl))) (fun _ _ _ _ _ => pts_nil) (fun _ _ _ _ _ => (pe_call (ok_law_take T) (hr.mono (by decide)) (by rfl) T.d_law_take.g T.d_law_take.F.kp T.d_law_take.b .nil pass0 (pa_cons (pv 1) (pa_cons (pe_callB (r := rLenS K) call_len_seq (by rfl) T.b_len (by decide +kernel) (pa_cons (pv 3) pa_nil)) pa_nil))))) pa_nil)) pa_nil)))
        (pss_cons (ps_for PassesOwn.never rfl (pi_list (pv 5)) (pg_name (i := 6) nd rfl (Or.inl rfl)) (pss_one (ps_asg (pe_call (ok_law_number T) hr (by rfl) T.d_law_number.g T.d_law_number.F.kp T.d_law_number.b .nil pass0 (pa_cons (pv 1) (pa_cons pe_int (pa_cons pe_int pa_nil)))) (pg_sub (pv 4) (pv 6) set_list))))
        (pss_cons (ps_if (pt_cmpR op_eq (pe_callB (cr_sum rfl) (by rfl) T.b_sum (by decide +kernel) (pa_cons (pv 4) pa_nil)) pe_int (nomark _)) (pss_cons (ps_asg (pe_op op_add pe_int (pe_call (ok_law_take T) (hr.mono (by decide)) (by rfl) T.d_law_take.g T.d_law_take.F.kp T.d_law_take.b .nil pass0 (pa_cons (pv 1) (pa_cons pe_int pa_nil)))) (pg_sub (pv 4) pe_int set_list))
        (pss_one (ps_set (i := 5) nd rfl (Or.inl rfl) (pe_callB (r := rSortedSet w) (cr_sortedSet rfl) (by rfl) T.b_sorted (by decide +kernel) (pa_cons (pe_callTy (r := rSetL1 K w) (cr_set1 rfl) (by rfl) T.b_set (by decide +kernel) (pa_cons (pe_op op_cat (pv 5) (pe_lst (pa_cons pe_int pa_nil))) pa_nil)) pa_nil))))) pss_nil)
        (pss_cons (ps_par (i := 7) (j := 8) (by rfl) nd rfl rfl (by decide) rfl rfl (pa_cons (pe_lc (own := [("place", 6)]) (g := gName 6) rfl nd (pi_list (pv 5)) (blkOk_by (own := [("place", 6)]) (N := Ns_law) (sc := defScope s_law) (by decide +kernel)) (fun _ _ _ _ _ => (pg_name (i := 6) nd rfl (Or.inl rfl))) (fun _ _ _ _ _ => pts_nil) (fun _ _ _ _ _ => (pe_ix (r := rIxL K) ix_list (pv 3) (pv 6) (fun _ _ => rfl)))) (pa_cons (pe_lc (own := [("place", 6)]) (g := gName 6) rfl nd (pi_list (pv 5)) (blkOk_by (own := [("place", 6)]) (N := Ns_law) (sc := defScope s_law) (by decide +kernel)) (fun _ _ _ _ _ => (pg_name (i := 6) nd rfl (Or.inl rfl))) (fun _ _ _ _ _ => pts_nil) (fun _ _ _ _ _ => (pe_ix (r := rIxL K) ix_list (pv 4) (pv 6) (fun _ _ => rfl)))) pa_nil)) (by rfl))
        (pss_cons (ps_set (i := 9) nd rfl (Or.inl rfl) (pe_lst (pa_cons (pe_callTy call_list_of (by rfl) T.b_list (by decide +kernel) (pa_cons (pv 7) pa_nil)) (pa_cons (pe_callTy call_list_of (by rfl) T.b_list (by decide +kernel) (pa_cons (pv 8) pa_nil)) pa_nil))))
        (pss_cons (ps_set (i := 10) nd rfl (Or.inl rfl) (pe_call (ok_moved_sum T) (hr.mono (by decide)) (by rfl) T.d_moved_sum.g T.d_moved_sum.F.kp T.d_moved_sum.b .nil pass0 (pa_cons (pe_call (ok_law_sum T) (hr.mono (by decide)) (by rfl) T.d_law_sum.g T.d_law_sum.F.kp T.d_law_sum.b .nil pass0 (pa_cons (pe_call (ok_law_octets_of T) hr (by rfl) T.d_law_octets_of.g T.d_law_octets_of.F.kp T.d_law_octets_of.b .nil pass0 (pa_cons (pv 3) pa_nil)) pa_nil)) (pa_cons (pe_ix ix_list (pv 9) pe_int (fun _ _ => rfl)) (pa_cons (pe_ix ix_list (pv 9) pe_int (fun _ _ => rfl)) pa_nil)))))
        (pss_cons (ps_if (PW.pt (pw_or (pt_not (pt_val (pe_call (ok_same T 0) (hr.mono (by decide)) (by rfl) T.d_law_same.g T.d_law_same.F.kp T.d_law_same.b .nil pass0 (pa_cons (pv 10) (pa_cons (pe_call (ok_law_sum T) (hr.mono (by decide)) (by rfl) T.d_law_sum.g T.d_law_sum.F.kp T.d_law_sum.b .nil pass0 (pa_cons (pe_call (ok_law_octets_of T) hr (by rfl) T.d_law_octets_of.g T.d_law_octets_of.F.kp T.d_law_octets_of.b .nil pass0 (pa_cons (pv 4) pa_nil)) pa_nil)) pa_nil))))) (pw_or1 (pt_cmpR (op_neD hr.units) (pv 9) (pe_lst (pa_cons (pv 7) (pa_cons (pv 8) pa_nil))) (nomark _))))) (pss_one (ps_ret pe_bl)) pss_nil)
        (pss_cons (ps_set (i := 11) nd rfl (Or.inl rfl) (pe_call (ok_law_number T) hr (by rfl) T.d_law_number.g T.d_law_number.F.kp T.d_law_number.b .nil pass0 (pa_cons (pv 1) (pa_cons pe_int (pa_cons pe_int pa_nil)))))
        (pss_cons (ps_set (i := 10) nd rfl (Or.inl rfl) (pe_call (ok_moved_sum T) (hr.mono (by decide)) (by rfl) T.d_moved_sum.g T.d_moved_sum.F.kp T.d_moved_sum.b .nil pass0 (pa_cons (pv 11) (pa_cons (pv 7) (pa_cons (pv 8) pa_nil)))))
        (pss_cons (ps_if (PW.pt (pw_or (pt_val (pe_callB call_isi (by rfl) T.b_isinstance (by decide +kernel) (pa_cons (pv 10) (pa_cons (pe_bltn (v := .ty "bool") (by rfl) T.b_bool (by decide +kernel) rfl) pa_nil)))) (pw_or (pt_not (pt_val (pe_callB call_isi (by rfl) T.b_isinstance (by decide +kernel) (pa_cons (pv 10) (pa_cons (pe_bltn (v := .ty "int") (by rfl) T.b_int (by decide +kernel) rfl) pa_nil))))) (pw_or (pt_cmpR op_lt (pv 10) pe_int (nomark _)) (pw_or1 (pt_cmpR op_gt (pv 10) pe_int (nomark _))))))) (pss_one (ps_ret pe_bl)) pss_nil)
        (pss_one (ps_if (pt_cmpR op_ne (pe_op op_mod (pe_callTy call_int1 (by rfl) T.b_int (by decide +kernel) (pa_cons (pe_op op_add (pe_op op_sub (pe_op op_sub (pv 10) (pv 11)) (pe_callB (cr_sum rfl) (by rfl) T.b_sum (by decide +kernel) (pa_cons (pv 7) pa_nil))) (pe_callB (cr_sum rfl) (by rfl) T.b_sum (by decide +kernel) (pa_cons (pv 8) pa_nil))) pa_nil)) pe_int) pe_int (nomark _)) (pss_one (ps_ret pe_bl)) pss_nil)))))))))))))))))
        (pss_one (ps_ret pe_bl))))), ?_⟩
    refine ⟨_, rfl, a0, ns, rfl, hS, hlen, fun p c H1 hL1 s1 np nc => ?_⟩
    refine ⟨_, _, rfl, rfl, by show 1 ≤ sizeLine; decide, fun x1 n1 => ⟨by show 1 ≤ sizeLine; decide, fun x2 n2 => ?_⟩⟩
    have u1 := same_upd (o := .lst [.int 7]) n1
    have u2 := same_upd (o := .lst [.int 9]) n2
    refine ⟨_, x1, x2, [7], [9], rfl, SqL.of (u2 _ _ upd_same), SqL.of upd_same, ?_⟩
    refine ⟨_, _, rfl, rfl, _, _, rfl, Sm.eq (congrArg V.int (by decide)) rfl, fun H2 s2 => ⟨_, rfl, ?_⟩⟩
    refine ⟨by show 1 ≤ sizeLine; decide, fun x3 n3 => ⟨by show 1 ≤ sizeLine; decide, fun x4 n4 => ?_⟩⟩
    have u3 := same_upd (o := .lst [.int 65535]) n3
    have u4 := same_upd (o := .lst [.int 65534]) n4
    refine ⟨_, x3, x4, [65535], [65534], rfl, SqL.of (u4 _ _ upd_same), SqL.of upd_same, ?_⟩
    refine ⟨_, _, rfl, Sm.eq (congrArg V.int (by decide)) rfl, fun H3 s3 => ⟨_, rfl, ?_⟩⟩
    have hL3 := hL1.same (u1.trans (u2.trans (s2.trans (u3.trans (u4.trans s3)))))
    refine ⟨6, rfl, by decide, by decide, for_range (n := 6) (fun i σ H' => ∃ v2 v3 v4 v5 v6 v7 v8 v9 v10 v11 : Option V, σ = [some (.ref a0), some (.ref p), v2, v3, v4, v5, v6, v7, v8, v9, v10, v11, none, none] ∧ LS H' p c)
      ⟨_, _, _, _, _, _, _, _, _, _, rfl, hL3⟩ ?_ ?_⟩
    · rintro i σ H4 hi ⟨v2, v3, v4, v5, v6, v7, v8, v9, v10, v11, rfl, hL4⟩
      refine ⟨_, rfl, p, c, 40, rfl, hL4, by decide, fun r H5 r0 r1 hL5 k5 => ⟨_, _, rfl, rfl, _, rfl, by omega, by omega, fun D hD => ?_⟩⟩
      have Dp := hL5.ne1 hD
      have Dc := hL5.ne2 hD
      refine lc_range (lo := 0) (n := (1 + r).toNat) (fun i H' => LS H' p c ∧ ∃ ps : List Int, Pr ps ∧ ps.length = i ∧ H' D = some (.lst (ps.map V.int))) ⟨hL5.new hD, [], (fun y hy => nomatch hy), rfl, upd_same⟩ ?_ ?_
      · rintro i2 H6 hi2 ⟨hL6, ps, hP, hl, g6⟩
        refine ⟨rfl, _, rfl, p, c, 0, 65535, rfl, hL6, by decide, fun z H7 z0 z1 hL7 k7 => ?_⟩
        refine ⟨_, k7 D _ g6 Dp Dc, ?_, hL7.upd Dp Dc, ps ++ [z], ?_, ?_, ?_⟩
        · rw [List.length_map]
          exact small1000 (by omega)
        · intro y hy
          rcases List.mem_append.mp hy with hy | hy
          · exact hP y hy
          · rw [List.mem_singleton.mp hy]
            exact ⟨z0, z1⟩
        · rw [List.length_append, hl]
          rfl
        · rw [upd_same, List.map_append]
          rfl
      · rintro H6 ⟨hL6, ps, hP, hl, g6⟩
        refine gn (nx_go ?_)
        refine seq_if (fun σ' H' => ∃ (D : Addr) (ps : List Int), σ' = [some (.ref a0), some (.ref p), some (.int (0 + (i : Int))), some (.ref D), v4, v5, v6, v7, v8, v9, v10, v11, none, none] ∧ LS H' p c ∧ H' D = some (.lst (ps.map V.int)) ∧ Pr ps ∧ 1 ≤ ps.length ∧ ps.length ≤ 40 ∧ D ≠ p ∧ D ≠ c) ?rest (fun key => ?_)
        rotate_left
        · refine ⟨_, rfl, p, c, 3, rfl, hL6, by decide, fun r2 H7 _ _ hL7 k7 => ?_⟩
          have g7 := k7 D _ g6 Dp Dc
          refine ⟨rfl, _, rfl, ite2 (fun _ => ?_) (fun _ => ?_)⟩
          · refine ⟨_, rfl, D, rfl, ⟨_, SqL.of g7⟩, fun D2 hD2 => ?_⟩
            refine lc_list (K := K) (a := D) (xs := ps.map V.int) (fun i H' => LS H' p c ∧ H' D = some (.lst (ps.map V.int)) ∧ ∃ zs : List Int, Pr zs ∧ zs.length = i ∧ H' D2 = some (.lst (zs.map V.int))) ⟨hL7.new hD2, same_upd hD2 _ _ g7, [], (fun y hy => nomatch hy), rfl, upd_same⟩ (fun i H' _ z => SqL.of z.2.1) ?_ ?_
            · rintro i3 x H8 hx ⟨hL8, gD, zs, hZ, hzl, g8⟩
              have hi3 := (List.getElem?_eq_some_iff.mp hx).1
              rw [List.length_map] at hi3
              have ne : D ≠ D2 := ne_of_none g7 hD2
              refine ⟨rfl, _, g8, ?_, hL8.upd (hL7.ne1 hD2) (hL7.ne2 hD2), by rw [upd_ne ne]; exact gD, zs ++ [0], ?_, by rw [List.length_append, hzl]; rfl, by rw [upd_same, List.map_append]; rfl⟩
              · rw [List.length_map]
                exact small1000 (by omega)
              · intro y hy
                rcases List.mem_append.mp hy with hy | hy
                · exact hZ y hy
                · rw [List.mem_singleton.mp hy]
                  decide
            · rintro H8 ⟨hL8, gD, zs, hZ, hzl, g8⟩
              rw [List.length_map] at hzl
              exact key _ _ ⟨D2, zs, rfl, hL8, g8, hZ, by omega, by omega, hL7.ne1 hD2, hL7.ne2 hD2⟩
          · exact key _ _ ⟨D, ps, rfl, hL7, g7, hP, by omega, by omega, Dp, Dc⟩
        clear hP hl g6 Dp Dc hD
        rintro σ' H8 ⟨D, ps, rfl, hL8, g8, hP, hl1, hl2, Dp, Dc⟩
        refine ⟨_, rfl, p, c, 65535, rfl, hL8, by decide, fun x H9 x0 x1 hL9 k9 => ⟨_, _, rfl, rfl, ?_⟩⟩
        have g9 := k9 D _ g8 Dp Dc
        refine ⟨_, rfl, _, rfl, _, rfl, D, _, rfl, .inl (SqL.of g9), p, c, _, rfl, hL9, (by rw [List.length_map]; omega), fun y Ha y0 y1 hLa ka => ?_⟩
        rw [List.length_map] at y1
        have ga := ka D _ g9 Dp Dc
        obtain ⟨j, ej, hj⟩ : ∃ j : Nat, y = (j : Int) ∧ j < ps.length := ⟨y.toNat, by omega, by omega⟩
        refine ⟨D, _, _, j, rfl, rfl, ga, ixN_of ej (by rw [List.length_map]; exact hj), ?_⟩
        rw [← List.map_set (f := V.int)]
        have hLb := hLa.upd (o := .lst ((ps.set j (1 + x)).map V.int)) Dp Dc
        have gb := upd_same (H := Ha) (a := D) (o := .lst ((ps.set j (1 + x)).map V.int))
        have hPP : Pr (ps.set j (1 + x)) := hP.set j (by omega) (by omega)
        have hPs : 0 < (ps.set j (1 + x)).sum := hPP.sum_pos (j := j) (x := 1 + x) (List.getElem?_set_self hj) (by omega)
        have hPl : (ps.set j (1 + x)).length = ps.length := List.length_set
        generalize upd Ha D (.lst ((ps.set j (1 + x)).map V.int)) = Hb at hLb gb ⊢
        generalize ps.set j (1 + x) = PP at gb hPP hPs hPl ⊢
        refine ⟨_, rfl, D, _, rfl, .inl (SqL.of gb), fun E hE => ?_⟩
        have hLc := hLb.new (o := .lst (PP.map V.int)) hE
        have gcD := same_upd (o := .lst (PP.map V.int)) hE _ _ gb
        have gcE := upd_same (H := Hb) (a := E) (o := .lst (PP.map V.int))
        have Ep := hLb.ne1 hE
        have Ec := hLb.ne2 hE
        have DE : D ≠ E := ne_of_none gb hE
        generalize upd Hb E (.lst (PP.map V.int)) = Hc at hLc gcD gcE ⊢
        refine ⟨_, rfl, p, c, 7, rfl, hLc, by decide, fun m Hd m0 m1 hLd kd => ⟨m, rfl, by omega, by omega, fun Z hZ => ?_⟩⟩
        have gdD := kd D _ gcD Dp Dc
        have gdE := kd E _ gcE Ep Ec
        have DZ : D ≠ Z := ne_of_none gdD hZ
        have EZ : E ≠ Z := ne_of_none gdE hZ
        have Zp := hLd.ne1 hZ
        have Zc := hLd.ne2 hZ
        refine lc_range (lo := 0) (n := m.toNat) (fun i H' => LS H' p c ∧ H' D = some (.lst (PP.map V.int)) ∧ H' E = some (.lst (PP.map V.int)) ∧ ∃ zs : List Int, (∀ z ∈ zs, 0 ≤ z ∧ z < (PP.length : Int)) ∧ zs.length = i ∧ H' Z = some (.lst (zs.map V.int)))
          ⟨hLd.new hZ, same_upd hZ _ _ gdD, same_upd hZ _ _ gdE, [], (fun y hy => nomatch hy), rfl, upd_same⟩ ?_ ?_
        · rintro i3 H' hi3 ⟨hL', gD', gE', zs, hz, hzl, gZ'⟩
          refine ⟨rfl, _, rfl, _, rfl, D, _, rfl, .inl (SqL.of gD'), p, c, _, rfl, hL', (by rw [List.length_map]; omega), fun z H2 z0 z1 hL2 k2 => ?_⟩
          rw [List.length_map] at z1
          refine ⟨_, k2 Z _ gZ' Zp Zc, ?_, hL2.upd Zp Zc, by rw [upd_ne DZ]; exact k2 D _ gD' Dp Dc, by rw [upd_ne EZ]; exact k2 E _ gE' Ep Ec, zs ++ [z], ?_, by rw [List.length_append, hzl]; rfl, by rw [upd_same, List.map_append]; rfl⟩
          · rw [List.length_map]
            exact small1000 (by omega)
          · intro y hy
            rcases List.mem_append.mp hy with hy | hy
            · exact hz y hy
            · rw [List.mem_singleton.mp hy]
              omega
        rintro He ⟨hLe, geD, geE, zs, hz, hzl, geZ⟩
        refine ⟨Z, zs, rfl, SqL.of geZ, by omega, fun S cn hS hcn => ⟨S, _, cn, rfl, upd_same, by omega, fun qs F pw mem len hF => ?_⟩⟩
        have e1 := same_upd (o := SetO w S (fun j => decide (j ∈ zs)) cn) hS
        have e2 := same_upd (o := .lst (qs.map V.int)) hF
        have hLf := hLe.same (e1.trans e2)
        have gfD := e2 _ _ (e1 _ _ geD)
        have gfE := e2 _ _ (e1 _ _ geE)
        have gfF := upd_same (H := upd He S (SetO w S (fun j => decide (j ∈ zs)) cn)) (a := F) (o := .lst (qs.map V.int))
        have hq : ∀ z ∈ qs, 0 ≤ z ∧ z < (PP.length : Int) := fun z hzq => hz z (of_decide_eq_true ((mem z).mp hzq))
        have hqn : qs.length ≤ 7 := by omega
        have Fp := (hLe.same e1).ne1 hF
        have Fc := (hLe.same e1).ne2 hF
        have EF : E ≠ F := ne_of_none (e1 _ _ geE) hF
        have DF : D ≠ F := ne_of_none (e1 _ _ geD) hF
        generalize upd (upd He S (SetO w S (fun j => decide (j ∈ zs)) cn)) F (.lst (qs.map V.int)) = Hf at hLf gfD gfE gfF ⊢
        clear e1 e2 hF hS
        refine ⟨_, rfl, F, rfl, ⟨_, SqL.of gfF⟩, for_list (K := K) (a := F) (xs := qs.map V.int) (fun i2 σ' H' => ∃ (v6 : Option V) (N : List Int), σ' = [some (.ref a0), some (.ref p), some (.int (0 + (i : Int))), some (.ref D), some (.ref E), some (.ref F), v6, v7, v8, v9, v10, v11, none, none] ∧ LS H' p c ∧ H' D = some (.lst (PP.map V.int)) ∧ H' F = some (.lst (qs.map V.int)) ∧ H' E = some (.lst (N.map V.int)) ∧ N.length = PP.length ∧ Pr N ∧ ∀ t : Nat, (t : Int) ∉ qs → PP[t]? = N[t]?)
          ⟨_, PP, rfl, hLf, gfD, gfF, gfE, rfl, hPP, fun _ _ => rfl⟩ (fun i σ H' _ ⟨_, _, _, _, _, z, _⟩ => SqL.of z) ?_ ?_⟩
        · rintro i2 x' σ' H' hx ⟨v6', N, rfl, hL', gD', gF', gE', hNl, hN, ag⟩
          obtain ⟨z, hzz, rfl⟩ := at_int hx
          have hzq := List.mem_of_getElem? hzz
          have hzb := hq z hzq
          refine ⟨_, rfl, p, c, 0, 65535, rfl, hL', by decide, fun y2 H2 z0 z1 hL2 k2 => ?_⟩
          refine ⟨_, rfl, _, rfl, E, _, _, z.toNat, rfl, rfl, k2 E _ gE' Ep Ec, ixN_of (by omega) (by rw [List.length_map]; omega), ?_⟩
          rw [← List.map_set (f := V.int)]
          refine ⟨_, N.set z.toNat y2, rfl, hL2.upd Ep Ec, by rw [upd_ne DE]; exact k2 D _ gD' Dp Dc, by rw [upd_ne EF.symm]; exact k2 F _ gF' Fp Fc, upd_same, by rw [List.length_set]; exact hNl, hN.set _ z0 z1, fun t ht => ?_⟩
          rw [List.getElem?_set_ne (fun e => ht (by rw [← e, Int.toNat_of_nonneg hzb.1]; exact hzq))]
          exact ag t ht
        rintro σ' Hg ⟨v6', N, rfl, hLg, ggD, ggF, ggE, hNl, hN, ag⟩
        refine nx_go ?_
        refine seq_if (fun σ' H' => ∃ (v6 : Option V) (F : Addr) (qs N : List Int), σ' = [some (.ref a0), some (.ref p), some (.int (0 + (i : Int))), some (.ref D), some (.ref E), some (.ref F), v6, v7, v8, v9, v10, v11, none, none] ∧ LS H' p c ∧ H' D = some (.lst (PP.map V.int)) ∧ H' E = some (.lst (N.map V.int)) ∧ H' F = some (.lst (qs.map V.int)) ∧
          qs.Pairwise (· < ·) ∧ (∀ z ∈ qs, 0 ≤ z ∧ z < (PP.length : Int)) ∧ qs.length ≤ 10 ∧ N.length = PP.length ∧ Pr N ∧ (∀ t : Nat, (t : Int) ∉ qs → PP[t]? = N[t]?) ∧ 0 < N.sum) ?rest2 (fun key => ?_)
        rotate_left
        · refine ⟨_, rfl, E, N, rfl, SqL.of ggE, rfl, _, rfl, ite2 (fun e => ?_) (fun e => ?_)⟩
          · refine ⟨_, rfl, p, c, 65535, rfl, hLg, by decide, fun y2 Hh z0 z1 hLh kh => ⟨_, _, rfl, rfl, ?_⟩⟩
            have ghE := kh E _ ggE Ep Ec
            refine ⟨_, rfl, E, _, _, 0, rfl, rfl, ghE, ixN_of rfl (by rw [List.length_map]; omega), ?_⟩
            rw [← List.map_set (f := V.int)]
            have hLi := hLh.upd (o := .lst ((N.set 0 (1 + y2)).map V.int)) Ep Ec
            have giE := upd_same (H := Hh) (a := E) (o := .lst ((N.set 0 (1 + y2)).map V.int))
            have giD : (upd Hh E (.lst ((N.set 0 (1 + y2)).map V.int))) D = some (.lst (PP.map V.int)) := by rw [upd_ne DE]; exact kh D _ ggD Dp Dc
            have giF : (upd Hh E (.lst ((N.set 0 (1 + y2)).map V.int))) F = some (.lst (qs.map V.int)) := by rw [upd_ne EF.symm]; exact kh F _ ggF Fp Fc
            have hN2 : Pr (N.set 0 (1 + y2)) := hN.set 0 (by omega) (by omega)
            have hNp : 0 < (N.set 0 (1 + y2)).sum := hN2.sum_pos (j := 0) (x := 1 + y2) (List.getElem?_set_self (by omega)) (by omega)
            have ag2 : ∀ t : Nat, t ≠ 0 → (t : Int) ∉ qs → PP[t]? = (N.set 0 (1 + y2))[t]? := fun t t0 tq => by
              rw [List.getElem?_set_ne (fun e => t0 e.symm)]
              exact ag t tq
            have hN2l : (N.set 0 (1 + y2)).length = PP.length := by rw [List.length_set]; exact hNl
            generalize upd Hh E (.lst ((N.set 0 (1 + y2)).map V.int)) = Hi at hLi giE giD giF ⊢
            generalize N.set 0 (1 + y2) = N2 at giE hN2 hNp ag2 hN2l ⊢
            refine ⟨_, rfl, by show 1 ≤ sizeLine; decide, fun b1 m1 => ?_⟩
            have w1 := same_upd (o := .lst [.int 0]) m1
            refine ⟨F, b1, _, _, rfl, rfl, w1 _ _ giF, upd_same, ?_, fun b2 m2 => ?_⟩
            · rw [List.length_map]
              exact Nat.le_trans (m := 1000) (by simp only [List.length_cons, List.length_nil]; omega) (by decide)
            have w2 := same_upd (o := .lst (qs.map V.int ++ [.int 0])) m2
            refine ⟨b2, qs ++ [0], rfl, SqL.of (by rw [upd_same, List.map_append]; rfl), by rw [List.length_append]; simp only [List.length_cons, List.length_nil]; omega, fun S2 cn2 hS2 hcn2 => ?_⟩
            rw [List.length_append] at hcn2
            simp only [List.length_cons, List.length_nil] at hcn2
            have w3 := same_upd (o := SetO w S2 (fun j => decide (j ∈ qs ++ [0])) cn2) hS2
            refine ⟨S2, _, cn2, rfl, upd_same, by omega, fun qs2 F2 pw2 mem2 len2 hF2 => ?_⟩
            have w4 := same_upd (o := .lst (qs2.map V.int)) hF2
            have w14 := w1.trans (w2.trans (w3.trans w4))
            refine key _ _ ⟨_, F2, qs2, N2, rfl, hLi.same w14, w14 _ _ giD, w14 _ _ giE, upd_same, pw2, fun z hz2 => ?_, by omega, hN2l, hN2, fun t ht => ?_, hNp⟩
            · have := of_decide_eq_true ((mem2 z).mp hz2)
              rcases List.mem_append.mp this with h | h
              · exact hq z h
              · rw [List.mem_singleton.mp h]
                omega
            · have h0 : ∀ x : Int, x ∈ qs ++ [0] → x ∈ qs2 := fun x hx => (mem2 x).mpr (decide_eq_true hx)
              refine ag2 t (fun e => ht (h0 _ (by rw [e]; simp))) (fun e => ht (h0 _ (List.mem_append_left _ e)))
          · have z : ¬ N.sum = 0 := fun z => e (decide_eq_true (congrArg V.int z))
            have := Pr.sum hN
            exact key _ _ ⟨_, F, qs, N, rfl, hLg, ggD, ggE, ggF, pw, hq, by omega, hNl, hN, ag, by omega⟩
        clear hLg ggD ggF ggE hNl hN ag gfF gfE gfD mem len pw hq hqn EF DF Fp Fc
        rintro σ' Hj ⟨v6'', F, qs, N, rfl, hLj, gjD, gjE, gjF, pw, hq, hqn, hNl, hN, ag, hNs⟩
        have pick : ∀ (L : List Int) (l : Addr) (H0 : Hp), H0 l = some (.lst (L.map V.int)) → L.length = PP.length → ∀ (k : Nat) (z : Int), qs[k]? = some z → atI (L.map V.int) z = some (.int (L.getD z.toNat 0)) := by
          intro L l H0 _ hl k z hz
          have hb := hq z (List.mem_of_getElem? hz)
          exact at_of (j := z.toNat) (by omega) (by rw [List.getElem?_map, List.getD_eq_getElem?_getD, List.getElem?_eq_getElem (by omega)]; rfl)
        refine ⟨_, rfl, F, rfl, ⟨_, SqL.of gjF⟩, fun B hB => ?_⟩
        refine lc_list (K := K) (a := F) (xs := qs.map V.int) (fun i2 H' => Same Hj H' ∧ H' B = some (.lst (((qs.take i2).map fun z => PP.getD z.toNat 0).map V.int))) ⟨same_upd hB, upd_same⟩ (fun _ _ _ z => SqL.of (z.1 _ _ gjF)) ?_ ?_
        · rintro i2 x' H' hx ⟨s', gB'⟩
          obtain ⟨z, hzz, rfl⟩ := at_int hx
          have hi2 := (List.getElem?_eq_some_iff.mp hzz).1
          refine ⟨rfl, _, rfl, _, rfl, D, _, _, _, rfl, rfl, SqL.of (s' _ _ gjD), pick PP D Hj gjD rfl i2 z hzz, _, gB', ?_, fun b o e => by rw [upd_ne (ne_of_none e hB)]; exact s' _ _ e, ?_⟩
          · rw [List.length_map, List.length_map, List.length_take]
            exact small1000 (by omega)
          · rw [upd_same, List.take_add_one, hzz]
            simp
        rintro Hk ⟨sk, gkB⟩
        rw [List.length_map, List.take_length] at gkB
        refine ⟨_, rfl, F, rfl, ⟨_, SqL.of (sk _ _ gjF)⟩, fun C hC => ?_⟩
        refine lc_list (K := K) (a := F) (xs := qs.map V.int) (fun i2 H' => Same Hk H' ∧ H' C = some (.lst (((qs.take i2).map fun z => N.getD z.toNat 0).map V.int))) ⟨same_upd hC, upd_same⟩ (fun _ _ _ z => SqL.of (z.1 _ _ (sk _ _ gjF))) ?_ ?_
        · rintro i2 x' H' hx ⟨s', gB'⟩
          obtain ⟨z, hzz, rfl⟩ := at_int hx
          have hi2 := (List.getElem?_eq_some_iff.mp hzz).1
          refine ⟨rfl, _, rfl, _, rfl, E, _, _, _, rfl, rfl, SqL.of (s' _ _ (sk _ _ gjE)), pick N E Hj gjE hNl i2 z hzz, _, gB', ?_, fun b o e => by rw [upd_ne (ne_of_none e hC)]; exact s' _ _ e, ?_⟩
          · rw [List.length_map, List.length_map, List.length_take]
            exact small1000 (by omega)
          · rw [upd_same, List.take_add_one, hzz]
            simp
        rintro Hl ⟨sl, glC⟩
        rw [List.length_map, List.take_length] at glC
        have skl := sk.trans sl
        have hLl := hLj.same skl
        have glB := sl _ _ gkB
        have glD := skl _ _ gjD
        have glE := skl _ _ gjE
        have bl : ((qs.map fun z => PP.getD z.toNat 0)).length ≤ 10 := by rw [List.length_map]; exact hqn
        have cl : ((qs.map fun z => N.getD z.toNat 0)).length ≤ 10 := by rw [List.length_map]; exact hqn
        have dsum : N.sum - PP.sum = (qs.map fun z => N.getD z.toNat 0).sum - (qs.map fun z => PP.getD z.toNat 0).sum := by
          have := diff_sum (qs.map Int.toNat) PP N ?_ ?_ hNl.symm ?_
          · rw [List.map_map, List.map_map] at this
            exact this
          · refine List.pairwise_map.mpr (List.Pairwise.imp_of_mem (fun {a b} ha hb hab => ?_) pw)
            have h1 := hq a ha
            have h2 := hq b hb
            omega
          · intro t ht
            obtain ⟨z, hz, rfl⟩ := List.mem_map.mp ht
            have := hq z hz
            omega
          · intro t ht
            refine ag t fun h => ht (List.mem_map.mpr ⟨_, h, Int.toNat_natCast t⟩)
        generalize (qs.map fun z => PP.getD z.toNat 0) = Bs at glB bl dsum
        generalize (qs.map fun z => N.getD z.toNat 0) = Cs at glC cl dsum
        refine ⟨_, _, rfl, ?_⟩
        refine ⟨_, rfl, B, _, rfl, .inl (SqL.of glB), fun g1 n1 => ?_⟩
        have w1 := same_upd (o := .lst (Bs.map V.int)) n1
        refine ⟨_, rfl, C, _, rfl, .inl (SqL.of (w1 _ _ glC)), fun g2 n2 => ⟨by show 2 ≤ sizeLine; decide, fun G nG => ?_⟩⟩
        have w2 := same_upd (o := .lst (Cs.map V.int)) n2
        have w3 := same_upd (o := .lst [.ref g1, .ref g2]) nG
        have w13 := w1.trans (w2.trans w3)
        have gm1 := w3 _ _ (w2 _ _ (upd_same (H := Hl) (a := g1) (o := .lst (Bs.map V.int))))
        have gm2 := w3 _ _ (upd_same (H := upd Hl g1 (.lst (Bs.map V.int))) (a := g2) (o := .lst (Cs.map V.int)))
        have gmG := upd_same (H := upd (upd Hl g1 (.lst (Bs.map V.int))) g2 (.lst (Cs.map V.int))) (a := G) (o := .lst [.ref g1, .ref g2])
        have hLm := hLl.same w13
        have gmD := w13 _ _ glD
        have gmE := w13 _ _ glE
        have gmB := w13 _ _ glB
        have gmC := w13 _ _ glC
        generalize upd (upd (upd Hl g1 (.lst (Bs.map V.int))) g2 (.lst (Cs.map V.int))) G (.lst [.ref g1, .ref g2]) = Hm at gm1 gm2 gmG hLm gmD gmE gmB gmC ⊢
        refine ⟨_, rfl, D, PP, rfl, SqL.of gmD, by omega, fun t1 Hn sn gt1 => ⟨t1, octs PP, rfl, SqL.of gt1, octs_oc PP hPP, by rw [octs_len]; omega, ?_⟩⟩
        refine ⟨_, rfl, G, _, _, _, rfl, rfl, SqL.of (sn _ _ gmG), atI_nat (j := 0) rfl, _, rfl, G, _, _, _, rfl, rfl, SqL.of (sn _ _ gmG), atI_nat (j := 1) rfl, ?_⟩
        refine ⟨_, g1, g2, Bs, Cs, rfl, SqL.of (sn _ _ gm1), SqL.of (sn _ _ gm2), ?_⟩
        rw [octs_W]
        refine ⟨_, rfl, _, rfl, E, N, rfl, SqL.of (sn _ _ gmE), by omega, fun t2 Ho so gt2 => ⟨t2, octs N, rfl, SqL.of gt2, octs_oc N hN, by rw [octs_len]; omega, ?_⟩⟩
        rw [octs_W]
        refine ⟨_, _, rfl, Sm.eq (congrArg V.int (mv_right dsum hPs hNs)) rfl, fun Hp' sp => ⟨_, rfl, ?_⟩⟩
        have smp := sn.trans (so.trans sp)
        refine ⟨_, rfl, _, rfl, _, rfl, by show 2 ≤ sizeLine; decide, fun G2 nG2 => ?_⟩
        have w4 := same_upd (o := .lst [.ref B, .ref C]) nG2
        have smq := smp.trans w4
        have fl : ∀ L : List Int, ∀ x ∈ L.map V.int, flt1 x = true := fun L x hx => by
          obtain ⟨z, _, rfl⟩ := List.mem_map.mp hx
          rfl
        refine ne_same (n := 2) (.inr ⟨G, G2, _, _, rfl, rfl, .inl ⟨SqL.of (smq _ _ gmG), SqL.of upd_same⟩, rfl, (by show 2 ≤ 100000; decide), fun k u v hu hv => ?_⟩) (by decide) ⟨_, rfl, ?_⟩
        · match k, hu, hv with
          | 0, hu, hv =>
            have e1 : V.ref g1 = u := Option.some.inj hu
            have e2 : V.ref B = v := Option.some.inj hv
            subst e1 e2
            exact Sm.lst (SqL.of (smq _ _ gm1)) (SqL.of (smq _ _ gmB)) (fl Bs) (by rw [List.length_map]; omega)
          | 1, hu, hv =>
            have e1 : V.ref g2 = u := Option.some.inj hu
            have e2 : V.ref C = v := Option.some.inj hv
            subst e1 e2
            exact Sm.lst (SqL.of (smq _ _ gm2)) (SqL.of (smq _ _ gmC)) (fl Cs) (by rw [List.length_map]; omega)
          | k + 2, hu, _ => cases hu
        have hLq := hLm.same smq
        have gqB := smq _ _ gmB
        have gqC := smq _ _ gmC
        have Bne : B ≠ p ∧ B ≠ c := ⟨hLj.ne1 hB, hLj.ne2 hB⟩
        have Cne : C ≠ p ∧ C ≠ c := ⟨(hLj.same sk).ne1 hC, (hLj.same sk).ne2 hC⟩
        generalize upd Hp' G2 (.lst [.ref B, .ref C]) = Hq at hLq gqB gqC ⊢
        refine ⟨_, rfl, p, c, 0, 65535, rfl, hLq, by decide, fun nb Hr b0 b1 hLr kr => ?_⟩
        have grB := kr B _ gqB Bne.1 Bne.2
        have grC := kr C _ gqC Cne.1 Cne.2
        refine ⟨_, rfl, _, rfl, _, rfl, nb, B, C, Bs, Cs, rfl, SqL.of grB, SqL.of grC, ?_⟩
        obtain ⟨m1, m2, m3⟩ := mv_any nb Cs.sum Bs.sum
        refine ⟨_, rfl, _, _, _, _, _, rfl, .ty _, .base (.int _), k_ib, _, rfl, ?_⟩
        refine ⟨_, rfl, _, _, _, _, _, rfl, .ty _, .base (.int _), k_ii, _, rfl, ?_⟩
        refine ⟨_, rfl, _, _, rfl, rfl, _, rfl, ite2 (fun e => absurd (of_decide_eq_true e) (by omega)) (fun _ => ?_)⟩
        refine ⟨_, rfl, _, _, rfl, rfl, _, rfl, ite2 (fun e => absurd (of_decide_eq_true e) (by omega)) (fun _ => ?_)⟩
        refine ⟨_, rfl, _, rfl, _, _, rfl, rfl, _, rfl, B, Bs, rfl, SqL.of grB, _, _, rfl, rfl, _, rfl, C, Cs, rfl, SqL.of grC, _, _, rfl, rfl, .inl ⟨_, rfl, _, _, rfl, rfl, (by show (0 : Int) < 65535; decide), rfl, _, rfl, iteNS (congrArg V.int m3) ?_⟩⟩
        exact ⟨_, _, _, _, _, _, _, _, _, _, rfl, hLr⟩
    · rintro σ H4 ⟨v2, v3, v4, v5, v6, v7, v8, v9, v10, v11, rfl, hL4⟩
      exact q _
end
theorem all_mk {l : PySem.W.OpenLaw} {w : World} {K : PySem.W.Frag} {h : Heap} {mg : Str → Option Value} {fa f0 f1 f2 f3 f4 f5 f6 f7 f8 : Addr} (X : K.In h) (G : h.Ns mainGlobals mg) (hfa : mg "law" = some (.ref fa))
    {od0 an0 od1 an1 od2 an2 od3 an3 od4 an4 od5 an5 od6 an6 od7 an7 od8 an8 : Option Addr} {sl0 sl1 sl2 sl3 sl4 sl5 sl6 sl7 sl8 : Array (Option Value)} {oc0 kV0 dc0 pm0 cd0 ct0 oc1 kV1 dc1 pm1 cd1 ct1 oc2 kV2 dc2 pm2 cd2 ct2 oc3 kV3 dc3 pm3 cd3 ct3 oc4 kV4 dc4 pm4 cd4 ct4 oc5 kV5 dc5 pm5 cd5 ct5 oc6 kV6 dc6 pm6 cd6 ct6 oc7 kV7 dc7 pm7 cd7 ct7 oc8 kV8 dc8 pm8 cd8 ct8 : Value} 
    (a0 : PySem.W.nsIn K mainGlobals "moved_sum" = some (some (.ref f0))) (l0 : K.lookup f0 = some ⟨oc0, od0, .func (PySem.W.fnOf "moved_sum" "moved_sum" (defArgs s_moved_sum) (defBody s_moved_sum) (defScope s_moved_sum) .none kV0 dc0 pm0 an0 cd0 ct0), sl0⟩) (c0 : PySem.W.codeIn K cd0 "moved_sum" = true) (k0 : PySem.W.keepIn K (.ref f0) = true)
    (a1 : PySem.W.nsIn K mainGlobals "_law_state" = some (some (.ref f1))) (l1 : K.lookup f1 = some ⟨oc1, od1, .func (PySem.W.fnOf "_law_state" "_law_state" (defArgs s_law_state) (defBody s_law_state) (defScope s_law_state) .none kV1 dc1 pm1 an1 cd1 ct1), sl1⟩) (c1 : PySem.W.codeIn K cd1 "_law_state" = true) (k1 : PySem.W.keepIn K (.ref f1) = true)
    (a2 : PySem.W.nsIn K mainGlobals "_law_take" = some (some (.ref f2))) (l2 : K.lookup f2 = some ⟨oc2, od2, .func (PySem.W.fnOf "_law_take" "_law_take" (defArgs s_law_take) (defBody s_law_take) (defScope s_law_take) .none kV2 dc2 pm2 an2 cd2 ct2), sl2⟩) (c2 : PySem.W.codeIn K cd2 "_law_take" = true) (k2 : PySem.W.keepIn K (.ref f2) = true)
    (a3 : PySem.W.nsIn K mainGlobals "_law_same" = some (some (.ref f3))) (l3 : K.lookup f3 = some ⟨oc3, od3, .func (PySem.W.fnOf "_law_same" "_law_same" (defArgs s_law_same) (defBody s_law_same) (defScope s_law_same) .none kV3 dc3 pm3 an3 cd3 ct3), sl3⟩) (c3 : PySem.W.codeIn K cd3 "_law_same" = true) (k3 : PySem.W.keepIn K (.ref f3) = true)
    (a4 : PySem.W.nsIn K mainGlobals "_law_two" = some (some (.ref f4))) (l4 : K.lookup f4 = some ⟨oc4, od4, .func (PySem.W.fnOf "_law_two" "_law_two" (defArgs s_law_two) (defBody s_law_two) (defScope s_law_two) .none kV4 dc4 pm4 an4 cd4 ct4), sl4⟩) (c4 : PySem.W.codeIn K cd4 "_law_two" = true) (k4 : PySem.W.keepIn K (.ref f4) = true)
    (a5 : PySem.W.nsIn K mainGlobals "_law_sum" = some (some (.ref f5))) (l5 : K.lookup f5 = some ⟨oc5, od5, .func (PySem.W.fnOf "_law_sum" "_law_sum" (defArgs s_law_sum) (defBody s_law_sum) (defScope s_law_sum) .none kV5 dc5 pm5 an5 cd5 ct5), sl5⟩) (c5 : PySem.W.codeIn K cd5 "_law_sum" = true) (k5 : PySem.W.keepIn K (.ref f5) = true)
    (a6 : PySem.W.nsIn K mainGlobals "_law_number" = some (some (.ref f6))) (l6 : K.lookup f6 = some ⟨oc6, od6, .func (PySem.W.fnOf "_law_number" "_law_number" (defArgs s_law_number) (defBody s_law_number) (defScope s_law_number) .none kV6 dc6 pm6 an6 cd6 ct6), sl6⟩) (c6 : PySem.W.codeIn K cd6 "_law_number" = true) (k6 : PySem.W.keepIn K (.ref f6) = true)
    (a7 : PySem.W.nsIn K mainGlobals "_law_octets_of" = some (some (.ref f7))) (l7 : K.lookup f7 = some ⟨oc7, od7, .func (PySem.W.fnOf "_law_octets_of" "_law_octets_of" (defArgs s_law_octets_of) (defBody s_law_octets_of) (defScope s_law_octets_of) .none kV7 dc7 pm7 an7 cd7 ct7), sl7⟩) (c7 : PySem.W.codeIn K cd7 "_law_octets_of" = true) (k7 : PySem.W.keepIn K (.ref f7) = true)
    (a8 : PySem.W.nsIn K mainGlobals "law" = some (some (.ref f8))) (l8 : K.lookup f8 = some ⟨oc8, od8, .func (PySem.W.fnOf "law" "law" (defArgs s_law) (defBody s_law) (defScope s_law) .none kV8 dc8 pm8 an8 cd8 ct8), sl8⟩) (c8 : PySem.W.codeIn K cd8 "law" = true) (k8 : PySem.W.keepIn K (.ref f8) = true)
    (z_sum : PySem.W.nsIn K mainGlobals "sum" = some none)
    (z_abs : PySem.W.nsIn K mainGlobals "abs" = some none)
    (z_len : PySem.W.nsIn K mainGlobals "len" = some none)
    (z_int : PySem.W.nsIn K mainGlobals "int" = some none)
    (z_isinstance : PySem.W.nsIn K mainGlobals "isinstance" = some none)
    (z_dict : PySem.W.nsIn K mainGlobals "dict" = some none)
    (z_all : PySem.W.nsIn K mainGlobals "all" = some none)
    (z_bool : PySem.W.nsIn K mainGlobals "bool" = some none)
    (z_str : PySem.W.nsIn K mainGlobals "str" = some none)
    (z_tuple : PySem.W.nsIn K mainGlobals "tuple" = some none)
    (z_list : PySem.W.nsIn K mainGlobals "list" = some none)
    (z_range : PySem.W.nsIn K mainGlobals "range" = some none)
    (z_min : PySem.W.nsIn K mainGlobals "min" = some none)
    (z_max : PySem.W.nsIn K mainGlobals "max" = some none)
    (z_sorted : PySem.W.nsIn K mainGlobals "sorted" = some none)
    (z_set : PySem.W.nsIn K mainGlobals "set" = some none)
    : ∃ fd : FuncData, (∀ (s : Shared) (v : Value), BindsTo s fd ⟨[v], []⟩ [("script", v)]) ∧ ∀ base : Heap, K.In base → base.Ns mainGlobals mg → FnOk l.prog w K mg base CX0 3 fa fd ["script"] (spLaw K) := by
  have e := hfa.symm.trans (PySem.W.mg_of X G a8)
  cases e
  have F0 := fun_mk (st := s_moved_sum) l0 c0 k0
  have b0 := F0.binds (ps := ["number", "olds", "news"]) fun _ _ _ _ _ _ us hl => match us, hl with | [_, _, _], _ => rfl
  have F1 := fun_mk (st := s_law_state) l1 c1 k1
  have b1 := F1.binds (ps := ["script"]) fun _ _ _ _ _ _ us hl => match us, hl with | [_], _ => rfl
  have F2 := fun_mk (st := s_law_take) l2 c2 k2
  have b2 := F2.binds (ps := ["state", "most"]) fun _ _ _ _ _ _ us hl => match us, hl with | [_, _], _ => rfl
  have F3 := fun_mk (st := s_law_same) l3 c3 k3
  have b3 := F3.binds (ps := ["told", "due"]) fun _ _ _ _ _ _ us hl => match us, hl with | [_, _], _ => rfl
  have F4 := fun_mk (st := s_law_two) l4 c4 k4
  have b4 := F4.binds (ps := ["number"]) fun _ _ _ _ _ _ us hl => match us, hl with | [_], _ => rfl
  have F5 := fun_mk (st := s_law_sum) l5 c5 k5
  have b5 := F5.binds (ps := ["octets"]) fun _ _ _ _ _ _ us hl => match us, hl with | [_], _ => rfl
  have F6 := fun_mk (st := s_law_number) l6 c6 k6
  have b6 := F6.binds (ps := ["state", "low", "high"]) fun _ _ _ _ _ _ us hl => match us, hl with | [_, _, _], _ => rfl
  have F7 := fun_mk (st := s_law_octets_of) l7 c7 k7
  have b7 := F7.binds (ps := ["pairs"]) fun _ _ _ _ _ _ us hl => match us, hl with | [_], _ => rfl
  have F8 := fun_mk (st := s_law) l8 c8 k8
  have b8 := F8.binds (ps := ["script"]) fun _ _ _ _ _ _ us hl => match us, hl with | [_], _ => rfl
  let T : Tx K mg := { ad_moved_sum := _, fd_moved_sum := _, d_moved_sum := ⟨F0, b0, PySem.W.mg_of X G a0⟩, ad_law_state := _, fd_law_state := _, d_law_state := ⟨F1, b1, PySem.W.mg_of X G a1⟩, ad_law_take := _, fd_law_take := _, d_law_take := ⟨F2, b2, PySem.W.mg_of X G a2⟩, ad_law_same := _, fd_law_same := _, d_law_same := ⟨F3, b3, PySem.W.mg_of X G a3⟩, ad_law_two := _, fd_law_two := _, d_law_two := ⟨F4, b4, PySem.W.mg_of X G a4⟩, ad_law_sum := _, fd_law_sum := _, d_law_sum := ⟨F5, b5, PySem.W.mg_of X G a5⟩, ad_law_number := _, fd_law_number := _, d_law_number := ⟨F6, b6, PySem.W.mg_of X G a6⟩, ad_law_octets_of := _, fd_law_octets_of := _, d_law_octets_of := ⟨F7, b7, PySem.W.mg_of X G a7⟩, ad_law := _, fd_law := _, d_law := ⟨F8, b8, PySem.W.mg_of X G a8⟩, b_sum := PySem.W.mg_none_of X G z_sum, b_abs := PySem.W.mg_none_of X G z_abs, b_len := PySem.W.mg_none_of X G z_len, b_int := PySem.W.mg_none_of X G z_int, b_isinstance := PySem.W.mg_none_of X G z_isinstance, b_dict := PySem.W.mg_none_of X G z_dict, b_all := PySem.W.mg_none_of X G z_all, b_bool := PySem.W.mg_none_of X G z_bool, b_str := PySem.W.mg_none_of X G z_str, b_tuple := PySem.W.mg_none_of X G z_tuple, b_list := PySem.W.mg_none_of X G z_list, b_range := PySem.W.mg_none_of X G z_range, b_min := PySem.W.mg_none_of X G z_min, b_max := PySem.W.mg_none_of X G z_max, b_sorted := PySem.W.mg_none_of X G z_sorted, b_set := PySem.W.mg_none_of X G z_set }
  exact ⟨T.fd_law, fun s v => .of_eq rfl, fun base _ _ => ok_law T⟩
theorem walk {l : PySem.W.OpenLaw} {q : Program} {loose : List Str} {XP : (Str → Option Value) → Heap → Prop} {YP : World → Heap → Prop} {d : DefRec} {K : Params → PySem.W.Frag} (hn : l.most = some 63) (hdf : d.params.defaults = [])
    (hY : ∀ (w : World) (h : Heap), YP w h → (K w.params).In h)
    (F : ∀ (w : World) (mg : Str → Option Value) (fa : Addr) (h : Heap), (K w.params).In h → h.Ns mainGlobals mg → mg d.name = some (.ref fa) →
      ∃ fd : FuncData, (∀ (s : Shared) (u : Value), BindsTo s fd ⟨[u], []⟩ [("script", u)]) ∧ ∀ base : Heap, (K w.params).In base → base.Ns mainGlobals mg → FnOk l.prog w (K w.params) mg base CX0 3 fa fd ["script"] (spLaw (K w.params))) :
    PySem.W.WalkO q loose XP YP l.row.toRowW d [] (fun f vs => PySem.call f vs) :=
  L2.walk_of (n := 63) (k := 3) (x := "script") (CX := fun _ => CX0) (sp := fun w => spLaw (K w.params)) hn (by decide) hdf ⟨rfl, by decide, by decide⟩ hY F (fun _ _ a ns hl _ hS => ⟨a, ns, rfl, hS, hl, fun _ => rfl⟩) fun _ _ _ _ _ z => z
end Toy
open PySem PySem.W PyProof.Rows
set_option maxRecDepth 100000 in
set_option maxHeartbeats 0 in
theorem PySem.Challenge.cw_onepolicy_k06_sums_that_are_moved_holds : PySem.Challenge.rw_onepolicy_k06_sums_that_are_moved.Holds := by
  w_on; o_law; k_head; (case hw => w_witness2)
  k_fill
  refine Toy.walk (l := PySem.Challenge.rw_onepolicy_k06_sums_that_are_moved) rfl rfl (fun w h Y => PySem.W.kIn_of Y) ?F
  case F =>
    intro w mg fa h KX G hmg
    refine' Toy.all_mk KX G hmg ?a0 ?l0 ?c0 ?k0 ?a1 ?l1 ?c1 ?k1 ?a2 ?l2 ?c2 ?k2 ?a3 ?l3 ?c3 ?k3 ?a4 ?l4 ?c4 ?k4 ?a5 ?l5 ?c5 ?k5 ?a6 ?l6 ?c6 ?k6 ?a7 ?l7 ?c7 ?k7 ?a8 ?l8 ?c8 ?k8 ?z_sum ?z_abs ?z_len ?z_int ?z_isinstance ?z_dict ?z_all ?z_bool ?z_str ?z_tuple ?z_list ?z_range ?z_min ?z_max ?z_sorted ?z_set
    (case a0 => k_is)
    (case l0 => k_is)
    (case c0 => k_is)
    (case k0 => k_is)
    (case a1 => k_is)
    (case l1 => k_is)
    (case c1 => k_is)
    (case k1 => k_is)
    (case a2 => k_is)
    (case l2 => k_is)
    (case c2 => k_is)
    (case k2 => k_is)
    (case a3 => k_is)
    (case l3 => k_is)
    (case c3 => k_is)
    (case k3 => k_is)
    (case a4 => k_is)
    (case l4 => k_is)
    (case c4 => k_is)
    (case k4 => k_is)
    (case a5 => k_is)
    (case l5 => k_is)
    (case c5 => k_is)
    (case k5 => k_is)
    (case a6 => k_is)
    (case l6 => k_is)
    (case c6 => k_is)
    (case k6 => k_is)
    (case a7 => k_is)
    (case l7 => k_is)
    (case c7 => k_is)
    (case k7 => k_is)
    (case a8 => k_is)
    (case l8 => k_is)
    (case c8 => k_is)
    (case k8 => k_is)
    (case z_sum => k_is)
    (case z_abs => k_is)
    (case z_len => k_is)
    (case z_int => k_is)
    (case z_isinstance => k_is)
    (case z_dict => k_is)
    (case z_all => k_is)
    (case z_bool => k_is)
    (case z_str => k_is)
    (case z_tuple => k_is)
    (case z_list => k_is)
    (case z_range => k_is)
    (case z_min => k_is)
    (case z_max => k_is)
    (case z_sorted => k_is)
    (case z_set => k_is)
