import PyProof.Rows.All
import Wide.All
import OpenK.AllK
import Wide.FinOn
import HandS.Base
import HandS.Call
import HandS.List
import HandS.Comp
import HandS.Ends
import HandS.Words
import HandS.WordsList
import HandS.IsInst
import HandS.TupMul
import PySem.Challenge.RW_onepolicy_k05_sums_of_octets
set_option Elab.async false
set_option linter.all false
set_option maxRecDepth 100000
set_option maxHeartbeats 4000000
namespace Toy
open PySem PySem.Spec PyProof.Rows L2
def topS (i : Nat) : Stmt := PySem.Challenge.pw_onepolicy_k05_sums_of_octets.main.body.getD i (.Pass ⟨0, 0, 0, 0⟩)
abbrev s_folded : Stmt := topS 1
abbrev Ns_folded : List Str := ["octets", "total"]
theorem x_folded : FnScope Ns_folded ["octets"] (defScope s_folded) := ⟨rfl, rfl, rfl, by decide +kernel, rfl, by decide +kernel, by decide +kernel⟩
abbrev s_sum_number : Stmt := topS 2
abbrev Ns_sum_number : List Str := ["octets"]
theorem x_sum_number : FnScope Ns_sum_number ["octets"] (defScope s_sum_number) := ⟨rfl, rfl, rfl, by decide +kernel, rfl, by decide +kernel, by decide +kernel⟩
abbrev s_law_state : Stmt := topS 4
abbrev Ns_law_state : List Str := ["script", "cells", "cell"]
theorem x_law_state : FnScope Ns_law_state ["script"] (defScope s_law_state) := ⟨rfl, rfl, rfl, by decide +kernel, rfl, by decide +kernel, by decide +kernel⟩
abbrev s_law_take : Stmt := topS 5
abbrev Ns_law_take : List Str := ["state", "most", "cells", "at", "cell", "mixed"]
theorem x_law_take : FnScope Ns_law_take ["state", "most"] (defScope s_law_take) := ⟨rfl, rfl, rfl, by decide +kernel, rfl, by decide +kernel, by decide +kernel⟩
abbrev s_law_pick : Stmt := topS 6
abbrev Ns_law_pick : List Str := ["state", "row"]
theorem x_law_pick : FnScope Ns_law_pick ["state", "row"] (defScope s_law_pick) := ⟨rfl, rfl, rfl, by decide +kernel, rfl, by decide +kernel, by decide +kernel⟩
abbrev s_law_same : Stmt := topS 7
abbrev Ns_law_same : List Str := ["told", "due", "key", "k"]
theorem x_law_same : FnScope Ns_law_same ["told", "due"] (defScope s_law_same) := ⟨rfl, rfl, rfl, by decide +kernel, rfl, by decide +kernel, by decide +kernel⟩
abbrev s_law_two : Stmt := topS 8
abbrev Ns_law_two : List Str := ["number"]
theorem x_law_two : FnScope Ns_law_two ["number"] (defScope s_law_two) := ⟨rfl, rfl, rfl, by decide +kernel, rfl, by decide +kernel, by decide +kernel⟩
abbrev s_law_sum : Stmt := topS 9
abbrev Ns_law_sum : List Str := ["octets", "total", "k", "turn"]
theorem x_law_sum : FnScope Ns_law_sum ["octets"] (defScope s_law_sum) := ⟨rfl, rfl, rfl, by decide +kernel, rfl, by decide +kernel, by decide +kernel⟩
abbrev s_law_number : Stmt := topS 10
abbrev Ns_law_number : List Str := ["state", "low", "high", "kind", "span"]
theorem x_law_number : FnScope Ns_law_number ["state", "low", "high"] (defScope s_law_number) := ⟨rfl, rfl, rfl, by decide +kernel, rfl, by decide +kernel, by decide +kernel⟩
abbrev s_law_data : Stmt := topS 11
abbrev Ns_law_data : List Str := ["state", "most", "size", "kind", "first", "step", "k"]
theorem x_law_data : FnScope Ns_law_data ["state", "most"] (defScope s_law_data) := ⟨rfl, rfl, rfl, by decide +kernel, rfl, by decide +kernel, by decide +kernel⟩
abbrev s_law_worked : Stmt := topS 12
abbrev Ns_law_worked : List Str := []
theorem x_law_worked : FnScope Ns_law_worked [] (defScope s_law_worked) := ⟨rfl, rfl, rfl, by decide +kernel, rfl, by decide +kernel, by decide +kernel⟩
abbrev s_law : Stmt := topS 13
abbrev Ns_law : List Str := ["script", "state", "turn", "octets", "due", "given", "at", "bare", "full"]
theorem x_law : FnScope Ns_law ["script"] (defScope s_law) := ⟨rfl, rfl, rfl, by decide +kernel, rfl, by decide +kernel, by decide +kernel⟩
/-- what the top has written -/
structure Df (K : PySem.W.Frag) (mg : Str → Option Value) (x : Str) (st : Stmt) (ps : List Str) (a : Addr) (fd : FuncData) : Prop where
  F : Fun K x x st a fd
  b : Binds K fd ps []
  g : mg x = some (.ref a)
structure Tx (K : PySem.W.Frag) (mg : Str → Option Value) where
  ad_folded : Addr
  fd_folded : FuncData
  d_folded : Df K mg "folded" s_folded ["octets"] ad_folded fd_folded
  ad_sum_number : Addr
  fd_sum_number : FuncData
  d_sum_number : Df K mg "sum_number" s_sum_number ["octets"] ad_sum_number fd_sum_number
  ad_law_state : Addr
  fd_law_state : FuncData
  d_law_state : Df K mg "_law_state" s_law_state ["script"] ad_law_state fd_law_state
  ad_law_take : Addr
  fd_law_take : FuncData
  d_law_take : Df K mg "_law_take" s_law_take ["state", "most"] ad_law_take fd_law_take
  ad_law_pick : Addr
  fd_law_pick : FuncData
  d_law_pick : Df K mg "_law_pick" s_law_pick ["state", "row"] ad_law_pick fd_law_pick
  ad_law_same : Addr
  fd_law_same : FuncData
  d_law_same : Df K mg "_law_same" s_law_same ["told", "due"] ad_law_same fd_law_same
  ad_law_two : Addr
  fd_law_two : FuncData
  d_law_two : Df K mg "_law_two" s_law_two ["number"] ad_law_two fd_law_two
  ad_law_sum : Addr
  fd_law_sum : FuncData
  d_law_sum : Df K mg "_law_sum" s_law_sum ["octets"] ad_law_sum fd_law_sum
  ad_law_number : Addr
  fd_law_number : FuncData
  d_law_number : Df K mg "_law_number" s_law_number ["state", "low", "high"] ad_law_number fd_law_number
  ad_law_data : Addr
  fd_law_data : FuncData
  d_law_data : Df K mg "_law_data" s_law_data ["state", "most"] ad_law_data fd_law_data
  ad_law_worked : Addr
  fd_law_worked : FuncData
  d_law_worked : Df K mg "_law_worked" s_law_worked [] ad_law_worked fd_law_worked
  ad_law : Addr
  fd_law : FuncData
  d_law : Df K mg "law" s_law ["script"] ad_law fd_law
  b_sum : mg "sum" = none
  b_abs : mg "abs" = none
  b_len : mg "len" = none
  b_int : mg "int" = none
  b_isinstance : mg "isinstance" = none
  b_dict : mg "dict" = none
  b_all : mg "all" = none
  b_bool : mg "bool" = none
  b_str : mg "str" = none
  b_tuple : mg "tuple" = none
  b_list : mg "list" = none
  b_range : mg "range" = none
  b_min : mg "min" = none
  b_max : mg "max" = none
abbrev rLenS (K : PySem.W.Frag) : List V → Hp → VK → Prop := fun xs H Q => ∃ p ys, xs = [.ref p] ∧ (SqL K H p ys ∨ SqT K H p ys) ∧ Q (.int ys.length) H
/-- the state of the law's own draws stands at p, its numbers at c -/
def LS (H : Hp) (p c : Addr) : Prop := ∃ (k : Int) (ns : List Int), H p = some (.lst [.int k, .ref c]) ∧ H c = some (.lst (ns.map V.int)) ∧ ns ≠ []
/-- all else stays as it stands -/
def Kp (p c : Addr) (H H' : Hp) : Prop := ∀ b o, H b = some o → b ≠ p → b ≠ c → H' b = some o
theorem Kp.refl (p c : Addr) (H : Hp) : Kp p c H H := fun _ _ h _ _ => h
theorem Kp.trans {p c : Addr} {H H1 H2 : Hp} (a : Kp p c H H1) (b : Kp p c H1 H2) : Kp p c H H2 := fun q o h h1 h2 => b q o (a q o h h1 h2) h1 h2
theorem LS.ne {H : Hp} {p c : Addr} (h : LS H p c) : p ≠ c := by
  obtain ⟨k, ns, h1, h2, h3⟩ := h
  intro e
  subst e
  rw [h1] at h2
  cases ns with
  | nil => exact h3 rfl
  | cons x r =>
    have z := congrArg (fun o => match o with | some (HO.lst [_, y]) => y | _ => V.non) h2
    cases r with
    | nil => cases h2
    | cons y r =>
      cases r with
      | nil => cases h2
      | cons _ _ => cases h2
theorem same_upd {H : Hp} {p : Addr} {o : HO} (h : H p = none) : Same H (upd H p o) := fun b x e => by
  rw [upd_ne (ne_of_none e h)]
  exact e
theorem kp_same {p c : Addr} {H H' : Hp} (s : Same H H') : Kp p c H H' := fun b o h _ _ => s b o h
theorem LS.same {H H' : Hp} {p c : Addr} (h : LS H p c) (s : Same H H') : LS H' p c := by
  obtain ⟨k, ns, h1, h2, h3⟩ := h
  exact ⟨k, ns, s _ _ h1, s _ _ h2, h3⟩
theorem LS.new {H : Hp} {p c q : Addr} {o : HO} (h : LS H p c) (n : H q = none) : LS (upd H q o) p c := h.same (same_upd n)
theorem LS.ne1 {H : Hp} {p c l : Addr} (h : LS H p c) (n : H l = none) : l ≠ p := by
  obtain ⟨k, ns, g1, g2, g3⟩ := h
  exact (ne_of_none g1 n).symm
theorem LS.ne2 {H : Hp} {p c l : Addr} (h : LS H p c) (n : H l = none) : l ≠ c := by
  obtain ⟨k, ns, g1, g2, g3⟩ := h
  exact (ne_of_none g2 n).symm
def spState (K : PySem.W.Frag) : Sp := fun vs H Q _ => ∃ (a : Addr) (ns : List Int), vs = [.ref a] ∧ SqL K H a (ns.map V.int) ∧ ns.length ≤ 63 ∧
  ∀ (p c : Addr) (H' : Hp), LS H' p c → Same H H' → H p = none → H c = none → Q (.ref p) H'
def spTake : Sp := fun vs H Q _ => ∃ (p c : Addr) (m : Int), vs = [.ref p, .int m] ∧ LS H p c ∧ m < 1073741824 ∧
  ∀ (r : Int) (H' : Hp), 0 ≤ r → (r < m ∨ r < 1) → LS H' p c → Kp p c H H' → Q (.int r) H'
def spPick (K : PySem.W.Frag) : Sp := fun vs H Q _ => ∃ (p c q : Addr) (xs : List V), vs = [.ref p, .ref q] ∧ LS H p c ∧ q ≠ p ∧ q ≠ c ∧ H q = some (.lst xs) ∧ xs ≠ [] ∧ xs.length < 1073741824 ∧
  ∀ (v : V) (H' : Hp), v ∈ xs → LS H' p c → Kp p c H H' → Q v H'
def spNumber : Sp := fun vs H Q _ => ∃ (p c : Addr) (lo hi : Int), vs = [.ref p, .int lo, .int hi] ∧ LS H p c ∧ lo ≤ hi ∧
  ∀ (r : Int) (H' : Hp), lo ≤ r → r ≤ hi → LS H' p c → Kp p c H H' → Q (.int r) H'
section
variable {P : Program} {w : World} {K : PySem.W.Frag} {mg : Str → Option Value} {base : Heap}
theorem emod_rng (x : Int) {m : Int} (h : 0 < m) : 0 ≤ x % m ∧ x % m < m := ⟨Int.emod_nonneg _ (by omega), Int.emod_lt_of_pos _ h⟩
theorem at_mod {α : Type} {xs : List α} (h : xs ≠ []) (k : Int) : ∃ (j : Nat) (v : α), k % (xs.length : Int) = (j : Int) ∧ j < xs.length ∧ xs[j]? = some v := by
  have hl : 0 < xs.length := by
    cases xs with
    | nil => exact absurd rfl h
    | cons _ _ => exact Nat.zero_lt_succ _
  have e := emod_rng k (m := (xs.length : Int)) (by omega)
  refine ⟨(k % (xs.length : Int)).toNat, xs[(k % (xs.length : Int)).toNat]'(by omega), by omega, by omega, List.getElem?_eq_getElem _⟩
theorem ok_law_take (T : Tx K mg) : FnOk P w K mg base CX0 1 T.ad_law_take T.fd_law_take ["state", "most"] spTake := by
  refine T.d_law_take.F.ok x_law_take (fun vs H Q E h => ?_) (fun cdv A outer s H vs Q E hr h => ?_)
  · obtain ⟨p, c, m, rfl, _⟩ := h
    rfl
  · obtain ⟨p, c, m, rfl, hL, hm, q⟩ := h
    have nd := x_law_take.nd
    have npc := hL.ne
    obtain ⟨k, ns, h1, h2, h3⟩ := id hL
    refine ⟨_, (pss_cons (ps_if (pt_cmpR op_lt (pv 1) pe_int (nomark _)) (pss_one (ps_ret pe_int)) pss_nil)
        (pss_cons (ps_set (i := 2) nd rfl (Or.inl rfl) (pe_ix ix_list (pv 0) pe_int (fun _ _ => rfl)))
        (pss_cons (ps_set (i := 3) nd rfl (Or.inl rfl) (pe_op op_mod (pe_callTy call_int1 (by rfl) T.b_int (by decide +kernel) (pa_cons (pe_ix ix_list (pv 0) pe_int (fun _ _ => rfl)) pa_nil)) (pe_callB call_len_seq (by rfl) T.b_len (by decide +kernel) (pa_cons (pv 2) pa_nil))))
        (pss_cons (ps_set (i := 4) nd rfl (Or.inl rfl) (pe_ix ix_list (pv 2) (pv 3) (fun _ _ => rfl)))
        (pss_cons (ps_if (pt_cmpR op_ge (pv 4) pe_int (nomark _)) (pss_cons (ps_asg (pe_op op_fdiv (pv 4) (pv 1)) (pg_sub (pv 2) (pv 3) set_list))
        (pss_one (ps_ret (pe_op op_mod (pe_callTy call_int1 (by rfl) T.b_int (by decide +kernel) (pa_cons (pv 4) pa_nil)) (pv 1))))) pss_nil)
        (pss_cons (ps_asg (pe_op op_add (pe_ix ix_list (pv 0) pe_int (fun _ _ => rfl)) pe_int) (pg_sub (pv 0) pe_int set_list))
        (pss_cons (ps_set (i := 5) nd rfl (Or.inl rfl) (pe_op op_mod (pe_callTy call_int1 (by rfl) T.b_int (by decide +kernel) (pa_cons (pe_op op_add (pe_op op_mul (pv 4) pe_int) (pe_op op_mul (pe_ix ix_list (pv 0) pe_int (fun _ _ => rfl)) pe_int)) pa_nil)) pe_int))
        (pss_cons (ps_set (i := 5) nd rfl (Or.inl rfl) (pe_op op_mod (pe_callTy call_int1 (by rfl) T.b_int (by decide +kernel) (pa_cons (pe_op op_add (pe_op op_mul (pv 5) pe_int) (pe_op op_mul (pe_ix ix_list (pv 0) pe_int (fun _ _ => rfl)) pe_int)) pa_nil)) pe_int))
        (pss_one (ps_ret (pe_op op_mod (pe_callTy call_int1 (by rfl) T.b_int (by decide +kernel) (pa_cons (pe_op op_fdiv (pv 5) pe_int) pa_nil)) (pv 1)))))))))))), ?_⟩
    refine ⟨_, rfl, _, _, rfl, rfl, _, rfl, ite2 (fun e => ?_) (fun e => ?_)⟩
    · exact q 0 H (by decide) (.inr (by decide)) hL (Kp.refl _ _ _)
    have e2 : ¬ m < 2 := of_decide_eq_false (Bool.not_eq_true _ ▸ e)
    have hl0 : (ns.map V.int) ≠ [] := by
      cases ns with
      | nil => exact absurd rfl h3
      | cons _ _ => intro z; cases z
    obtain ⟨j, v, ej, hj, hv⟩ := at_mod hl0 k
    have hjn : j < ns.length := by rw [List.length_map] at hj; exact hj
    obtain ⟨x, hx, rfl⟩ : ∃ x, ns[j]? = some x ∧ v = V.int x := by
      rw [List.getElem?_map] at hv
      cases e : ns[j]? with
      | none => rw [e] at hv; cases hv
      | some x => rw [e] at hv; exact ⟨x, rfl, (Option.some.inj hv).symm⟩
    have hpos : (0 : Int) < ((ns.map V.int).length : Int) := by omega
    refine ⟨_, rfl, _, _, _, _, rfl, rfl, SqL.of h1, atI_nat (j := 1) rfl, ?_⟩
    refine ⟨_, rfl, _, _, _, _, rfl, rfl, SqL.of h1, atI_nat (j := 0) rfl, .inl ⟨_, rfl, ?_⟩⟩
    refine ⟨_, rfl, _, _, rfl, .inl (SqL.of h2), _, _, rfl, rfl, hpos, ?_⟩
    refine ⟨_, rfl, _, rfl, _, _, _, _, rfl, rfl, SqL.of h2, at_of ej hv, ?_⟩
    refine ⟨_, rfl, _, _, rfl, rfl, _, rfl, ite2 (fun eb => ?_) (fun eb => ?_)⟩
    · -- cells[at] = cell // most
      refine ⟨_, rfl, _, rfl, _, _, rfl, rfl, ⟨by omega, by omega⟩, _, rfl, _, rfl, _, _, _, j, rfl, rfl, h2, ?_, ?_⟩
      · rw [ej]
        unfold ixN
        rw [if_pos (by omega), if_pos (by omega)]
        exact congrArg some (by omega)
      · refine ⟨_, rfl, .inl ⟨_, rfl, _, rfl, _, _, rfl, rfl, by omega, ?_⟩⟩
        have r := emod_rng x (m := m) (by omega)
        refine q _ _ r.1 (.inl r.2) ⟨k, ns.set j (x / m), by rw [upd_ne npc]; exact h1, by rw [upd_same, List.map_set], ?_⟩ fun b o e hb hc => by rw [upd_ne hc]; exact e
        intro z
        have zz := congrArg List.length z
        rw [List.length_set] at zz
        have : ns.length = 0 := zz
        omega
    · -- state[0] = state[0] + 1
      refine ⟨_, rfl, _, _, _, _, rfl, rfl, SqL.of h1, atI_nat (j := 0) rfl, _, _, rfl, rfl, _, rfl, _, _, _, 0, rfl, rfl, h1, rfl, ?_⟩
      have g1 : (upd H p (.lst ([V.int k, V.ref c].set 0 (.int (k + 1))))) p = some (.lst [V.int (k + 1), V.ref c]) := upd_same
      have hL' : LS (upd H p (.lst ([V.int k, V.ref c].set 0 (.int (k + 1))))) p c := ⟨k + 1, ns, g1, by rw [upd_ne npc.symm]; exact h2, h3⟩
      have hk : Kp p c H (upd H p (.lst ([V.int k, V.ref c].set 0 (.int (k + 1))))) := fun b o e hb hc => by rw [upd_ne hb]; exact e
      generalize upd H p (.lst ([V.int k, V.ref c].set 0 (.int (k + 1)))) = H1 at g1 hL' hk ⊢
      refine ⟨_, rfl, _, _, rfl, rfl, .inr ⟨by decide, by decide⟩, _, rfl, _, _, _, _, rfl, rfl, SqL.of g1, atI_nat (j := 0) rfl, _, _, rfl, rfl, .inr ⟨by decide, by decide⟩, _, _, rfl, rfl, .inl ⟨_, rfl, _, _, rfl, rfl, (by show (0 : Int) < 2147483647; decide), ?_⟩⟩
      refine ⟨_, rfl, _, _, rfl, rfl, .inr ⟨by decide, by decide⟩, _, rfl, _, _, _, _, rfl, rfl, SqL.of g1, atI_nat (j := 0) rfl, _, _, rfl, rfl, .inr ⟨by decide, by decide⟩, _, _, rfl, rfl, .inl ⟨_, rfl, _, _, rfl, rfl, (by show (0 : Int) < 1000000007; decide), ?_⟩⟩
      refine ⟨_, rfl, _, _, rfl, rfl, ⟨by decide, by decide⟩, .inl ⟨_, rfl, _, rfl, _, _, rfl, rfl, (by show 0 < m; omega), ?_⟩⟩
      have r := emod_rng ((((x * 48271 + (k + 1) * 69621) % 2147483647 * 16807 + (k + 1) * 7919) % 1000000007) / 7) (m := m) (by omega)
      exact q _ _ r.1 (.inl r.2) hL' hk
end

section
variable {P : Program} {w : World} {K : PySem.W.Frag} {mg : Str → Option Value} {base : Heap}
theorem cut63 (xs : List V) (h : xs.length ≤ 63) : cutV xs none (some 63) = xs := by
  unfold cutV
  rw [HT.sIx_none, show HT.sIx xs.length xs.length (some 63) = min 63 xs.length from HT.sIx_nat xs.length xs.length 63]
  rw [List.drop_zero, Nat.min_eq_right h, Nat.sub_zero, List.take_length]
theorem cut_lo (xs : List V) (j : Nat) (h : j ≤ xs.length) : cutV xs none (some (j : Int)) = xs.take j := by
  unfold cutV
  rw [HT.sIx_none, HT.sIx_nat, Nat.min_eq_left h, List.drop_zero, Nat.sub_zero]
theorem cut_any (xs : List V) (j : Nat) : cutV xs none (some (j : Int)) = xs.take j := by
  unfold cutV
  rw [HT.sIx_none, HT.sIx_nat, List.drop_zero, Nat.sub_zero]
  by_cases h : j ≤ xs.length
  · rw [Nat.min_eq_left h]
  · rw [Nat.min_eq_right (by omega), List.take_length, List.take_of_length_le (by omega)]
theorem cut_hi (xs : List V) (j : Nat) (h : j ≤ xs.length) : cutV xs (some (j : Int)) none = xs.drop j := by
  unfold cutV
  rw [HT.sIx_none, HT.sIx_nat, Nat.min_eq_left h]
  exact List.take_of_length_le (by rw [List.length_drop]; omega)
theorem ok_law_state (T : Tx K mg) : FnOk P w K mg base CX0 1 T.ad_law_state T.fd_law_state ["script"] (spState K) := by
  refine T.d_law_state.F.ok x_law_state (fun vs H Q E h => ?_) (fun cdv A outer s H vs Q E hr h => ?_)
  · obtain ⟨a, ns, rfl, _⟩ := h
    rfl
  · obtain ⟨a, ns, rfl, hS, hlen, q⟩ := h
    have nd := x_law_state.nd
    refine ⟨_, (pss_cons (ps_setLc (i := 1) (own := [("cell", 2)]) (g := gName 2) rfl nd rfl rfl (sw_true rfl rfl rfl (by decide +kernel)) (pi_list (pe_slice sl_list (pv 0) po_none (po_some pe_int))) (blkOk_by (own := [("cell", 2)]) (N := Ns_law_state) (sc := defScope s_law_state) (by decide +kernel)) (fun _ _ _ _ _ => (pg_name (i := 2) nd rfl (Or.inl rfl))) (fun _ _ _ _ _ => pts_nil) (fun _ _ _ _ _ => (pe_callB call_abs (by rfl) T.b_abs (by decide +kernel) (pa_cons (pv 2) pa_nil))))
        (pss_cons (ps_if (pt_cmpR op_eq (pe_callB call_len_seq (by rfl) T.b_len (by decide +kernel) (pa_cons (pv 1) pa_nil)) pe_int (nomark _)) (pss_one (ps_set (i := 1) nd rfl (Or.inl rfl) (pe_lst (pa_cons pe_int pa_nil)))) pss_nil)
        (pss_one (ps_ret (pe_lst (pa_cons pe_int (pa_cons (pv 1) pa_nil))))))), ?_⟩
    have hml : (ns.map V.int).length ≤ 63 := by rw [List.length_map]; exact hlen
    refine ⟨_, rfl, 63, rfl, a, _, rfl, hS, fun p np => ?_⟩
    rw [cut63 _ hml]
    have g0 : (upd H p (.lst (ns.map V.int))) p = some (.lst (ns.map V.int)) := upd_same
    have s0 : Same H (upd H p (.lst (ns.map V.int))) := same_upd np
    generalize upd H p (.lst (ns.map V.int)) = H0 at g0 s0 ⊢
    refine ⟨p, rfl, ⟨_, SqL.of g0⟩, fun D hD => lc_list (K := K) (a := p) (xs := ns.map V.int) (fun i H1 => Same H0 H1 ∧ H1 D = some (.lst (((ns.take i).map fun x => if x < 0 then -x else x).map V.int))) ⟨same_upd hD, upd_same⟩ (fun i H1 _ z => SqL.of (z.1 _ _ g0)) ?_ ?_⟩
    · rintro i x H1 hi ⟨s1, g1⟩
      obtain ⟨z, hz, rfl⟩ : ∃ z, ns[i]? = some z ∧ x = V.int z := by
        rw [List.getElem?_map] at hi
        cases e : ns[i]? with
        | none => rw [e] at hi; cases hi
        | some z => rw [e] at hi; exact ⟨z, rfl, (Option.some.inj hi).symm⟩
      have hil := (List.getElem?_eq_some_iff.mp hz).1
      refine ⟨rfl, ?_⟩
      refine ⟨_, rfl, z, rfl, _, g1, ?_, fun b o e => ?_, ?_⟩
      · rw [List.length_map, List.length_map, List.length_take]
        exact small1000 (by omega)
      · rw [upd_ne (ne_of_none e hD)]
        exact s1 _ _ e
      · rw [upd_same, List.take_add_one, hz]
        simp
    · rintro H1 ⟨s1, g1⟩
      rw [List.length_map, List.take_length] at g1
      have np2 : H D = none := s0.free hD
      refine ⟨_, rfl, D, _, rfl, .inl (SqL.of g1), rfl, _, rfl, ite2 (fun e => ?_) (fun e => ?_)⟩
      · refine ⟨by show 1 ≤ sizeLine; decide, fun c hc => ?_⟩
        refine ⟨_, rfl, by show 2 ≤ sizeLine; decide, fun r hr' => ?_⟩
        have s2 : Same H1 (upd H1 c (.lst [.int 0])) := same_upd hc
        have s3 : Same (upd H1 c (.lst [.int 0])) (upd (upd H1 c (.lst [.int 0])) r (.lst [.int 0, .ref c])) := same_upd hr'
        refine q r c _ ⟨0, [0], upd_same, s3 _ _ upd_same, by intro z; cases z⟩ (s0.trans (s1.trans (s2.trans s3))) ?_ ?_
        · exact s0.free (s1.free (s2.free hr'))
        · exact s0.free (s1.free hc)
      · refine ⟨_, rfl, by show 2 ≤ sizeLine; decide, fun r hr' => ?_⟩
        have s3 : Same H1 (upd H1 r (.lst [.int 0, .ref D])) := same_upd hr'
        refine q r D _ ⟨0, _, upd_same, s3 _ _ g1, ?_⟩ (s0.trans (s1.trans s3)) (s0.free (s1.free hr')) np2
        intro z
        refine e (decide_eq_true (congrArg V.int ?_))
        rw [List.length_map, z]
        rfl
theorem ok_law_pick (T : Tx K mg) : FnOk P w K mg base CX0 2 T.ad_law_pick T.fd_law_pick ["state", "row"] (spPick K) := by
  refine T.d_law_pick.F.ok x_law_pick (fun vs H Q E h => ?_) (fun cdv A outer s H vs Q E hr h => ?_)
  · obtain ⟨p, c, t, xs, rfl, _⟩ := h
    rfl
  · obtain ⟨p, c, t, xs, rfl, hL, n1, n2, ht, hx, hlx, q⟩ := h
    have nd := x_law_pick.nd
    refine ⟨_, (pss_one (ps_ret (pe_ix ix_list (pv 1) (pe_call (ok_law_take T) hr (by rfl) T.d_law_take.g T.d_law_take.F.kp T.d_law_take.b .nil pass0 (pa_cons (pv 0) (pa_cons (pe_callB call_len_seq (by rfl) T.b_len (by decide +kernel) (pa_cons (pv 1) pa_nil)) pa_nil))) (fun _ _ => rfl)))), ?_⟩
    refine ⟨_, rfl, _, rfl, _, rfl, t, xs, rfl, .inl (SqL.of ht), p, c, _, rfl, hL, by omega, fun r H' h0 h1 hL' hk => ?_⟩
    have hl : 0 < xs.length := by
      cases xs with
      | nil => exact absurd rfl hx
      | cons _ _ => exact Nat.zero_lt_succ _
    have ht' := hk t _ ht n1 n2
    have hi : r.toNat < xs.length := by omega
    refine ⟨t, xs, r, xs[r.toNat], rfl, rfl, SqL.of ht', at_of (j := r.toNat) (by omega) (List.getElem?_eq_getElem hi), ?_⟩
    exact q _ H' (List.getElem_mem hi) hL' hk
theorem ok_law_number (T : Tx K mg) : FnOk P w K mg base CX0 2 T.ad_law_number T.fd_law_number ["state", "low", "high"] spNumber := by
  refine T.d_law_number.F.ok x_law_number (fun vs H Q E h => ?_) (fun cdv A outer s H vs Q E hr h => ?_)
  · obtain ⟨p, c, lo, hi, rfl, _⟩ := h
    rfl
  · obtain ⟨p, c, lo, hi, rfl, hL, hlh, q⟩ := h
    have nd := x_law_number.nd
    refine ⟨_, (pss_cons (ps_set (i := 3) nd rfl (Or.inl rfl) (pe_call (ok_law_take T) hr (by rfl) T.d_law_take.g T.d_law_take.F.kp T.d_law_take.b .nil pass0 (pa_cons (pv 0) (pa_cons pe_int pa_nil))))
        (pss_cons (ps_if (pt_cmpR op_eq (pv 3) pe_int (nomark _)) (pss_one (ps_ret (pv 1))) pss_nil)
        (pss_cons (ps_if (pt_cmpR op_eq (pv 3) pe_int (nomark _)) (pss_one (ps_ret (pv 2))) pss_nil)
        (pss_cons (ps_if (pt_cmpR op_eq (pv 3) pe_int (nomark _)) (pss_one (ps_ret (pe_callB (call_min2 rfl) (by rfl) T.b_min (by decide +kernel) (pa_cons (pv 2) (pa_cons (pe_op op_add (pe_op op_add (pv 1) pe_int) (pe_call (ok_law_take T) hr (by rfl) T.d_law_take.g T.d_law_take.F.kp T.d_law_take.b .nil pass0 (pa_cons (pv 0) (pa_cons pe_int pa_nil)))) pa_nil))))) pss_nil)
        (pss_cons (ps_if (pt_cmpR op_eq (pv 3) pe_int (nomark _)) (pss_one (ps_ret (pe_callB (call_max2 rfl) (by rfl) T.b_max (by decide +kernel) (pa_cons (pv 1) (pa_cons (pe_op op_sub (pe_op op_sub (pv 2) pe_int) (pe_call (ok_law_take T) hr (by rfl) T.d_law_take.g T.d_law_take.F.kp T.d_law_take.b .nil pass0 (pa_cons (pv 0) (pa_cons pe_int pa_nil)))) pa_nil))))) pss_nil)
        (pss_cons (ps_set (i := 4) nd rfl (Or.inl rfl) (pe_op op_add (pe_op op_sub (pv 2) (pv 1)) pe_int))
        (pss_one (ps_ret (pe_op op_add (pv 1) (pe_op op_mod (pe_callTy call_int1 (by rfl) T.b_int (by decide +kernel) (pa_cons (pe_op op_add (pe_op op_mul (pe_call (ok_law_take T) hr (by rfl) T.d_law_take.g T.d_law_take.F.kp T.d_law_take.b .nil pass0 (pa_cons (pv 0) (pa_cons pe_int pa_nil))) pe_int) (pe_call (ok_law_take T) hr (by rfl) T.d_law_take.g T.d_law_take.F.kp T.d_law_take.b .nil pass0 (pa_cons (pv 0) (pa_cons pe_int pa_nil)))) pa_nil)) (pv 4))))))))))), ?_⟩
    refine ⟨_, rfl, p, c, 6, rfl, hL, by decide, fun r H1 h0 h1 hL1 k1 => ?_⟩
    refine ⟨_, rfl, rfl, _, rfl, ite2 (fun _ => ?_) (fun _ => ?_)⟩
    · exact ⟨_, rfl, q _ _ (Int.le_refl _) hlh hL1 k1⟩
    refine ⟨_, rfl, rfl, _, rfl, ite2 (fun _ => ?_) (fun _ => ?_)⟩
    · exact ⟨_, rfl, q _ _ hlh (Int.le_refl _) hL1 k1⟩
    refine ⟨_, rfl, rfl, _, rfl, ite2 (fun _ => ?_) (fun _ => ?_)⟩
    · refine ⟨_, rfl, _, rfl, _, _, rfl, rfl, _, rfl, p, c, 3, rfl, hL1, by decide, fun r2 H2 h02 h12 hL2 k2 => ?_⟩
      refine ⟨_, _, rfl, rfl, _, _, rfl, ?_⟩
      refine q _ _ ?_ ?_ hL2 (k1.trans k2)
      · split <;> omega
      · split <;> omega
    refine ⟨_, rfl, rfl, _, rfl, ite2 (fun _ => ?_) (fun _ => ?_)⟩
    · refine ⟨_, rfl, _, rfl, _, _, rfl, rfl, _, rfl, p, c, 3, rfl, hL1, by decide, fun r2 H2 h02 h12 hL2 k2 => ?_⟩
      refine ⟨_, _, rfl, rfl, _, _, rfl, ?_⟩
      refine q _ _ ?_ ?_ hL2 (k1.trans k2)
      · split <;> omega
      · split <;> omega
    refine ⟨_, rfl, _, rfl, _, _, rfl, rfl, _, _, rfl, rfl, ?_⟩
    refine ⟨_, rfl, _, rfl, p, c, 65536, rfl, hL1, by decide, fun r2 H2 h02 h12 hL2 k2 => ?_⟩
    refine ⟨_, _, rfl, rfl, .inr ⟨by decide, by decide⟩, _, rfl, p, c, 65536, rfl, hL2, by decide, fun r3 H3 h03 h13 hL3 k3 => ?_⟩
    refine ⟨_, _, rfl, rfl, .inl ⟨_, rfl, _, rfl, _, _, rfl, rfl, (by show 0 < hi - lo + 1; omega), _, _, rfl, rfl, ?_⟩⟩
    have e := emod_rng (r2 * 65536 + r3) (m := hi - lo + 1) (by omega)
    exact q _ _ (by omega) (by omega) hL3 (k1.trans (k2.trans k3))
end

/-- None, truths, numbers, texts -/
def flt1 : V → Bool
  | .non => true | .bl _ => true | .int _ => true | .str z => PyData.strOk z | _ => false
/-- x and y are the same data, at most n deep -/
def Sm (K : PySem.W.Frag) (H : Hp) : Nat → V → V → Prop
  | 0, x, y => x = y ∧ flt1 x = true
  | n + 1, x, y => (x = y ∧ flt1 x = true) ∨ ∃ (a b : Addr) (xs ys : List V), x = .ref a ∧ y = .ref b ∧ ((SqL K H a xs ∧ SqL K H b ys) ∨ (SqT K H a xs ∧ SqT K H b ys)) ∧ xs.length = ys.length ∧ xs.length ≤ 100000 ∧
      ∀ (i : Nat) (u v : V), xs[i]? = some u → ys[i]? = some v → Sm K H n u v
theorem sqT_same {K : PySem.W.Frag} {H H' : Hp} {a : Addr} {xs : List V} (e : Same H H') (h : SqT K H a xs) : SqT K H' a xs := by
  rcases h with (h | ⟨o, h⟩) | h
  · exact .inl (.inl (e _ _ h))
  · exact .inl (.inr ⟨o, e _ _ h⟩)
  · exact .inr h
theorem Sm.same {K : PySem.W.Frag} {H H' : Hp} (e : Same H H') : ∀ {n : Nat} {x y : V}, Sm K H n x y → Sm K H' n x y
  | 0, _, _, h => h
  | n + 1, _, _, .inl h => .inl h
  | n + 1, _, _, .inr ⟨a, b, xs, ys, h1, h2, h3, h4, h5, h6⟩ => .inr ⟨a, b, xs, ys, h1, h2, (match h3 with
      | .inl z => .inl ⟨e.seq z.1, e.seq z.2⟩
      | .inr z => .inr ⟨sqT_same e z.1, sqT_same e z.2⟩), h4, h5, fun i u v hu hv => Sm.same e (h6 i u v hu hv)⟩
theorem Sm.flat {K : PySem.W.Frag} {H : Hp} {n : Nat} {x : V} (h : flt1 x = true) : Sm K H n x x := by
  cases n with
  | zero => exact ⟨rfl, h⟩
  | succ n => exact .inl ⟨rfl, h⟩
theorem tyx_L {K : PySem.W.Frag} {H : Hp} {a : Addr} {xs : List V} (h : SqL K H a xs) : TyX K H (.ref a) (.type "list") := by
  rcases h with (h | ⟨o, h⟩) | ⟨o, its, n, h1, h2, h3⟩
  · exact .base (.lst h)
  · exact .base (.frz h)
  · exact .kList h1 h2
theorem tyx_T {K : PySem.W.Frag} {H : Hp} {a : Addr} {xs : List V} (h : SqT K H a xs) : TyX K H (.ref a) (.type "tuple") := by
  rcases h with (h | ⟨o, h⟩) | ⟨o, its, n, h1, h2, h3⟩
  · exact .base (.tup h)
  · exact .fTuple h
  · exact .kTuple h1 h2
theorem kt {K : PySem.W.Frag} (a b : String) {r : Bool} (h : kitB a b = some r) : PySem.W.kitOne K (.type a) (.type b) = some r := h
theorem k_ib {K : PySem.W.Frag} : PySem.W.kitOne K (.type "int") (.type "bool") = some false := kt _ _ (by decide +kernel)
theorem k_is {K : PySem.W.Frag} : PySem.W.kitOne K (.type "int") (.type "str") = some false := kt _ _ (by decide +kernel)
theorem k_ii {K : PySem.W.Frag} : PySem.W.kitOne K (.type "int") (.type "int") = some true := kt _ _ (by decide +kernel)
theorem k_bb {K : PySem.W.Frag} : PySem.W.kitOne K (.type "bool") (.type "bool") = some true := kt _ _ (by decide +kernel)
theorem k_bs {K : PySem.W.Frag} : PySem.W.kitOne K (.type "bool") (.type "str") = some false := kt _ _ (by decide +kernel)
theorem k_sb {K : PySem.W.Frag} : PySem.W.kitOne K (.type "str") (.type "bool") = some false := kt _ _ (by decide +kernel)
theorem k_ss {K : PySem.W.Frag} : PySem.W.kitOne K (.type "str") (.type "str") = some true := kt _ _ (by decide +kernel)
theorem k_lb {K : PySem.W.Frag} : PySem.W.kitOne K (.type "list") (.type "bool") = some false := kt _ _ (by decide +kernel)
theorem k_ls {K : PySem.W.Frag} : PySem.W.kitOne K (.type "list") (.type "str") = some false := kt _ _ (by decide +kernel)
theorem k_li {K : PySem.W.Frag} : PySem.W.kitOne K (.type "list") (.type "int") = some false := kt _ _ (by decide +kernel)
theorem k_ld {K : PySem.W.Frag} : PySem.W.kitOne K (.type "list") (.type "dict") = some false := kt _ _ (by decide +kernel)
theorem k_lt {K : PySem.W.Frag} : PySem.W.kitOne K (.type "list") (.type "tuple") = some false := kt _ _ (by decide +kernel)
theorem k_ll {K : PySem.W.Frag} : PySem.W.kitOne K (.type "list") (.type "list") = some true := kt _ _ (by decide +kernel)
theorem k_tb {K : PySem.W.Frag} : PySem.W.kitOne K (.type "tuple") (.type "bool") = some false := kt _ _ (by decide +kernel)
theorem k_ts {K : PySem.W.Frag} : PySem.W.kitOne K (.type "tuple") (.type "str") = some false := kt _ _ (by decide +kernel)
theorem k_ti {K : PySem.W.Frag} : PySem.W.kitOne K (.type "tuple") (.type "int") = some false := kt _ _ (by decide +kernel)
theorem k_td {K : PySem.W.Frag} : PySem.W.kitOne K (.type "tuple") (.type "dict") = some false := kt _ _ (by decide +kernel)
theorem k_tt {K : PySem.W.Frag} : PySem.W.kitOne K (.type "tuple") (.type "tuple") = some true := kt _ _ (by decide +kernel)
theorem k_tl {K : PySem.W.Frag} : PySem.W.kitOne K (.type "tuple") (.type "list") = some false := kt _ _ (by decide +kernel)
theorem ka2 {K : PySem.W.Frag} {t c d : Value} {x y : Bool} (h1 : PySem.W.kitOne K t c = some x) (h2 : PySem.W.kitOne K t d = some y) : PySem.W.kitAny K t [c, d] = some (x || y) := by
  unfold PySem.W.kitAny
  rw [h1]
  cases x with
  | true => rfl
  | false =>
    show PySem.W.kitAny K t [d] = _
    unfold PySem.W.kitAny
    rw [h2]
    cases y <;> rfl
def spSame (K : PySem.W.Frag) (n : Nat) : Sp := fun vs H Q _ => ∃ (x y : V), vs = [x, y] ∧ Sm K H n x y ∧ ∀ (H' : Hp), Same H H' → Q (.bl true) H'
theorem Sm.eq {K : PySem.W.Frag} {H : Hp} {n : Nat} {x y : V} (e : x = y) (h : flt1 x = true) : Sm K H n x y := e ▸ Sm.flat h
theorem Sm.lst {K : PySem.W.Frag} {H : Hp} {n : Nat} {a b : Addr} {xs : List V} (ha : SqL K H a xs) (hb : SqL K H b xs) (hf : ∀ x ∈ xs, flt1 x = true) (hl : xs.length ≤ 100000) : Sm K H (n + 1) (.ref a) (.ref b) :=
  .inr ⟨a, b, xs, xs, rfl, rfl, .inl ⟨ha, hb⟩, rfl, hl, fun i u v hu hv => by
    rw [hu] at hv
    cases hv
    exact Sm.flat (hf u (List.mem_of_getElem? hu))⟩
theorem Sm.tup {K : PySem.W.Frag} {H : Hp} {n : Nat} {a b : Addr} {xs : List V} (ha : SqT K H a xs) (hb : SqT K H b xs) (hf : ∀ x ∈ xs, flt1 x = true) (hl : xs.length ≤ 100000) : Sm K H (n + 1) (.ref a) (.ref b) :=
  .inr ⟨a, b, xs, xs, rfl, rfl, .inr ⟨ha, hb⟩, rfl, hl, fun i u v hu hv => by
    rw [hu] at hv
    cases hv
    exact Sm.flat (hf u (List.mem_of_getElem? hu))⟩
theorem ix_sq {K : PySem.W.Frag} {H : Hp} {a : Addr} {xs : List V} {i : Int} {v : V} {Q : VK} (h : SqL K H a xs ∨ SqT K H a xs) (hi : atI xs i = some v) (q : Q v H) : rIx K (.ref a) (.int i) H Q := by
  rcases h with h | h
  · exact .inl ⟨a, xs, i, v, rfl, rfl, h, hi, q⟩
  · exact .inr (.inl ⟨a, xs, i, v, rfl, rfl, h, hi, q⟩)
/-- two lists, or two tuples, of the same data -/
def spSeq (K : PySem.W.Frag) (n : Nat) : Sp := fun vs H Q _ => ∃ (a b : Addr) (xs ys : List V), vs = [.ref a, .ref b] ∧ ((SqL K H a xs ∧ SqL K H b ys) ∨ (SqT K H a xs ∧ SqT K H b ys)) ∧ xs.length = ys.length ∧ xs.length ≤ 100000 ∧
  (∀ (i : Nat) (u v : V), xs[i]? = some u → ys[i]? = some v → Sm K H n u v) ∧ ∀ (H' : Hp), Same H H' → Q (.bl true) H'
section
variable {P : Program} {w : World} {K : PySem.W.Frag} {mg : Str → Option Value} {base : Heap}
theorem ok_same0 (T : Tx K mg) : FnOk P w K mg base CX0 1 T.ad_law_same T.fd_law_same ["told", "due"] (spSame K 0) := by
  refine T.d_law_same.F.ok x_law_same (fun vs H Q E h => ?_) (fun cdv A outer s H vs Q E hr h => ?_)
  · obtain ⟨x, y, rfl, _⟩ := h
    rfl
  · obtain ⟨x, y, rfl, ⟨rfl, hf⟩, q⟩ := h
    have nd := x_law_same.nd
    refine ⟨_, (pss_cons (ps_if (pt_cmpR op_isN (pv 1) pe_non (nomark _)) (pss_one (ps_ret (pe_cmpR op_isN (pv 0) pe_non (nomark _)))) pss_nil)
        (pss_cons (ps_if (pt_val (pe_callB call_isiT (by rfl) T.b_isinstance (by decide +kernel) (pa_cons (pv 1) (pa_cons (pe_tup (pa_cons (pe_bltn (v := .ty "bool") (by rfl) T.b_bool (by decide +kernel) rfl) (pa_cons (pe_bltn (v := .ty "str") (by rfl) T.b_str (by decide +kernel) rfl) pa_nil))) pa_nil)))) (pss_one (ps_ret (pe_and (pe_cmpR op_eq (pe_callB call_isi (by rfl) T.b_isinstance (by decide +kernel) (pa_cons (pv 0) (pa_cons (pe_bltn (v := .ty "bool") (by rfl) T.b_bool (by decide +kernel) rfl) pa_nil))) (pe_callB call_isi (by rfl) T.b_isinstance (by decide +kernel) (pa_cons (pv 1) (pa_cons (pe_bltn (v := .ty "bool") (by rfl) T.b_bool (by decide +kernel) rfl) pa_nil))) (nomark _)) (pe_and (pe_cmpR op_eq (pe_callB call_isi (by rfl) T.b_isinstance (by decide +kernel) (pa_cons (pv 0) (pa_cons (pe_bltn (v := .ty "str") (by rfl) T.b_str (by decide +kernel) rfl) pa_nil))) (pe_callB call_isi (by rfl) T.b_isinstance (by decide +kernel) (pa_cons (pv 1) (pa_cons (pe_bltn (v := .ty "str") (by rfl) T.b_str (by decide +kernel) rfl) pa_nil))) (nomark _)) (pe_one (pe_cmpR op_eq (pv 0) (pv 1) (nomark _))))))) pss_nil)
        (pss_cons (ps_if (pt_val (pe_callB call_isi (by rfl) T.b_isinstance (by decide +kernel) (pa_cons (pv 1) (pa_cons (pe_bltn (v := .ty "int") (by rfl) T.b_int (by decide +kernel) rfl) pa_nil)))) (pss_one (ps_ret (pe_and (pe_callB call_isi (by rfl) T.b_isinstance (by decide +kernel) (pa_cons (pv 0) (pa_cons (pe_bltn (v := .ty "int") (by rfl) T.b_int (by decide +kernel) rfl) pa_nil))) (pe_and (pe_not (pe_callB call_isi (by rfl) T.b_isinstance (by decide +kernel) (pa_cons (pv 0) (pa_cons (pe_bltn (v := .ty "bool") (by rfl) T.b_bool (by decide +kernel) rfl) pa_nil)))) (pe_one (pe_cmpR op_eq (pv 0) (pv 1) (nomark _))))))) pss_nil)
        pss_never))), ?_⟩
    cases x with
    | non => exact ⟨_, rfl, rfl, _, rfl, _, rfl, rfl, q H (Same.refl H)⟩
    | int i =>
      refine ⟨_, rfl, rfl, _, rfl, _, rfl, by show 2 ≤ sizeLine; decide, fun t ht => ?_⟩
      have s1 := same_upd (o := .tup [.ty "bool", .ty "str"]) ht
      refine ⟨_, t, _, _, _, _, rfl, upd_same, .cons (.ty _) (.cons (.ty _) .nil), .base (.int i), ka2 k_ib k_is, _, rfl, ?_⟩
      refine ⟨_, rfl, _, _, _, _, _, rfl, .ty _, .base (.int i), k_ii, _, rfl, ?_⟩
      refine ⟨_, rfl, _, _, _, _, _, rfl, .ty _, .base (.int i), k_ii, _, rfl, ?_⟩
      refine ⟨_, rfl, _, _, _, _, _, rfl, .ty _, .base (.int i), k_ib, _, rfl, _, rfl, ?_⟩
      refine ⟨_, rfl, _, rfl, rfl, ?_⟩
      rw [decide_eq_true rfl]
      exact q _ s1
    | bl i =>
      refine ⟨_, rfl, rfl, _, rfl, _, rfl, by show 2 ≤ sizeLine; decide, fun t ht => ?_⟩
      have s1 := same_upd (o := .tup [.ty "bool", .ty "str"]) ht
      refine ⟨_, t, _, _, _, _, rfl, upd_same, .cons (.ty _) (.cons (.ty _) .nil), .base (.bl i), ka2 k_bb k_bs, _, rfl, ?_⟩
      refine ⟨_, rfl, _, _, _, _, _, rfl, .ty _, .base (.bl i), k_bb, _, rfl, _, _, _, _, _, rfl, .ty _, .base (.bl i), k_bb, rfl, _, rfl, ite2 (fun _ => ?_) (fun e => absurd (decide_eq_true rfl) e)⟩
      refine ⟨_, rfl, _, _, _, _, _, rfl, .ty _, .base (.bl i), k_bs, _, rfl, _, _, _, _, _, rfl, .ty _, .base (.bl i), k_bs, rfl, _, rfl, ite2 (fun _ => ?_) (fun e => absurd (decide_eq_true rfl) e)⟩
      refine ⟨_, rfl, _, rfl, rfl, ?_⟩
      rw [decide_eq_true rfl]
      exact q _ s1
    | str i =>
      refine ⟨_, rfl, rfl, _, rfl, _, rfl, by show 2 ≤ sizeLine; decide, fun t ht => ?_⟩
      have s1 := same_upd (o := .tup [.ty "bool", .ty "str"]) ht
      refine ⟨_, t, _, _, _, _, rfl, upd_same, .cons (.ty _) (.cons (.ty _) .nil), .base (.str i), ka2 k_sb k_ss, _, rfl, ?_⟩
      refine ⟨_, rfl, _, _, _, _, _, rfl, .ty _, .base (.str i), k_sb, _, rfl, _, _, _, _, _, rfl, .ty _, .base (.str i), k_sb, rfl, _, rfl, ite2 (fun _ => ?_) (fun e => absurd (decide_eq_true rfl) e)⟩
      refine ⟨_, rfl, _, _, _, _, _, rfl, .ty _, .base (.str i), k_ss, _, rfl, _, _, _, _, _, rfl, .ty _, .base (.str i), k_ss, rfl, _, rfl, ite2 (fun _ => ?_) (fun e => absurd (decide_eq_true rfl) e)⟩
      refine ⟨_, rfl, _, rfl, rfl, ?_⟩
      rw [decide_eq_true rfl]
      exact q _ s1
    | _ => cases hf
theorem ok_same1 (T : Tx K mg) {m : Nat} (G : FnOk P w K mg base CX0 (m + 1) T.ad_law_same T.fd_law_same ["told", "due"] (spSame K m)) :
    FnOk P w K mg base CX0 (m + 2) T.ad_law_same T.fd_law_same ["told", "due"] (spSeq K m) := by
  refine T.d_law_same.F.ok x_law_same (fun vs H Q E h => ?_) (fun cdv A outer s H vs Q E hr h => ?_)
  · obtain ⟨x, y, xs, ys, rfl, _⟩ := h
    rfl
  · obtain ⟨a, b, xs, ys, rfl, hS, hl, hle, hi, q⟩ := h
    have nd := x_law_same.nd
    have hrS := hr
    refine ⟨_, (pss_cons (ps_if (pt_cmpR op_isN (pv 1) pe_non (nomark _)) (pss_one (ps_ret (pe_cmpR op_isN (pv 0) pe_non (nomark _)))) pss_nil)
        (pss_cons (ps_if (pt_val (pe_callB call_isiT (by rfl) T.b_isinstance (by decide +kernel) (pa_cons (pv 1) (pa_cons (pe_tup (pa_cons (pe_bltn (v := .ty "bool") (by rfl) T.b_bool (by decide +kernel) rfl) (pa_cons (pe_bltn (v := .ty "str") (by rfl) T.b_str (by decide +kernel) rfl) pa_nil))) pa_nil)))) (pss_one (ps_ret (pe_and (pe_cmpR op_eq (pe_callB call_isi (by rfl) T.b_isinstance (by decide +kernel) (pa_cons (pv 0) (pa_cons (pe_bltn (v := .ty "bool") (by rfl) T.b_bool (by decide +kernel) rfl) pa_nil))) (pe_callB call_isi (by rfl) T.b_isinstance (by decide +kernel) (pa_cons (pv 1) (pa_cons (pe_bltn (v := .ty "bool") (by rfl) T.b_bool (by decide +kernel) rfl) pa_nil))) (nomark _)) (pe_and (pe_cmpR op_eq (pe_callB call_isi (by rfl) T.b_isinstance (by decide +kernel) (pa_cons (pv 0) (pa_cons (pe_bltn (v := .ty "str") (by rfl) T.b_str (by decide +kernel) rfl) pa_nil))) (pe_callB call_isi (by rfl) T.b_isinstance (by decide +kernel) (pa_cons (pv 1) (pa_cons (pe_bltn (v := .ty "str") (by rfl) T.b_str (by decide +kernel) rfl) pa_nil))) (nomark _)) (pe_one (pe_cmpR op_eq (pv 0) (pv 1) (nomark _))))))) pss_nil)
        (pss_cons (ps_if (pt_val (pe_callB call_isi (by rfl) T.b_isinstance (by decide +kernel) (pa_cons (pv 1) (pa_cons (pe_bltn (v := .ty "int") (by rfl) T.b_int (by decide +kernel) rfl) pa_nil)))) (pss_one (ps_ret (pe_and (pe_callB call_isi (by rfl) T.b_isinstance (by decide +kernel) (pa_cons (pv 0) (pa_cons (pe_bltn (v := .ty "int") (by rfl) T.b_int (by decide +kernel) rfl) pa_nil))) (pe_and (pe_not (pe_callB call_isi (by rfl) T.b_isinstance (by decide +kernel) (pa_cons (pv 0) (pa_cons (pe_bltn (v := .ty "bool") (by rfl) T.b_bool (by decide +kernel) rfl) pa_nil)))) (pe_one (pe_cmpR op_eq (pv 0) (pv 1) (nomark _))))))) pss_nil)
        (pss_cons (ps_if (pt_val (pe_callB call_isi (by rfl) T.b_isinstance (by decide +kernel) (pa_cons (pv 1) (pa_cons (pe_bltn (v := .ty "dict") (by rfl) T.b_dict (by decide +kernel) rfl) pa_nil)))) pss_never pss_nil)
        (pss_cons (ps_if (PW.pt (pw_or (pt_cmpR op_ne (pe_callB call_isi (by rfl) T.b_isinstance (by decide +kernel) (pa_cons (pv 0) (pa_cons (pe_bltn (v := .ty "tuple") (by rfl) T.b_tuple (by decide +kernel) rfl) pa_nil))) (pe_callB call_isi (by rfl) T.b_isinstance (by decide +kernel) (pa_cons (pv 1) (pa_cons (pe_bltn (v := .ty "tuple") (by rfl) T.b_tuple (by decide +kernel) rfl) pa_nil))) (nomark _)) (pw_or (pt_not (pt_val (pe_callB call_isiT (by rfl) T.b_isinstance (by decide +kernel) (pa_cons (pv 0) (pa_cons (pe_tup (pa_cons (pe_bltn (v := .ty "tuple") (by rfl) T.b_tuple (by decide +kernel) rfl) (pa_cons (pe_bltn (v := .ty "list") (by rfl) T.b_list (by decide +kernel) rfl) pa_nil))) pa_nil))))) (pw_or1 (pt_cmpR op_ne (pe_callB call_len_seq (by rfl) T.b_len (by decide +kernel) (pa_cons (pv 0) pa_nil)) (pe_callB call_len_seq (by rfl) T.b_len (by decide +kernel) (pa_cons (pv 1) pa_nil)) (nomark _)))))) (pss_one (ps_ret pe_bl)) pss_nil)
        (pss_one (ps_ret (pe_callB (cr_all rfl) (by rfl) T.b_all (by decide +kernel) (pa_cons (pe_lc (own := [("k", 3)]) (g := gName 3) rfl nd (pi_range1 (by rfl) T.b_range (pa_cons (pe_callB call_len_seq (by rfl) T.b_len (by decide +kernel) (pa_cons (pv 1) pa_nil)) pa_nil)) (blkOk_by (own := [("k", 3)]) (N := Ns_law_same) (sc := defScope s_law_same) (by decide +kernel)) (fun _ _ _ _ _ => (pg_name (i := 3) nd rfl (Or.inl rfl))) (fun _ _ _ _ _ => pts_nil) (fun _ _ _ _ _ => (pe_call G hrS (by rfl) T.d_law_same.g T.d_law_same.F.kp T.d_law_same.b .nil pass0 (pa_cons (pe_ix (r := rIx K) ix_seq (pv 0) (pv 3) (fun _ _ => rfl)) (pa_cons (pe_ix (r := rIx K) ix_seq (pv 1) (pv 3) (fun _ _ => rfl)) pa_nil))))) pa_nil))))))))), ?_⟩
    have hb : ∃ tn, (∀ H1, Same H H1 → TyX K H1 (.ref b) (.type tn) ∧ TyX K H1 (.ref a) (.type tn)) ∧ kitB tn "bool" = some false ∧ kitB tn "str" = some false ∧ kitB tn "int" = some false ∧ kitB tn "dict" = some false ∧ ∃ ip, kitB tn "tuple" = some ip ∧ ∃ il, kitB tn "list" = some il ∧ (ip || il) = true := by
      rcases hS with ⟨h1, h2⟩ | ⟨h1, h2⟩
      · exact ⟨"list", fun H1 s1 => ⟨tyx_L (s1.seq h2), tyx_L (s1.seq h1)⟩, by decide +kernel, by decide +kernel, by decide +kernel, by decide +kernel, false, by decide +kernel, true, by decide +kernel, rfl⟩
      · exact ⟨"tuple", fun H1 s1 => ⟨tyx_T (sqT_same s1 h2), tyx_T (sqT_same s1 h1)⟩, by decide +kernel, by decide +kernel, by decide +kernel, by decide +kernel, true, by decide +kernel, false, by decide +kernel, rfl⟩
    obtain ⟨tn, hT, e1, e2, e3, e4, ip, e5, il, e6, e7⟩ := hb
    have ea : ∀ H1, Same H H1 → (SqL K H1 a xs ∨ SqT K H1 a xs) := fun H1 s1 => by
      rcases hS with ⟨h1, h2⟩ | ⟨h1, h2⟩
      · exact .inl (s1.seq h1)
      · exact .inr (sqT_same s1 h1)
    have eb : ∀ H1, Same H H1 → (SqL K H1 b ys ∨ SqT K H1 b ys) := fun H1 s1 => by
      rcases hS with ⟨h1, h2⟩ | ⟨h1, h2⟩
      · exact .inl (s1.seq h2)
      · exact .inr (sqT_same s1 h2)
    have ek : PySem.W.kitAny K (.type tn) [.type "tuple", .type "list"] = some true := e7 ▸ ka2 (kt _ _ e5) (kt _ _ e6)
    refine ⟨_, rfl, rfl, _, rfl, _, rfl, by show 2 ≤ sizeLine; decide, fun t ht => ?_⟩
    have s1 := same_upd (o := .tup [.ty "bool", .ty "str"]) ht
    refine ⟨_, t, _, _, _, _, rfl, upd_same, .cons (.ty _) (.cons (.ty _) .nil), (hT _ s1).1, ka2 (kt _ _ e1) (kt _ _ e2), _, rfl, ?_⟩
    refine ⟨_, rfl, _, _, _, _, _, rfl, .ty _, (hT _ s1).1, kt _ _ e3, _, rfl, ?_⟩
    refine ⟨_, rfl, _, _, _, _, _, rfl, .ty _, (hT _ s1).1, kt _ _ e4, _, rfl, ?_⟩
    refine ⟨_, rfl, _, _, _, _, _, rfl, .ty _, (hT _ s1).2, kt _ _ e5, _, rfl, _, _, _, _, _, rfl, .ty _, (hT _ s1).1, kt _ _ e5, rfl, _, rfl, iteNS rfl ?_⟩
    refine ⟨_, rfl, by show 2 ≤ sizeLine; decide, fun t2 ht2 => ?_⟩
    have s2 := s1.trans (same_upd (o := .tup [.ty "tuple", .ty "list"]) ht2)
    refine ⟨_, t2, _, _, _, _, rfl, upd_same, .cons (.ty _) (.cons (.ty _) .nil), (hT _ s2).2, ek, _, rfl, ?_⟩
    refine ⟨_, rfl, a, xs, rfl, ea _ s2, _, rfl, b, ys, rfl, eb _ s2, rfl, _, rfl, iteNS (congrArg V.int (congrArg Nat.cast hl)) ?_⟩
    generalize upd (upd H t (.tup [.ty "bool", .ty "str"])) t2 (.tup [.ty "tuple", .ty "list"]) = H2 at s2 ⊢
    refine ⟨_, rfl, b, ys, rfl, eb _ s2, _, rfl, by omega, by omega, fun D hD => ?_⟩
    refine lc_range (lo := 0) (n := (ys.length : Int).toNat) (fun i H1 => Same H2 H1 ∧ H1 D = some (.lst ((List.replicate i true).map V.bl))) ⟨same_upd hD, upd_same⟩ ?_ ?_
    · rintro i H1 hin ⟨s3, g3⟩
      have h23 := s2.trans s3
      have hix : i < xs.length := by omega
      have hiy : i < ys.length := by omega
      refine ⟨rfl, _, rfl, _, rfl, ix_sq (ea _ h23) (at_of (j := i) (by omega) (List.getElem?_eq_getElem hix)) ?_⟩
      refine ⟨_, rfl, _, rfl, ix_sq (eb _ h23) (at_of (j := i) (by omega) (List.getElem?_eq_getElem hiy)) ?_⟩
      refine ⟨_, _, rfl, (hi i _ _ (List.getElem?_eq_getElem hix) (List.getElem?_eq_getElem hiy)).same h23, fun H4 s4 => ⟨_, s4 _ _ g3, ?_, fun c o e => ?_, ?_⟩⟩
      · rw [List.length_map, List.length_replicate]
        exact Nat.lt_of_le_of_lt (m := 100000) (by omega) (by decide)
      · rw [upd_ne (ne_of_none e hD)]
        exact s4 _ _ (s3 _ _ e)
      · rw [upd_same, List.replicate_succ', List.map_append]
        rfl
    · rintro H1 ⟨s3, g3⟩
      refine ⟨D, _, rfl, SqL.of g3, ?_⟩
      have ht : (List.replicate (ys.length : Int).toNat true).all id = true := by
        rw [List.all_eq_true]
        intro z hz
        exact (List.mem_replicate.mp hz).2
      rw [ht]
      exact q H1 (s2.trans s3)
theorem ok_same (T : Tx K mg) : ∀ n : Nat, FnOk P w K mg base CX0 (n + 1) T.ad_law_same T.fd_law_same ["told", "due"] (spSame K n)
  | 0 => ok_same0 T
  | n + 1 => by
    have F0 : FnOk P w K mg base CX0 (n + 2) T.ad_law_same T.fd_law_same ["told", "due"] (spSame K 0) := (ok_same0 T).mono (by omega)
    have F1 := ok_same1 (P := P) (w := w) (base := base) T (ok_same T n)
    refine ⟨fun vs H Q E h => ?_, fun A outer s H args us vs Q E hr he hb hv hs => ?_⟩
    · obtain ⟨x, y, rfl, _⟩ := h
      rfl
    · obtain ⟨x, y, rfl, h | ⟨a, b, xs, ys, rfl, rfl, h⟩, q⟩ := hs
      · exact F0.run A outer s H args us _ Q E hr he hb hv ⟨x, y, rfl, h, q⟩
      · obtain ⟨h1, h2, h3, h4⟩ := h
        exact F1.run A outer s H args us _ Q E hr he hb hv ⟨a, b, xs, ys, rfl, h1, h2, h3, h4, q⟩
end

/-- every second one, from the first on -/
def alt {α : Type} : List α → List α
  | [] => []
  | [x] => [x]
  | x :: _ :: r => x :: alt r
theorem alt_len {α : Type} : ∀ l : List α, (alt l).length = (l.length + 1) / 2
  | [] => by simp [alt]
  | [_] => by simp [alt]
  | _ :: _ :: r => by
    show (alt r).length + 1 = (r.length + 1 + 1 + 1) / 2
    rw [alt_len r]
    omega
theorem alt_vals : ∀ {xs : List V} {us : List Value}, Vals xs us → Vals (alt xs) (alt us)
  | _, _, .nil => .nil
  | _, _, .cons r .nil => .cons r .nil
  | _, _, .cons r (.cons _ t) => .cons r (alt_vals t)
theorem alt_map {α β : Type} (f : α → β) : ∀ l : List α, alt (l.map f) = (alt l).map f
  | [] => rfl
  | [_] => rfl
  | _ :: _ :: r => by
    show _ :: alt (r.map f) = _ :: (alt r).map f
    rw [alt_map f r]
theorem alt_pick {α : Type} : ∀ (l : List α) (m : Nat), m = (l.length + 1) / 2 → (List.range m).filterMap (fun i => l[2 * i]?) = alt l
  | [], m, h => by
    have e : m = 0 := by simp only [List.length_nil] at h; omega
    subst e
    rfl
  | [x], m, h => by
    have e : m = 1 := by simp only [List.length_cons, List.length_nil] at h; omega
    subst e
    rfl
  | x :: y :: r, m, h => by
    obtain ⟨m', rfl⟩ : ∃ m', m = m' + 1 := ⟨m - 1, by simp only [List.length_cons] at h; omega⟩
    rw [List.range_succ_eq_map, List.filterMap_cons]
    show x :: _ = x :: alt r
    rw [List.filterMap_map]
    have e : ((fun i => (x :: y :: r)[2 * i]?) ∘ Nat.succ) = fun i => r[2 * i]? := by
      funext i
      show (x :: y :: r)[2 * (i + 1)]? = r[2 * i]?
      rw [show 2 * (i + 1) = 2 * i + 1 + 1 by omega]
      rfl
    rw [e, alt_pick r m' (by simp only [List.length_cons] at h; omega)]
theorem pick2 (its : List Value) (k : Nat) : slicePick its.toArray (some (k : Int)) none (some 2) = (alt (its.drop k)).toArray := by
  unfold slicePick
  congr 1
  have hb : sliceBounds (some (k : Int)) none (some 2) its.toArray.size = (((min k its.length : Nat) : Int), ((its.length : Nat) : Int), 2) := by
    have h2 : (2 : Int) > 0 := by decide
    have h3 : ¬ ((k : Int) < 0) := by omega
    unfold sliceBounds
    simp only [Option.getD_some, List.size_toArray, h2, h3, if_true, if_false]
    refine Prod.ext ?_ rfl
    show max 0 (min (k : Int) (its.length : Int)) = ((min k its.length : Nat) : Int)
    omega
  rw [hb]
  show (sliceRange ((min k its.length : Nat) : Int) (its.length : Int) 2).filterMap _ = _
  unfold sliceRange
  rw [← alt_pick (its.drop k) ((its.length - k + 1) / 2) (by rw [List.length_drop]), List.filterMap_map]
  have h2 : (2 : Int) > 0 := by decide
  have hm : (if ((min k its.length : Nat) : Int) < (its.length : Int) then ((its.length : Int) - ((min k its.length : Nat) : Int) + 2 - 1) / 2 else 0).toNat = (its.length - k + 1) / 2 := by
    split <;> omega
  simp only [h2, if_true]
  rw [hm]
  by_cases hk : k ≤ its.length
  · congr 1
    funext i
    show its.toArray[(((min k its.length : Nat) : Int) + 2 * (i : Int)).toNat]? = (its.drop k)[2 * i]?
    rw [List.getElem?_toArray, List.getElem?_drop]
    congr 1
    omega
  · rw [show (its.length - k + 1) / 2 = 0 by omega]
    rfl
def tStep2 (K : PySem.W.Frag) (k : Nat) (te : TE) : TE := fun σ H Q => te σ H fun x H1 => ∃ a xs, x = .ref a ∧ SqL K H1 a xs ∧ ∀ p, H1 p = none → Q (.ref p) (upd H1 p (.lst (alt (xs.drop k))))
theorem pe_step2 {X : Cx} {e : Expr} {te : TE} {k : Nat} {ka kb : Nat} {p1 p2 p3 pos : Pos} (he : PE X e te) :
    PE X (.Subscript e (.Slice (some (.Constant (.int (k : Int)) ka p1)) none (some (.Constant (.int 2) kb p2)) p3) pos) (tStep2 X.K k te) := by
  refine ⟨fun pins s σ H Q I h => ?_⟩
  refine Subscript_ (thn (he.run pins s σ H _ I h) fun v s1 ⟨x, H1, I1, r1, q1⟩ => ?_)
  obtain ⟨a, xs, ex, hx, q⟩ := q1
  subst ex
  cases r1
  have hlo : PO X (some (.Constant (.int (k : Int)) ka p1)) (tPart (tC (.int (k : Int)))) := po_some pe_int
  have hst : PO X (some (.Constant (.int 2) kb p2)) (tPart (tC (.int 2))) := po_some pe_int
  refine wpAny_Slice (thn (hlo.run pins s1 σ H1 (fun o H2 => o = some (k : Int) ∧ H2 = H1) I1 ⟨_, rfl, rfl, rfl⟩) fun vl s2 ⟨l, H2, I2, pl, el, e2⟩ => ?_)
  subst el e2
  refine thn (po_none.run pins s2 σ H2 (fun o H3 => o = none ∧ H3 = H2) I2 ⟨rfl, rfl⟩) fun vu s3 ⟨u, H3, I3, pu, eu, e3⟩ => ?_
  subst eu e3
  refine thn (hst.run pins s3 σ H3 (fun o H4 => o = some 2 ∧ H4 = H3) I3 ⟨_, rfl, rfl, rfl⟩) fun vs s4 ⟨o, H4, I4, ps, eo, e4⟩ => ?_
  subst eo e4
  have I5 : Inv X pins σ H4 { s4 with heap := s4.heap.push { cls := .type "slice", data := .fields #[vl, vu, vs] } } := I4.kept (t' := s4.toks) fun b ob q => Heap.get?_push_of_some _ q
  obtain ⟨its, r, ht, hz⟩ := I5.list hx
  have hlen := r.length
  show wpAny (model X.prog X.w) X.A (subscriptTail e (.Slice (some (.Constant (.int (k : Int)) ka p1)) none (some (.Constant (.int 2) kb p2)) p3) (.ref a) (.ref s4.heap.objs.size)) (EP X pins σ Q) X.xe { s4 with heap := s4.heap.push { cls := .type "slice", data := .fields #[vl, vu, vs] } }
  refine tail_any (ops := [.ref a, .ref s4.heap.objs.size]) ht.isList.typeIs (PySem.slot_list_getitem.lookup) ?_ (by with_unfolding_all rfl)
  refine wpAny_getItem_list_slice ht.isList (Heap.IsSliceOf.new _ vl vu vs) pl pu ps (by decide) ?_ (by rw [List.size_toArray]; omega)
  rw [pick2]
  refine ⟨.ref _, _, I5.laid (t' := s4.toks) (o := .lst (alt (xs.drop k))) (fun b ob q => Heap.get?_push_of_some _ q) (Nat.le_refl _) ?_, rfl, q _ (I5.hok.fresh (Nat.le_refl _))⟩
  exact ⟨by rw [alt_len, List.length_drop]; omega, _, 0, alt_vals (r.drop k), Heap.get?_push_size _ rfl⟩

theorem tuple_mul1 (l : Addr) (items : Array Value) (n : Nat) (dd : Option Addr) (sl : Array (Option Value)) (u : Tok) :
    Meets (Builtin.«tuple.__mul__» ⟨[.ref l, .int 1 u], []⟩) (fun _ R s => s.heap.get? l = some { cls := .type "tuple", dict := dd, data := .seq items n, slots := sl } ∧ R (.ok (.ret (Value.ref l))) s) :=
  .of_wp fun prog w A R s h => by
    obtain ⟨hp, g, d, tk, os⟩ := s
    obtain ⟨hl, h⟩ := h
    have f1 := AutoSeq1.idx_int
    have c1 : (items.isEmpty || ((1 : Int) == 1)) = true := by cases items.isEmpty <;> rfl
    wp_walk using wpAny_loadPart' hl
    repeat (first
      | (refine wpAny_ite_true (decide_eq_true (by rw [c1])) ?_; wp_walk using wpAny_loadPart' hl)
      | (refine wpAny_ite_false (decide_eq_false (by decide)) ?_; wp_walk using wpAny_loadPart' hl))
    exact ⟨_, rfl, h⟩
theorem tuple_mul0 (l : Addr) (items : Array Value) (n : Nat) (dd : Option Addr) (sl : Array (Option Value)) (u : Tok) (hi : items.isEmpty = false) :
    Meets (Builtin.«tuple.__mul__» ⟨[.ref l, .int 0 u], []⟩) (fun _ R s => s.heap.get? l = some { cls := .type "tuple", dict := dd, data := .seq items n, slots := sl } ∧
      R (.ok (.ret (Value.ref s.heap.objs.size))) { s with heap := s.heap.push { cls := Value.type "tuple", data := Data.seq #[] }, toks := s.toks }) :=
  .of_wp fun prog w A R s h => by
    obtain ⟨hp, g, d, tk, os⟩ := s
    obtain ⟨hl, h⟩ := h
    have f1 := AutoSeq1.idx_int
    have c1 : (items.isEmpty || ((0 : Int) == 1)) = false := by rw [hi]; rfl
    wp_walk using wpAny_loadPart' hl
    exact ⟨_, rfl, h⟩
/-- t * k, any k up to 10000 -/
def rRep2 (K : PySem.W.Frag) : R2 := fun x y H Q => ∃ l k xs, x = .ref l ∧ y = .int k ∧ SqT K H l xs ∧ xs ≠ [] ∧ 0 ≤ k ∧ k ≤ 10000 ∧ xs.length ≤ 100 ∧
  ((k = 1 ∧ Q (.ref l) H) ∨ (k ≠ 1 ∧ ∀ p, H p = none → Q (.ref p) (upd H p (.tup (List.replicate k.toNat xs).flatten))))
theorem op_rep2 {X : Cx} : OpR X (binaryOp .Mult) (rRep2 X.K) := by
  intro pins s σ H x y v u Q I rx ry h
  obtain ⟨l, k, xs, rfl, rfl, hT, hne, h1, h2, hz, q⟩ := h
  cases rx
  obtain ⟨t, rfl⟩ := ry
  obtain ⟨its, r, ⟨⟨cls, dd, data, sl⟩, ho, hc, n, hd⟩, hs⟩ := I.tuple hT
  simp only at hc hd
  subst hc hd
  have hle : its.length = xs.length := r.length.symm
  have hn : its ≠ [] := fun e => hne (by
    rw [e] at hle
    exact List.eq_nil_of_length_eq_zero hle.symm)
  have hi : its.toArray.isEmpty = false := by
    cases its with
    | nil => exact absurd rfl hn
    | cons a b => rfl
  have hsz0 : its.toArray.size = xs.length := by rw [List.size_toArray, hle]
  have hm : ((its.toArray.size : Nat) : Int) * k ≤ 1000000 := by
    rw [hsz0]
    have a1 : ((xs.length : Nat) : Int) * k ≤ 100 * k := Int.mul_le_mul_of_nonneg_right (by omega) (by omega)
    omega
  have flen : (List.replicate k.toNat its).flatten.length ≤ sizeLine := by
    rw [PyProof.Rows.lm_len_rep_flat, hle, sizeLine_eq]
    have a1 : k.toNat * xs.length ≤ 10000 * 100 := Nat.mul_le_mul (by omega) hz
    omega
  have flen2 : (List.replicate k.toNat xs).flatten.length ≤ sizeLine := by
    rw [PyProof.Rows.lm_len_rep_flat, sizeLine_eq]
    have a1 : k.toNat * xs.length ≤ 10000 * 100 := Nat.mul_le_mul (by omega) hz
    omega
  have road : ∀ {C : Value → Shared → Prop} , wpAny (model X.prog X.w) X.A (call (.builtin "tuple.__mul__") [.ref l, .int k t]) C X.xe s → wpAny (model X.prog X.w) X.A (binaryOp .Mult (.ref l) (.int k t)) C X.xe s := fun hw =>
    wpAny_binaryOp_repeat_ref (T := "tuple") (U := "int") (by decide) ⟨_, ho, rfl⟩ (fun s' => typeIs_int s' k t) noFill_tuple_mul F.fills_int_mul F.slot_int_rmul repeat_tuple F.slot_int_index.lookup
      (call_meets F.slot_int_rmul (typeIs_int s k t) F.entry_int_rmul (F.args_int_rmul_2 _ _) (int_rmul_tuple k t l its.toArray n dd sl) ⟨ho, rfl, ⟨_, ho, rfl⟩, hw⟩)
  rcases q with ⟨rfl, q⟩ | ⟨k1, q⟩
  · exact road (call_meets F.slot_tuple_mul ⟨_, ho, rfl⟩ F.entry_tuple_mul (F.args_tuple_mul_2 _ _) (tuple_mul1 l its.toArray n dd sl t) ⟨ho, .ref l, H, I, rfl, q⟩)
  · by_cases k0 : k = 0
    · subst k0
      refine road (call_meets F.slot_tuple_mul ⟨_, ho, rfl⟩ F.entry_tuple_mul (F.args_tuple_mul_2 _ _) (tuple_mul0 l its.toArray n dd sl t hi) ⟨ho, ?_⟩)
      refine ⟨.ref s.heap.objs.size, _, I.laid (t' := s.toks) (o := .tup []) (fun b ob q => Heap.get?_push_of_some _ q) (Nat.le_refl _) ?_, rfl, q _ (I.hok.fresh (Nat.le_refl _))⟩
      exact ⟨Nat.zero_le _, [], .nil, IsTup.new _ _⟩
    · have c0 : (decide (k < -(2 ^ 63)) || decide (k ≥ 2 ^ 63)) = false := by
        rw [decide_eq_false (by omega), decide_eq_false (by omega)] <;> rfl
      have c1 : (its.toArray.isEmpty || k == 1) = false := by
        rw [hi, Bool.false_or]
        exact beq_eq_false_iff_ne.mpr (by omega)
      have c2 : (decide (k ≤ 0) || its.toArray.isEmpty) = false := by
        rw [hi, Bool.or_false]
        exact decide_eq_false (by omega)
      have c4 : Builtin.Tuple.tupleTooMany (((its.toArray.size : Nat) : Int) * k) = false := by
        unfold Builtin.Tuple.tupleTooMany
        rw [sizeLine_eq]
        exact decide_eq_false (by omega)
      refine road (call_meets F.slot_tuple_mul ⟨_, ho, rfl⟩ F.entry_tuple_mul (F.args_tuple_mul_2 _ _) (tuple_mulW l its.toArray n dd sl k t c0 c1 c2 (by omega) c4 (by rw [size_rep, List.size_toArray]; exact flen)) ⟨ho, ?_⟩)
      rw [size_rep]
      refine ⟨.ref s.heap.objs.size, _, I.laid (t' := s.toks) (o := .tup (List.replicate k.toNat xs).flatten) (fun b ob q => Heap.get?_push_of_some _ q) (Nat.le_refl _) ?_, rfl, q _ (I.hok.fresh (Nat.le_refl _))⟩
      exact ⟨flen2, _, r.rep k.toNat, IsTup.new _ _⟩

/-- the same data, read by == -/
theorem Sm.data {K : PySem.W.Frag} {H : Hp} : ∀ (n : Nat) (x y : V), Sm K H n x y → ∃ d, Dp K H x d ∧ Dp K H y d ∧ d.canLay0 = true ∧ d.depth ≤ n
  | n, x, y, h => by
    have fl : ∀ x : V, flt1 x = true → ∃ d, Dp K H x d ∧ Dp K H x d ∧ d.canLay0 = true ∧ d.depth ≤ n := by
      intro x h
      cases x with
      | non => exact ⟨_, .non, .non, rfl, Nat.zero_le _⟩
      | bl b => exact ⟨_, .bl b, .bl b, rfl, Nat.zero_le _⟩
      | int i => exact ⟨_, .int i, .int i, rfl, Nat.zero_le _⟩
      | str z => exact ⟨_, .str z, .str z, (by unfold PyData.canLay0; exact h), Nat.zero_le _⟩
      | _ => cases h
    cases n with
    | zero =>
      obtain ⟨rfl, h⟩ := h
      exact fl x h
    | succ n =>
      rcases h with ⟨rfl, h⟩ | ⟨a, b, xs, ys, rfl, rfl, hS, hl, _, hi⟩
      · exact fl x h
      · have all : ∀ (xs ys : List V), xs.length = ys.length → (∀ (i : Nat) (u v : V), xs[i]? = some u → ys[i]? = some v → Sm K H n u v) → ∃ ds, DpAll K H xs ds ∧ DpAll K H ys ds ∧ PyData.canLayAll0 ds = true ∧ PyData.depthAll ds ≤ n := by
          intro xs
          induction xs with
          | nil =>
            intro ys hl _
            cases ys with
            | nil => exact ⟨[], .nil, .nil, rfl, Nat.zero_le _⟩
            | cons _ _ => cases hl
          | cons x xs ih =>
            intro ys hl hi
            cases ys with
            | nil => cases hl
            | cons y ys =>
              obtain ⟨d, d1, d2, d3, d4⟩ := Sm.data n x y (hi 0 x y rfl rfl)
              obtain ⟨ds, e1, e2, e3, e4⟩ := ih ys (Nat.succ.inj hl) fun i u v hu hv => hi (i + 1) u v hu hv
              refine ⟨d :: ds, .cons d1 e1, .cons d2 e2, ?_, ?_⟩
              · simp [PyData.canLayAll0, d3, e3]
              · simp only [PyData.depthAll]
                omega
        obtain ⟨ds, e1, e2, e3, e4⟩ := all xs ys hl hi
        rcases hS with ⟨h1, h2⟩ | ⟨h1, h2⟩
        · exact ⟨.list ds, .lst h1 e1, .lst h2 e2, e3, by simp only [PyData.depth]; omega⟩
        · exact ⟨.tuple ds, .tup h1 e1, .tup h2 e2, e3, by simp only [PyData.depth]; omega⟩
theorem Sm.shaped {K : PySem.W.Frag} {H : Hp} {n : Nat} {x y : V} (h : Sm K H n x y) (hn : n ≤ 64) : ∃ d, Dp K H x d ∧ Dp K H y d ∧ SeqAt.shaped d = true ∧ PyData.eqv d d = true := by
  obtain ⟨d, d1, d2, d3, d4⟩ := Sm.data n x y h
  refine ⟨d, d1, d2, ?_, SeqAt.eqv_refl d d3⟩
  unfold SeqAt.shaped
  rw [d3, decide_eq_true (show d.depth ≤ 64 by omega)]
  rfl
theorem ne_same {K : PySem.W.Frag} {H : Hp} {n : Nat} {x y : V} {Q : VK} (h : Sm K H n x y) (hn : n ≤ 64) (q : Q (.bl false) H) : rNeD K x y H Q := by
  obtain ⟨d, d1, d2, d3, d4⟩ := h.shaped hn
  exact ⟨d, d, d1, d2, d3, d3, by rw [d4]; exact q⟩
theorem eq_same {K : PySem.W.Frag} {H : Hp} {n : Nat} {x y : V} {Q : VK} (h : Sm K H n x y) (hn : n ≤ 64) (q : Q (.bl true) H) : rEqD K x y H Q := by
  obtain ⟨d, d1, d2, d3, d4⟩ := h.shaped hn
  exact ⟨d, d, d1, d2, d3, d3, by rw [d4]; exact q⟩

/-- the sum of the pairs -/
def W (l : List Int) : Int := 256 * (alt l).sum + (alt (l.drop 1)).sum
def fo (t : Int) : Int := if t = 0 then 0 else (t - 1) % 65535 + 1
def Oc (l : List Int) : Prop := ∀ x ∈ l, 0 ≤ x ∧ x ≤ 255
theorem W_two (x y : Int) (r : List Int) : W (x :: y :: r) = 256 * x + y + W r := by
  unfold W
  cases r with
  | nil =>
    simp [alt]
  | cons z r =>
    show 256 * (x :: alt (z :: r)).sum + (alt (y :: z :: r)).sum = _
    show 256 * (x :: alt (z :: r)).sum + (y :: alt r).sum = 256 * x + y + (256 * (alt (z :: r)).sum + (alt r).sum)
    rw [List.sum_cons, List.sum_cons]
    omega
theorem W_bnd : ∀ (l : List Int), Oc l → 0 ≤ W l ∧ W l ≤ 65535 * (l.length : Int)
  | [], _ => ⟨by decide, by decide⟩
  | [x], h => by
    have hx := h x List.mem_cons_self
    have e : W [x] = 256 * x := by simp [W, alt]
    rw [e]
    simp only [List.length_cons, List.length_nil]
    omega
  | x :: y :: r, h => by
    have hx := h x List.mem_cons_self
    have hy := h y (List.mem_cons_of_mem _ List.mem_cons_self)
    have ih := W_bnd r fun z hz => h z (List.mem_cons_of_mem _ (List.mem_cons_of_mem _ hz))
    rw [W_two]
    simp only [List.length_cons]
    omega
theorem W_app : ∀ (a b : List Int), a.length % 2 = 0 → W (a ++ b) = W a + W b
  | [], b, _ => by
    show W b = 0 + W b
    omega
  | [x], b, h => by simp at h
  | x :: y :: r, b, h => by
    have ih := W_app r b (by simp only [List.length_cons] at h; omega)
    show W (x :: y :: (r ++ b)) = _
    rw [W_two, W_two, ih]
    omega
/-- weights by places -/
def wt : Bool → List Int → Int
  | _, [] => 0
  | b, x :: r => x * (if b = true then 256 else 1) + wt (!b) r
theorem wt_W : ∀ l : List Int, wt true l = W l
  | [] => rfl
  | [x] => by
    simp [wt, W, alt]
    omega
  | x :: y :: r => by
    rw [W_two, ← wt_W r]
    show x * 256 + (y * 1 + wt true r) = _
    omega
theorem wt_take : ∀ (l : List Int) (b : Bool) (k : Nat) (x : Int), l[k]? = some x → wt b (l.take (k + 1)) = wt b (l.take k) + x * (if (decide (k % 2 = 0) == b) = true then 256 else 1)
  | [], b, k, x, h => by simp at h
  | y :: r, b, 0, x, h => by
    have e : y = x := Option.some.inj h
    subst e
    show y * (if b = true then 256 else 1) + 0 = 0 + y * (if (true == b) = true then 256 else 1)
    cases b
    · show y * 1 + 0 = 0 + y * 1
      omega
    · show y * 256 + 0 = 0 + y * 256
      omega
  | y :: r, b, k + 1, x, h => by
    have ih := wt_take r (!b) k x h
    show y * (if b = true then 256 else 1) + wt (!b) (r.take (k + 1)) = y * (if b = true then 256 else 1) + wt (!b) (r.take k) + x * (if (decide ((k + 1) % 2 = 0) == b) = true then 256 else 1)
    rw [ih]
    have e : (decide (k % 2 = 0) == !b) = (decide ((k + 1) % 2 = 0) == b) := by
      by_cases hk : k % 2 = 0
      · rw [decide_eq_true hk, decide_eq_false (by omega : ¬ (k + 1) % 2 = 0)]
        cases b <;> rfl
      · rw [decide_eq_false hk, decide_eq_true (by omega : (k + 1) % 2 = 0)]
        cases b <;> rfl
    rw [e]
    omega
/-- what is carried, added again -/
def cy (t : Int) : Int := t / 65536 + t % 65536
theorem cy6 (t : Int) (h0 : 0 ≤ t) (h1 : t ≤ 200000000) : cy (cy (cy (cy (cy (cy t))))) = fo t := by
  have step : ∀ a : Int, 0 ≤ a → 0 ≤ cy a ∧ (cy a) % 65535 = a % 65535 ∧ (cy a = 0 ↔ a = 0) := by
    intro a ha
    unfold cy
    omega
  have s1 := step t h0
  have b1 : cy t ≤ 68600 := by unfold cy; omega
  have s2 := step _ s1.1
  have b2 : cy (cy t) ≤ 65536 := by
    generalize cy t = a at *
    unfold cy
    omega
  have s3 := step _ s2.1
  have b3 : cy (cy (cy t)) ≤ 65535 := by
    generalize cy (cy t) = a at *
    unfold cy
    omega
  have e : ∀ a : Int, 0 ≤ a → a ≤ 65535 → cy a = a := by
    intro a ha hb
    unfold cy
    omega
  rw [e _ s3.1 b3, e _ s3.1 b3, e _ s3.1 b3]
  generalize cy (cy (cy t)) = c at *
  generalize cy (cy t) = b at *
  generalize cy t = a at *
  unfold fo
  split <;> omega
def spFolded (K : PySem.W.Frag) : Sp := fun vs H Q _ => ∃ (a : Addr) (ns : List Int), vs = [.ref a] ∧ SqL K H a (ns.map V.int) ∧ Oc ns ∧ ∀ H', Same H H' → Q (.int (fo (W ns))) H'
def spSumNo (K : PySem.W.Frag) : Sp := fun vs H Q _ => ∃ (a : Addr) (ns : List Int), vs = [.ref a] ∧ SqL K H a (ns.map V.int) ∧ Oc ns ∧ ∀ H', Same H H' → Q (.int (65535 - fo (W ns))) H'
def spLSum (K : PySem.W.Frag) : Sp := fun vs H Q _ => ∃ (a : Addr) (ns : List Int), vs = [.ref a] ∧ SqL K H a (ns.map V.int) ∧ Oc ns ∧ ns.length ≤ 2000 ∧ Q (.int (65535 - fo (W ns))) H
section
variable {P : Program} {w : World} {K : PySem.W.Frag} {mg : Str → Option Value} {base : Heap}
theorem ok_folded (T : Tx K mg) : FnOk P w K mg base CX0 1 T.ad_folded T.fd_folded ["octets"] (spFolded K) := by
  refine T.d_folded.F.ok x_folded (fun vs H Q E h => ?_) (fun cdv A outer s H vs Q E hr h => ?_)
  · obtain ⟨a, ns, rfl, _⟩ := h
    rfl
  · obtain ⟨a, ns, rfl, hS, ho, q⟩ := h
    have nd := x_folded.nd
    refine ⟨_, (pss_cons (ps_set (i := 1) nd rfl (Or.inl rfl) (pe_op op_add (pe_op op_mul pe_int (pe_callB (cr_sum rfl) (by rfl) T.b_sum (by decide +kernel) (pa_cons (pe_step2 (k := 0) (pv 0)) pa_nil))) (pe_callB (cr_sum rfl) (by rfl) T.b_sum (by decide +kernel) (pa_cons (pe_step2 (k := 1) (pv 0)) pa_nil))))
        (pss_cons (ps_if (pt_cmpR op_eq (pv 1) pe_int (nomark _)) (pss_one (ps_ret pe_int)) pss_nil)
        (pss_one (ps_ret (pe_op op_add (pe_op op_mod (pe_op op_sub (pv 1) pe_int) pe_int) pe_int))))), ?_⟩
    refine ⟨_, rfl, a, _, rfl, hS, fun p hp => ?_⟩
    have s1 := same_upd (o := .lst (alt ((ns.map V.int).drop 0))) hp
    refine ⟨p, alt ns, rfl, SqL.of (by rw [upd_same, List.drop_zero, alt_map]), ?_⟩
    refine ⟨_, _, rfl, rfl, .inl ⟨by decide, by decide⟩, _, rfl, a, _, rfl, s1.seq hS, fun p2 hp2 => ?_⟩
    have s2 := same_upd (o := .lst (alt ((ns.map V.int).drop 1))) hp2
    refine ⟨p2, alt (ns.drop 1), rfl, SqL.of (by rw [upd_same, ← List.map_drop, alt_map]), ?_⟩
    refine ⟨_, _, rfl, rfl, ?_⟩
    have e : fo (W ns) = if W ns = 0 then 0 else (W ns - 1) % 65535 + 1 := rfl
    have q2 := q _ (s1.trans s2)
    refine ⟨_, rfl, rfl, _, rfl, ite2 (fun e1 => ?_) (fun e1 => ?_)⟩
    · have z : W ns = 0 := V.int.inj (of_decide_eq_true e1)
      rw [e, if_pos z] at q2
      exact q2
    · have z : ¬ W ns = 0 := fun z => e1 (decide_eq_true (congrArg V.int z))
      rw [e, if_neg z] at q2
      exact ⟨_, rfl, _, _, rfl, rfl, _, _, rfl, rfl, (by show (0 : Int) < 65535; decide), _, _, rfl, rfl, q2⟩
theorem ok_sum_number (T : Tx K mg) : FnOk P w K mg base CX0 2 T.ad_sum_number T.fd_sum_number ["octets"] (spSumNo K) := by
  refine T.d_sum_number.F.ok x_sum_number (fun vs H Q E h => ?_) (fun cdv A outer s H vs Q E hr h => ?_)
  · obtain ⟨a, ns, rfl, _⟩ := h
    rfl
  · obtain ⟨a, ns, rfl, hS, ho, q⟩ := h
    have nd := x_sum_number.nd
    refine ⟨_, (pss_one (ps_ret (pe_op op_sub pe_int (pe_call (ok_folded T) hr (by rfl) T.d_folded.g T.d_folded.F.kp T.d_folded.b .nil pass0 (pa_cons (pv 0) pa_nil))))), ?_⟩
    exact ⟨_, rfl, a, ns, rfl, hS, ho, fun H' s1 => ⟨_, _, rfl, rfl, q H' s1⟩⟩
theorem ok_law_sum (T : Tx K mg) : FnOk P w K mg base CX0 1 T.ad_law_sum T.fd_law_sum ["octets"] (spLSum K) := by
  refine T.d_law_sum.F.ok x_law_sum (fun vs H Q E h => ?_) (fun cdv A outer s H vs Q E hr h => ?_)
  · obtain ⟨a, ns, rfl, _⟩ := h
    rfl
  · obtain ⟨a, ns, rfl, hS, ho, hl, q⟩ := h
    have nd := x_law_sum.nd
    refine ⟨_, (pss_cons (ps_set (i := 1) nd rfl (Or.inl rfl) pe_int)
        (pss_cons (ps_for PassesOwn.never rfl (pi_range1 (by rfl) T.b_range (pa_cons (pe_callB call_len_seq (by rfl) T.b_len (by decide +kernel) (pa_cons (pv 0) pa_nil)) pa_nil)) (pg_name (i := 2) nd rfl (Or.inl rfl)) (pss_one (ps_set (i := 1) nd rfl (Or.inl rfl) (pe_op op_add (pv 1) (pe_op op_mul (pe_ix ix_list (pv 0) (pv 2) (fun _ _ => rfl)) (pe_ifExp (pt_cmpR op_eq (pe_op op_mod (pe_callTy call_int1 (by rfl) T.b_int (by decide +kernel) (pa_cons (pv 2) pa_nil)) pe_int) pe_int (nomark _)) pe_int pe_int))))))
        (pss_cons (ps_for PassesOwn.never rfl (pi_range1 (by rfl) T.b_range (pa_cons pe_int pa_nil)) (pg_name (i := 3) nd rfl (Or.inl rfl)) (pss_one (ps_set (i := 1) nd rfl (Or.inl rfl) (pe_op op_add (pe_op op_fdiv (pv 1) pe_int) (pe_op op_mod (pe_callTy call_int1 (by rfl) T.b_int (by decide +kernel) (pa_cons (pv 1) pa_nil)) pe_int)))))
        (pss_one (ps_ret (pe_op op_sub pe_int (pv 1))))))), ?_⟩
    have hlm : ((ns.map V.int).length : Int) = (ns.length : Int) := by rw [List.length_map]
    refine ⟨_, rfl, a, _, rfl, .inl hS, _, rfl, by omega, by omega, for_range (n := ((ns.map V.int).length : Int).toNat) (fun i σ H' => ∃ v2 v3 : Option V, σ = [some (.ref a), some (.int (wt true (ns.take i))), v2, v3] ∧ H' = H)
      ⟨_, _, rfl, rfl⟩ ?_ ?_⟩
    · rintro i σ H1 hi ⟨v2, v3, rfl, rfl⟩
      have hin : i < ns.length := by omega
      have hx := List.getElem?_eq_getElem hin
      have hw := wt_take ns true i _ hx
      have hb : 0 ≤ ns[i] ∧ ns[i] ≤ 255 := ho _ (List.getElem_mem hin)
      refine ⟨_, rfl, _, rfl, _, rfl, a, _, _, .int ns[i], rfl, rfl, hS, at_of (j := i) (by omega) (by rw [List.getElem?_map, hx]; rfl), ?_⟩
      refine ⟨_, rfl, .inl ⟨_, rfl, _, _, rfl, rfl, (by show (0 : Int) < 2; decide), rfl, _, rfl, ite2 (fun e => ?_) (fun e => ?_)⟩⟩
      · have e1 : (0 + (i : Int)) % 2 = 0 := V.int.inj (of_decide_eq_true e)
        rw [if_pos (by rw [decide_eq_true (by omega : i % 2 = 0)]; rfl)] at hw
        refine ⟨_, _, rfl, rfl, .inr ⟨by decide, by decide⟩, _, _, rfl, rfl, some (.int (0 + (i : Int))), v3, ?_, rfl⟩
        rw [hw]
        rfl
      · have e1 : ¬ (0 + (i : Int)) % 2 = 0 := fun z => e (decide_eq_true (congrArg V.int z))
        rw [if_neg (by rw [decide_eq_false (by omega : ¬ i % 2 = 0)]; decide)] at hw
        refine ⟨_, _, rfl, rfl, .inr ⟨by decide, by decide⟩, _, _, rfl, rfl, some (.int (0 + (i : Int))), v3, ?_, rfl⟩
        rw [hw]
        rfl
    · rintro σ H1 ⟨v2, v3, rfl, rfl⟩
      have et : wt true (ns.take ((ns.map V.int).length : Int).toNat) = W ns := by
        rw [List.take_of_length_le (by omega), wt_W]
      rw [et]
      have hb := W_bnd ns ho
      have hc := cy6 (W ns) hb.1 (by omega)
      refine ⟨6, rfl, by decide, by decide, for_range (n := 6) (fun i σ H' => ∃ v3 : Option V, σ = [some (.ref a), some (.int (Nat.repeat cy i (W ns))), v2, v3] ∧ H' = H1)
        ⟨_, rfl, rfl⟩ ?_ ?_⟩
      · rintro i σ H2 hi ⟨v3, rfl, rfl⟩
        refine ⟨_, rfl, _, _, rfl, rfl, ⟨by decide, by decide⟩, _, rfl, .inl ⟨_, rfl, _, _, rfl, rfl, (by show (0 : Int) < 65536; decide), _, _, rfl, rfl, _, rfl, rfl⟩⟩
      · rintro σ H2 ⟨v3, rfl, rfl⟩
        refine ⟨_, rfl, _, _, rfl, rfl, ?_⟩
        have : Nat.repeat cy 6 (W ns) = fo (W ns) := hc
        rw [this]
        exact q
end

def spLaw (K : PySem.W.Frag) : Sp := fun vs H Q _ => ∃ (a : Addr) (ns : List Int), vs = [.ref a] ∧ SqL K H a (ns.map V.int) ∧ ns.length ≤ 63 ∧ ∀ H', Q (.bl true) H'
def spTwo : Sp := fun vs H Q _ => ∃ n : Int, vs = [.int n] ∧ ∀ p, H p = none → Q (.ref p) (upd H p (.lst [.int (n / 256), .int (n % 256)]))
def spData : Sp := fun vs H Q _ => ∃ (p c : Addr) (m : Int), vs = [.ref p, .int m] ∧ LS H p c ∧ 0 ≤ m ∧ m ≤ 1500 ∧
  ∀ (t : Addr) (ns : List Int) (H' : Hp), Oc ns → (ns.length : Int) ≤ m → H' t = some (.tup (ns.map V.int)) → LS H' p c → Kp p c H H' → Q (.ref t) H'
def spWorked : Sp := fun vs H Q _ => vs = [] ∧ ∀ H', Same H H' → Q (.bl true) H'
section
variable {P : Program} {w : World} {K : PySem.W.Frag} {mg : Str → Option Value} {base : Heap}
theorem ok_law_two (T : Tx K mg) : FnOk P w K mg base CX0 1 T.ad_law_two T.fd_law_two ["number"] spTwo := by
  refine T.d_law_two.F.ok x_law_two (fun vs H Q E h => ?_) (fun cdv A outer s H vs Q E hr h => ?_)
  · obtain ⟨n, rfl, _⟩ := h
    rfl
  · obtain ⟨n, rfl, q⟩ := h
    have nd := x_law_two.nd
    refine ⟨_, (pss_one (ps_ret (pe_lst (pa_cons (pe_op op_fdiv (pv 0) pe_int) (pa_cons (pe_op op_mod (pe_callTy call_int1 (by rfl) T.b_int (by decide +kernel) (pa_cons (pv 0) pa_nil)) pe_int) pa_nil))))), ?_⟩
    exact ⟨_, rfl, _, _, rfl, rfl, ⟨by decide, by decide⟩, _, rfl, .inl ⟨_, rfl, _, _, rfl, rfl, (by show (0 : Int) < 256; decide), by show 2 ≤ sizeLine; decide, fun p hp => q p hp⟩⟩
theorem ok_law_data (T : Tx K mg) : FnOk P w K mg base CX0 3 T.ad_law_data T.fd_law_data ["state", "most"] spData := by
  refine T.d_law_data.F.ok x_law_data (fun vs H Q E h => ?_) (fun cdv A outer s H vs Q E hr h => ?_)
  · obtain ⟨p, c, m, rfl, _⟩ := h
    rfl
  · obtain ⟨p, c, m, rfl, hL, hm0, hm1, q⟩ := h
    have nd := x_law_data.nd
    refine ⟨_, (pss_cons (ps_set (i := 2) nd rfl (Or.inl rfl) (pe_ifExp (pt_cmpR op_eq (pe_call (ok_law_take T) (hr.mono (by decide)) (by rfl) T.d_law_take.g T.d_law_take.F.kp T.d_law_take.b .nil pass0 (pa_cons (pv 0) (pa_cons pe_int pa_nil))) pe_int (nomark _)) (pe_call (ok_law_number T) hr (by rfl) T.d_law_number.g T.d_law_number.F.kp T.d_law_number.b .nil pass0 (pa_cons (pv 0) (pa_cons pe_int (pa_cons (pv 1) pa_nil)))) (pe_call (ok_law_take T) (hr.mono (by decide)) (by rfl) T.d_law_take.g T.d_law_take.F.kp T.d_law_take.b .nil pass0 (pa_cons (pv 0) (pa_cons (pe_op op_add (pe_callB (call_min2 rfl) (by rfl) T.b_min (by decide +kernel) (pa_cons (pv 1) (pa_cons pe_int pa_nil))) pe_int) pa_nil)))))
        (pss_cons (ps_set (i := 3) nd rfl (Or.inr rfl) (pe_call (ok_law_take T) (hr.mono (by decide)) (by rfl) T.d_law_take.g T.d_law_take.F.kp T.d_law_take.b .nil pass0 (pa_cons (pv 0) (pa_cons pe_int pa_nil))))
        (pss_cons (ps_if (pt_cmpR op_eq (pv 3) pe_int (nomark _)) (pss_one (ps_ret (pe_op op_rep2 (pe_tup (pa_cons (pe_call (ok_law_pick T) hr (by rfl) T.d_law_pick.g T.d_law_pick.F.kp T.d_law_pick.b .nil pass0 (pa_cons (pv 0) (pa_cons (pe_lst (pa_cons pe_int (pa_cons pe_int (pa_cons pe_int (pa_cons pe_int pa_nil))))) pa_nil))) pa_nil)) (pv 2)))) pss_nil)
        (pss_cons (ps_asg (pe_tup (pa_cons (pe_call (ok_law_take T) (hr.mono (by decide)) (by rfl) T.d_law_take.g T.d_law_take.F.kp T.d_law_take.b .nil pass0 (pa_cons (pv 0) (pa_cons pe_int pa_nil))) (pa_cons (pe_call (ok_law_take T) (hr.mono (by decide)) (by rfl) T.d_law_take.g T.d_law_take.F.kp T.d_law_take.b .nil pass0 (pa_cons (pv 0) (pa_cons pe_int pa_nil))) pa_nil))) (pg_tup rfl (pgs_cons (pg_name (i := 4) nd rfl (Or.inr rfl)) (pgs_cons (pg_name (i := 5) nd rfl (Or.inr rfl)) pgs_nil))))
        (pss_one (ps_ret (pe_callTy call_tuple_of (by rfl) T.b_tuple (by decide +kernel) (pa_cons (pe_lc (own := [("k", 6)]) (g := gName 6) rfl nd (pi_range1 (by rfl) T.b_range (pa_cons (pv 2) pa_nil)) (blkOk_by (own := [("k", 6)]) (N := Ns_law_data) (sc := defScope s_law_data) (by decide +kernel)) (fun _ _ _ _ _ => (pg_name (i := 6) nd rfl (Or.inl rfl))) (fun _ _ _ _ _ => pts_nil) (fun _ _ _ _ _ => (pe_op op_mod (pe_callTy call_int1 (by rfl) T.b_int (by decide +kernel) (pa_cons (pe_op op_add (pe_op op_add (pv 4) (pe_op op_mul (pv 6) (pv 5))) (pe_op op_mul (pe_op op_mul (pv 6) (pv 6)) (pv 3))) pa_nil)) pe_int))) pa_nil)))))))), ?_⟩
    refine ⟨_, rfl, p, c, 4, rfl, hL, by decide, fun r H2 _ _ hL2 k2 => ?_⟩
    refine ⟨rfl, _, rfl, ite2 (fun _ => ?g1) (fun _ => ?g2)⟩
    case' g1 => refine ⟨_, rfl, _, rfl, p, c, 0, m, rfl, hL2, hm0, fun z H3 z0 z1 hL3 k3 => ?_⟩
    case' g2 =>
      refine ⟨_, rfl, _, rfl, _, _, rfl, _, _, rfl, rfl, p, c, _, rfl, hL2, (by split <;> omega), fun z H3 z0 zz hL3 k3 => ?_⟩
      have z1 : z ≤ m := by split at zz <;> omega
    all_goals
      refine ⟨_, rfl, p, c, 4, rfl, hL3, by decide, fun kd H4 kd0 kd1 hL4 k4 => ?_⟩
      refine ⟨_, rfl, rfl, _, rfl, ite2 (fun _ => ?_) (fun _ => ?_)⟩
      · refine ⟨_, rfl, by show 4 ≤ sizeLine; decide, fun l hl => ?_⟩
        refine ⟨p, c, l, _, rfl, hL4.new hl, hL4.ne1 hl, hL4.ne2 hl, upd_same, List.cons_ne_nil _ _, (by show 4 < 1073741824; decide), fun v H5 hv hL5 k5 => ?_⟩
        have hx : ∃ x, v = V.int x ∧ 0 ≤ x ∧ x ≤ 255 := by
          simp only [List.mem_cons, List.not_mem_nil, or_false] at hv
          rcases hv with rfl | rfl | rfl | rfl
          all_goals exact ⟨_, rfl, by omega, by omega⟩
        obtain ⟨x, rfl, hx0, hx1⟩ := hx
        have hk : Kp p c H H5 := k2.trans (k3.trans (k4.trans ((kp_same (same_upd hl)).trans k5)))
        refine ⟨by show 1 ≤ sizeLine; decide, fun t ht => ?_⟩
        have s1 := same_upd (o := .tup [.int x]) ht
        have hO : Oc (List.replicate z.toNat x) := fun y hy => by
          rw [(List.mem_replicate.mp hy).2]
          exact ⟨hx0, hx1⟩
        refine ⟨_, rfl, t, z, [.int x], rfl, rfl, SqT.of upd_same, List.cons_ne_nil _ _, z0, by omega, by show 1 ≤ 100; decide, ?_⟩
        by_cases e : z = 1
        · subst e
          exact .inl ⟨rfl, q t [x] _ (fun y hy => by rw [List.mem_singleton.mp hy]; exact ⟨hx0, hx1⟩) (by simpa using z1) upd_same (hL5.same s1) (hk.trans (kp_same s1))⟩
        · refine .inr ⟨e, fun t2 ht2 => ?_⟩
          have s2 := same_upd (o := .tup (List.replicate z.toNat [V.int x]).flatten) ht2
          refine q t2 _ _ hO (by rw [List.length_replicate]; omega) ?_ (hL5.same (s1.trans s2)) (hk.trans (kp_same (s1.trans s2)))
          rw [upd_same, List.flatten_replicate_singleton, List.map_replicate]
      · refine ⟨_, rfl, p, c, 256, rfl, hL4, by decide, fun f1 H5 _ _ hL5 k5 => ⟨_, rfl, p, c, 256, rfl, hL5, by decide, fun f2 H6 _ _ hL6 k6 => ?_⟩⟩
        refine ⟨by show 2 ≤ sizeLine; decide, fun tt htt => ⟨tt, _, rfl, SqT.of upd_same, rfl, _, _, rfl, _, _, rfl, rfl, ?_⟩⟩
        have hk : Kp p c H (upd H6 tt (.tup [.int f1, .int f2])) := k2.trans (k3.trans (k4.trans (k5.trans (k6.trans (kp_same (same_upd htt))))))
        have hL6 := hL6.same (same_upd (o := .tup [.int f1, .int f2]) htt)
        generalize upd H6 tt (.tup [.int f1, .int f2]) = H6 at hk hL6 ⊢
        refine ⟨_, rfl, z, rfl, by omega, by omega, fun D hD => ?_⟩
        refine lc_range (lo := 0) (n := z.toNat) (fun i H1 => Same H6 H1 ∧ ∃ ns : List Int, Oc ns ∧ ns.length = i ∧ H1 D = some (.lst (ns.map V.int))) ⟨same_upd hD, [], (fun y hy => nomatch hy), rfl, upd_same⟩ ?_ ?_
        · rintro i H7 hi ⟨s7, ns, hO, hl, g7⟩
          refine ⟨rfl, _, rfl, _, rfl, _, rfl, _, _, rfl, rfl, .inl ⟨by omega, by omega⟩, _, _, rfl, rfl, _, rfl, _, rfl, _, _, rfl, rfl, .inl ⟨by omega, by omega⟩, _, rfl, _, _, rfl, rfl, .inr ⟨by omega, by omega⟩, _, _, rfl, rfl, .inl ⟨_, rfl, _, _, rfl, rfl, (by show (0 : Int) < 256; decide), _, g7, ?_, ?_⟩⟩
          · rw [List.length_map]
            exact Nat.lt_of_le_of_lt (m := 1500) (by omega) (by decide)
          · refine ⟨fun b o e => by rw [upd_ne (ne_of_none e hD)]; exact s7 _ _ e, ns ++ [_], ?_, ?_, by rw [upd_same, List.map_append]; rfl⟩
            · intro y hy
              rcases List.mem_append.mp hy with hy | hy
              · exact hO y hy
              · rw [List.mem_singleton.mp hy]
                have r := emod_rng (0 + (f1 + (0 + (i : Int)) * f2 + (0 + (i : Int)) * (0 + (i : Int)) * kd)) (m := 256) (by decide)
                rw [Int.zero_add] at r
                exact ⟨r.1, by omega⟩
            · rw [List.length_append, hl]
              rfl
        · rintro H7 ⟨s7, ns, hO, hl, g7⟩
          refine ⟨D, _, rfl, .inl ⟨SqL.of g7, fun t ht => ?_⟩⟩
          have s8 := same_upd (o := .tup (ns.map V.int)) ht
          exact q t ns _ hO (by omega) upd_same (hL6.same (s7.trans s8)) (hk.trans (kp_same (s7.trans s8)))
theorem ok_law_worked (T : Tx K mg) : FnOk P w K mg base CX0 3 T.ad_law_worked T.fd_law_worked [] spWorked := by
  refine T.d_law_worked.F.ok x_law_worked (fun vs H Q E h => ?_) (fun cdv A outer s H vs Q E hr h => ?_)
  · obtain ⟨rfl, _⟩ := h
    rfl
  · obtain ⟨rfl, q⟩ := h
    have nd := x_law_worked.nd
    have o1 : Oc [1, 2, 3, 4] := by unfold Oc; decide
    have o2 : Oc [0, 0] := by unfold Oc; decide
    have o3 : Oc [] := by unfold Oc; decide
    have o4 : Oc [255, 255, 0, 1] := by unfold Oc; decide
    have o5 : Oc [255] := by unfold Oc; decide
    have o6 : Oc [255, 255, 255, 255] := by unfold Oc; decide
    refine ⟨_, (pss_cons (ps_if (PW.pt (pw_or (pt_not (pt_val (pe_call (ok_same T 0) (hr.mono (by decide)) (by rfl) T.d_law_same.g T.d_law_same.F.kp T.d_law_same.b .nil pass0 (pa_cons (pe_call (ok_folded T) (hr.mono (by decide)) (by rfl) T.d_folded.g T.d_folded.F.kp T.d_folded.b .nil pass0 (pa_cons (pe_lst (pa_cons pe_int (pa_cons pe_int (pa_cons pe_int (pa_cons pe_int pa_nil))))) pa_nil)) (pa_cons pe_int pa_nil))))) (pw_or1 (pt_not (pt_val (pe_call (ok_same T 0) (hr.mono (by decide)) (by rfl) T.d_law_same.g T.d_law_same.F.kp T.d_law_same.b .nil pass0 (pa_cons (pe_call (ok_sum_number T) hr (by rfl) T.d_sum_number.g T.d_sum_number.F.kp T.d_sum_number.b .nil pass0 (pa_cons (pe_lst (pa_cons pe_int (pa_cons pe_int pa_nil))) pa_nil)) (pa_cons pe_int pa_nil)))))))) (pss_one (ps_ret pe_bl)) pss_nil)
        (pss_cons (ps_if (PW.pt (pw_or (pt_not (pt_val (pe_call (ok_same T 0) (hr.mono (by decide)) (by rfl) T.d_law_same.g T.d_law_same.F.kp T.d_law_same.b .nil pass0 (pa_cons (pe_call (ok_folded T) (hr.mono (by decide)) (by rfl) T.d_folded.g T.d_folded.F.kp T.d_folded.b .nil pass0 (pa_cons (pe_lst pa_nil) pa_nil)) (pa_cons pe_int pa_nil))))) (pw_or1 (pt_not (pt_val (pe_call (ok_same T 0) (hr.mono (by decide)) (by rfl) T.d_law_same.g T.d_law_same.F.kp T.d_law_same.b .nil pass0 (pa_cons (pe_call (ok_folded T) (hr.mono (by decide)) (by rfl) T.d_folded.g T.d_folded.F.kp T.d_folded.b .nil pass0 (pa_cons (pe_lst (pa_cons pe_int (pa_cons pe_int (pa_cons pe_int (pa_cons pe_int pa_nil))))) pa_nil)) (pa_cons pe_int pa_nil)))))))) (pss_one (ps_ret pe_bl)) pss_nil)
        (pss_one (ps_ret (pe_and (pe_call (ok_same T 0) (hr.mono (by decide)) (by rfl) T.d_law_same.g T.d_law_same.F.kp T.d_law_same.b .nil pass0 (pa_cons (pe_call (ok_folded T) (hr.mono (by decide)) (by rfl) T.d_folded.g T.d_folded.F.kp T.d_folded.b .nil pass0 (pa_cons (pe_lst (pa_cons pe_int pa_nil)) pa_nil)) (pa_cons pe_int pa_nil))) (pe_one (pe_call (ok_same T 0) (hr.mono (by decide)) (by rfl) T.d_law_same.g T.d_law_same.F.kp T.d_law_same.b .nil pass0 (pa_cons (pe_call (ok_sum_number T) hr (by rfl) T.d_sum_number.g T.d_sum_number.F.kp T.d_sum_number.b .nil pass0 (pa_cons (pe_lst (pa_cons pe_int (pa_cons pe_int (pa_cons pe_int (pa_cons pe_int pa_nil))))) pa_nil)) (pa_cons pe_int pa_nil))))))))), ?_⟩
    refine ⟨by show 4 ≤ sizeLine; decide, fun l1 h1 => ⟨l1, [1, 2, 3, 4], rfl, SqL.of upd_same, o1, fun H1 s1 => ?_⟩⟩
    refine ⟨_, _, rfl, Sm.eq (congrArg V.int (by decide)) rfl, fun H2 s2 => ⟨_, rfl, ?_⟩⟩
    refine ⟨by show 2 ≤ sizeLine; decide, fun l2 h2 => ⟨l2, [0, 0], rfl, SqL.of upd_same, o2, fun H3 s3 => ?_⟩⟩
    refine ⟨_, _, rfl, Sm.eq (congrArg V.int (by decide)) rfl, fun H4 s4 => ⟨_, rfl, ?_⟩⟩
    refine ⟨by show 0 ≤ sizeLine; decide, fun l3 h3 => ⟨l3, [], rfl, SqL.of upd_same, o3, fun H5 s5 => ?_⟩⟩
    refine ⟨_, _, rfl, Sm.eq (congrArg V.int (by decide)) rfl, fun H6 s6 => ⟨_, rfl, ?_⟩⟩
    refine ⟨by show 4 ≤ sizeLine; decide, fun l4 h4 => ⟨l4, [255, 255, 0, 1], rfl, SqL.of upd_same, o4, fun H7 s7 => ?_⟩⟩
    refine ⟨_, _, rfl, Sm.eq (congrArg V.int (by decide)) rfl, fun H8 s8 => ⟨_, rfl, ?_⟩⟩
    refine ⟨by show 1 ≤ sizeLine; decide, fun l5 h5 => ⟨l5, [255], rfl, SqL.of upd_same, o5, fun H9 s9 => ?_⟩⟩
    refine ⟨_, _, rfl, Sm.eq (congrArg V.int (by decide)) rfl, fun H10 s10 => ⟨_, rfl, ?_⟩⟩
    refine ⟨by show 4 ≤ sizeLine; decide, fun l6 h6 => ⟨l6, [255, 255, 255, 255], rfl, SqL.of upd_same, o6, fun H11 s11 => ?_⟩⟩
    refine ⟨_, _, rfl, Sm.eq (congrArg V.int (by decide)) rfl, fun H12 s12 => ?_⟩
    exact q _ ((same_upd h1).trans (s1.trans (s2.trans ((same_upd h2).trans (s3.trans (s4.trans ((same_upd h3).trans (s5.trans (s6.trans ((same_upd h4).trans (s7.trans (s8.trans ((same_upd h5).trans (s9.trans (s10.trans ((same_upd h6).trans (s11.trans s12)))))))))))))))))
end
section
variable {P : Program} {w : World} {K : PySem.W.Frag} {mg : Str → Option Value} {base : Heap}
theorem ok_law (T : Tx K mg) : FnOk P w K mg base CX0 4 T.ad_law T.fd_law ["script"] (spLaw K) := by
  refine T.d_law.F.ok x_law (fun vs H Q E h => ?_) (fun cdv A outer s H vs Q E hr h => ?_)
  · obtain ⟨a, ns, rfl, _⟩ := h
    rfl
  · obtain ⟨a0, ns, rfl, hS, hlen, q⟩ := h
    have nd := x_law.nd
    refine ⟨_, (pss_cons (ps_set (i := 1) nd rfl (Or.inl rfl) (pe_call (ok_law_state T) (hr.mono (by decide)) (by rfl) T.d_law_state.g T.d_law_state.F.kp T.d_law_state.b .nil pass0 (pa_cons (pv 0) pa_nil)))
        (pss_cons (ps_if (pt_not (pt_val (pe_call0 (ok_law_worked T) hr (by rfl) T.d_law_worked.g T.d_law_worked.F.kp T.d_law_worked.b .nil pass0))) (pss_one (ps_ret pe_bl)) pss_nil)
        (pss_cons (ps_for PassesOwn.never rfl (pi_range1 (by rfl) T.b_range (pa_cons pe_int pa_nil)) (pg_name (i := 2) nd rfl (Or.inl rfl)) (pss_cons (ps_set (i := 3) nd rfl (Or.inl rfl) (pe_callTy call_list_of (by rfl) T.b_list (by decide +kernel) (pa_cons (pe_call (ok_law_data T) hr (by rfl) T.d_law_data.g T.d_law_data.F.kp T.d_law_data.b .nil pass0 (pa_cons (pv 1) (pa_cons pe_int pa_nil))) pa_nil)))
        (pss_cons (ps_set (i := 4) nd rfl (Or.inl rfl) (pe_call (ok_law_sum T) (hr.mono (by decide)) (by rfl) T.d_law_sum.g T.d_law_sum.F.kp T.d_law_sum.b .nil pass0 (pa_cons (pv 3) pa_nil)))
        (pss_cons (ps_set (i := 5) nd rfl (Or.inl rfl) (pe_callTy call_list_of (by rfl) T.b_list (by decide +kernel) (pa_cons (pv 3) pa_nil)))
        (pss_cons (ps_if (PW.pt (pw_or (pt_not (pt_val (pe_call (ok_same T 0) (hr.mono (by decide)) (by rfl) T.d_law_same.g T.d_law_same.F.kp T.d_law_same.b .nil pass0 (pa_cons (pe_call (ok_sum_number T) (hr.mono (by decide)) (by rfl) T.d_sum_number.g T.d_sum_number.F.kp T.d_sum_number.b .nil pass0 (pa_cons (pv 5) pa_nil)) (pa_cons (pv 4) pa_nil))))) (pw_or (pt_not (pt_val (pe_call (ok_same T 0) (hr.mono (by decide)) (by rfl) T.d_law_same.g T.d_law_same.F.kp T.d_law_same.b .nil pass0 (pa_cons (pe_call (ok_folded T) (hr.mono (by decide)) (by rfl) T.d_folded.g T.d_folded.F.kp T.d_folded.b .nil pass0 (pa_cons (pv 5) pa_nil)) (pa_cons (pe_op op_sub pe_int (pv 4)) pa_nil))))) (pw_or1 (pt_cmpR (op_neD hr.units) (pv 5) (pv 3) (nomark _)))))) (pss_one (ps_ret pe_bl)) pss_nil)
        (pss_cons (ps_set (i := 6) nd rfl (Or.inl rfl) (pe_op op_mul pe_int (pe_call (ok_law_take T) (hr.mono (by decide)) (by rfl) T.d_law_take.g T.d_law_take.F.kp T.d_law_take.b .nil pass0 (pa_cons (pv 1) (pa_cons (pe_op op_add (pe_op op_fdiv (pe_callB call_len_seq (by rfl) T.b_len (by decide +kernel) (pa_cons (pv 3) pa_nil)) pe_int) pe_int) pa_nil)))))
        (pss_cons (ps_set (i := 7) nd rfl (Or.inl rfl) (pe_op op_cat (pe_op op_cat (pe_slice sl_list (pv 3) po_none (po_some (pv 6))) (pe_lst (pa_cons pe_int (pa_cons pe_int pa_nil)))) (pe_slice sl_list (pv 3) (po_some (pv 6)) po_none)))
        (pss_cons (ps_set (i := 8) nd rfl (Or.inl rfl) (pe_op op_cat (pe_op op_cat (pe_slice sl_list (pv 3) po_none (po_some (pv 6))) (pe_call (ok_law_two T) (hr.mono (by decide)) (by rfl) T.d_law_two.g T.d_law_two.F.kp T.d_law_two.b .nil pass0 (pa_cons (pe_call (ok_law_sum T) (hr.mono (by decide)) (by rfl) T.d_law_sum.g T.d_law_sum.F.kp T.d_law_sum.b .nil pass0 (pa_cons (pv 7) pa_nil)) pa_nil))) (pe_slice sl_list (pv 3) (po_some (pv 6)) po_none)))
        (pss_one (ps_if (PW.pt (pw_or (pt_not (pt_val (pe_call (ok_same T 0) (hr.mono (by decide)) (by rfl) T.d_law_same.g T.d_law_same.F.kp T.d_law_same.b .nil pass0 (pa_cons (pe_call (ok_folded T) (hr.mono (by decide)) (by rfl) T.d_folded.g T.d_folded.F.kp T.d_folded.b .nil pass0 (pa_cons (pv 8) pa_nil)) (pa_cons pe_int pa_nil))))) (pw_or1 (pt_not (pt_val (pe_call (ok_same T 0) (hr.mono (by decide)) (by rfl) T.d_law_same.g T.d_law_same.F.kp T.d_law_same.b .nil pass0 (pa_cons (pe_call (ok_sum_number T) (hr.mono (by decide)) (by rfl) T.d_sum_number.g T.d_sum_number.F.kp T.d_sum_number.b .nil pass0 (pa_cons (pv 8) pa_nil)) (pa_cons pe_int pa_nil)))))))) (pss_one (ps_ret pe_bl)) pss_nil))))))))))
        (pss_one (ps_ret pe_bl))))), ?_⟩
    refine ⟨_, rfl, a0, ns, rfl, hS, hlen, fun p c H1 hL1 s1 np nc => ?_⟩
    refine ⟨rfl, fun H2 s2 => ⟨_, rfl, ?_⟩⟩
    have hL2 := hL1.same s2
    refine ⟨5, rfl, by decide, by decide, for_range (n := 5) (fun i σ H' => ∃ v2 v3 v4 v5 v6 v7 v8 : Option V, σ = [some (.ref a0), some (.ref p), v2, v3, v4, v5, v6, v7, v8] ∧ LS H' p c)
      ⟨_, _, _, _, _, _, _, rfl, hL2⟩ ?_ ?_⟩
    · rintro i σ H3 hi ⟨v2, v3, v4, v5, v6, v7, v8, rfl, hL3⟩
      refine ⟨_, rfl, p, c, 1500, rfl, hL3, by decide, by decide, fun t os H4 ho hol gt hL4 k4 => ?_⟩
      refine ⟨t, _, rfl, .inr (SqT.of gt), fun l hl => ?_⟩
      have e5 := same_upd (o := .lst (os.map V.int)) hl
      have gl := upd_same (H := H4) (a := l) (o := .lst (os.map V.int))
      have hL5 := hL4.same e5
      have lp := hL4.ne1 hl
      have lc := hL4.ne2 hl
      generalize upd H4 l (.lst (os.map V.int)) = H5 at gl hL5 ⊢
      refine ⟨_, rfl, l, os, rfl, SqL.of gl, ho, by omega, ?_⟩
      refine ⟨_, rfl, l, _, rfl, .inl (SqL.of gl), fun g hg => ?_⟩
      have e6 := same_upd (o := .lst (os.map V.int)) hg
      have gg := upd_same (H := H5) (a := g) (o := .lst (os.map V.int))
      have hL6 := hL5.same e6
      have gl6 := e6 _ _ gl
      generalize upd H5 g (.lst (os.map V.int)) = H6 at gg hL6 gl6 ⊢
      refine ⟨_, rfl, g, os, rfl, SqL.of gg, ho, fun H7 s7 => ?_⟩
      refine ⟨_, rfl, _, _, rfl, Sm.eq rfl rfl, fun H8 s8 => ⟨_, rfl, ?_⟩⟩
      refine ⟨_, rfl, g, os, rfl, SqL.of (s8 _ _ (s7 _ _ gg)), ho, fun H9 s9 => ?_⟩
      refine ⟨_, rfl, _, _, rfl, rfl, _, _, rfl, Sm.eq (congrArg V.int (by omega)) rfl, fun Ha sa => ⟨_, rfl, ?_⟩⟩
      have s6a := s7.trans (s8.trans (s9.trans sa))
      have gla := s6a _ _ gl6
      have gga := s6a _ _ gg
      have hLa := hL6.same s6a
      have fl : ∀ x ∈ os.map V.int, flt1 x = true := fun x hx => by
        obtain ⟨z, _, rfl⟩ := List.mem_map.mp hx
        rfl
      refine ⟨_, rfl, _, rfl, ne_same (n := 1) (Sm.lst (SqL.of gga) (SqL.of gla) fl (by rw [List.length_map]; omega)) (by decide) ⟨_, rfl, ?_⟩⟩
      refine ⟨_, rfl, _, rfl, l, _, rfl, .inl (SqL.of gla), _, _, rfl, rfl, ⟨by decide, by decide⟩, _, _, rfl, rfl, p, c, _, rfl, hLa, (by rw [List.length_map]; omega), fun r Hb r0 r1 hLb kb => ?_⟩
      refine ⟨_, _, rfl, rfl, .inl ⟨by decide, by decide⟩, ?_⟩
      have glb := kb _ _ gla lp lc
      have hat : ∃ j : Nat, 2 * r = (j : Int) ∧ j ≤ os.length ∧ j % 2 = 0 := by
        refine ⟨(2 * r).toNat, by omega, ?_, by omega⟩
        rw [List.length_map] at r1
        omega
      obtain ⟨j, ej, hj1, hj2⟩ := hat
      have hjm : j ≤ (os.map V.int).length := by rw [List.length_map]; exact hj1
      have ca : cutV (os.map V.int) none (some (2 * r)) = (os.take j).map V.int := by
        rw [ej, cut_lo _ _ hjm, List.map_take]
      have cb : cutV (os.map V.int) (some (2 * r)) none = (os.drop j).map V.int := by
        rw [ej, cut_hi _ _ hjm, List.map_drop]
      have oA : Oc (os.take j) := fun x hx => ho x (List.mem_of_mem_take hx)
      have oB : Oc (os.drop j) := fun x hx => ho x (List.mem_of_mem_drop hx)
      have lA : (os.take j).length = j := by rw [List.length_take]; omega
      have lB : (os.drop j).length ≤ 1500 := by rw [List.length_drop]; omega
      have wAB : W os = W (os.take j) + W (os.drop j) := by
        rw [← W_app _ _ (by rw [lA]; exact hj2), List.take_append_drop]
      have bw := W_bnd os ho
      have lAB : (os.take j).length + (os.drop j).length = os.length := by rw [List.length_take, List.length_drop]; omega
      generalize os.take j = A at ca oA lA lAB wAB
      generalize os.drop j = B at cb oB lB lAB wAB
      have big : ∀ n : Nat, n ≤ 4000 → n ≤ sizeLine := fun n h => Nat.le_trans h (by decide)
      refine ⟨_, rfl, _, rfl, _, rfl, l, _, rfl, SqL.of glb, fun x1 n1 => ?_⟩
      rw [ca]
      have u_x1 := same_upd (o := .lst (A.map V.int)) n1
      have y_x1 := upd_same (H := Hb) (a := x1) (o := .lst (A.map V.int))
      replace glb := u_x1 _ _ glb
      replace hLb := hLb.same u_x1
      generalize upd Hb x1 (.lst (A.map V.int)) = Hc at y_x1 glb hLb ⊢
      clear u_x1
      refine ⟨by show 2 ≤ sizeLine; decide, fun x2 n2 => ?_⟩
      have u_x2 := same_upd (o := .lst [.int 0, .int 0]) n2
      have y_x2 := upd_same (H := Hc) (a := x2) (o := .lst [.int 0, .int 0])
      replace glb := u_x2 _ _ glb
      replace y_x1 := u_x2 _ _ y_x1
      replace hLb := hLb.same u_x2
      generalize upd Hc x2 (.lst [.int 0, .int 0]) = Hd at y_x2 glb y_x1 hLb ⊢
      clear u_x2
      refine ⟨x1, x2, _, _, rfl, rfl, y_x1, y_x2, big _ (by simp only [List.length_map, List.length_cons, List.length_nil]; omega), fun x3 n3 => ?_⟩
      have u_x3 := same_upd (o := .lst (A.map V.int ++ [.int 0, .int 0])) n3
      have y_x3 := upd_same (H := Hd) (a := x3) (o := .lst (A.map V.int ++ [.int 0, .int 0]))
      replace glb := u_x3 _ _ glb
      replace hLb := hLb.same u_x3
      generalize upd Hd x3 (.lst (A.map V.int ++ [.int 0, .int 0])) = He at y_x3 glb hLb ⊢
      clear u_x3
      refine ⟨_, rfl, _, rfl, _, rfl, l, _, rfl, SqL.of glb, fun x4 n4 => ?_⟩
      rw [cb]
      have u_x4 := same_upd (o := .lst (B.map V.int)) n4
      have y_x4 := upd_same (H := He) (a := x4) (o := .lst (B.map V.int))
      replace glb := u_x4 _ _ glb
      replace y_x3 := u_x4 _ _ y_x3
      replace hLb := hLb.same u_x4
      generalize upd He x4 (.lst (B.map V.int)) = Hf at y_x4 glb y_x3 hLb ⊢
      clear u_x4
      refine ⟨x3, x4, _, _, rfl, rfl, y_x3, y_x4, big _ (by simp only [List.length_append, List.length_map, List.length_cons, List.length_nil]; omega), fun x5 n5 => ?_⟩
      have u_x5 := same_upd (o := .lst (A.map V.int ++ [.int 0, .int 0] ++ B.map V.int)) n5
      have y_x5 := upd_same (H := Hf) (a := x5) (o := .lst (A.map V.int ++ [.int 0, .int 0] ++ B.map V.int))
      replace glb := u_x5 _ _ glb
      replace hLb := hLb.same u_x5
      generalize upd Hf x5 (.lst (A.map V.int ++ [.int 0, .int 0] ++ B.map V.int)) = Hg at y_x5 glb hLb ⊢
      clear u_x5
      have e0 : A.map V.int ++ [.int 0, .int 0] ++ B.map V.int = (A ++ [0, 0] ++ B).map V.int := by simp
      rw [e0] at y_x5
      have o0 : Oc (A ++ [0, 0] ++ B) := fun x hx => by
        rcases List.mem_append.mp hx with hx | hx
        · rcases List.mem_append.mp hx with hx | hx
          · exact oA x hx
          · simp only [List.mem_cons, List.not_mem_nil, or_false] at hx
            rcases hx with rfl | rfl <;> omega
        · exact oB x hx
      have w0 : W (A ++ [0, 0] ++ B) = W os := by
        rw [List.append_assoc, W_app _ _ (by rw [lA]; exact hj2), wAB]
        show W A + W (0 :: 0 :: B) = _
        rw [W_two]
        omega
      refine ⟨_, rfl, _, rfl, _, rfl, l, _, rfl, SqL.of glb, fun z1 m1 => ?_⟩
      rw [ca]
      have u_z1 := same_upd (o := .lst (A.map V.int)) m1
      have y_z1 := upd_same (H := Hg) (a := z1) (o := .lst (A.map V.int))
      replace glb := u_z1 _ _ glb
      replace y_x5 := u_z1 _ _ y_x5
      replace hLb := hLb.same u_z1
      generalize upd Hg z1 (.lst (A.map V.int)) = Hh at y_z1 glb y_x5 hLb ⊢
      clear u_z1
      refine ⟨_, rfl, x5, _, rfl, SqL.of y_x5, o0, (by simp only [List.length_append, List.length_cons, List.length_nil]; omega), ?_⟩
      rw [w0]
      have hg0 : 0 ≤ fo (W os) ∧ fo (W os) ≤ 65535 ∧ (W os = 0 ↔ fo (W os) = 0) ∧ (0 < W os → fo (W os) % 65535 = W os % 65535) := by
        unfold fo
        split <;> omega
      generalize hG : 65535 - fo (W os) = G
      refine ⟨_, rfl, fun z2 m2 => ?_⟩
      have u_z2 := same_upd (o := .lst [.int (G / 256), .int (G % 256)]) m2
      have y_z2 := upd_same (H := Hh) (a := z2) (o := .lst [.int (G / 256), .int (G % 256)])
      replace glb := u_z2 _ _ glb
      replace y_z1 := u_z2 _ _ y_z1
      replace hLb := hLb.same u_z2
      generalize upd Hh z2 (.lst [.int (G / 256), .int (G % 256)]) = Hi at y_z2 glb y_z1 hLb ⊢
      clear u_z2
      refine ⟨z1, z2, _, _, rfl, rfl, y_z1, y_z2, big _ (by simp only [List.length_map, List.length_cons, List.length_nil]; omega), fun z3 m3 => ?_⟩
      have u_z3 := same_upd (o := .lst (A.map V.int ++ [.int (G / 256), .int (G % 256)])) m3
      have y_z3 := upd_same (H := Hi) (a := z3) (o := .lst (A.map V.int ++ [.int (G / 256), .int (G % 256)]))
      replace glb := u_z3 _ _ glb
      replace hLb := hLb.same u_z3
      generalize upd Hi z3 (.lst (A.map V.int ++ [.int (G / 256), .int (G % 256)])) = Hj at y_z3 glb hLb ⊢
      clear u_z3
      refine ⟨_, rfl, _, rfl, _, rfl, l, _, rfl, SqL.of glb, fun z4 m4 => ?_⟩
      rw [cb]
      have u_z4 := same_upd (o := .lst (B.map V.int)) m4
      have y_z4 := upd_same (H := Hj) (a := z4) (o := .lst (B.map V.int))
      replace glb := u_z4 _ _ glb
      replace y_z3 := u_z4 _ _ y_z3
      replace hLb := hLb.same u_z4
      generalize upd Hj z4 (.lst (B.map V.int)) = Hk at y_z4 glb y_z3 hLb ⊢
      clear u_z4
      refine ⟨z3, z4, _, _, rfl, rfl, y_z3, y_z4, big _ (by simp only [List.length_append, List.length_map, List.length_cons, List.length_nil]; omega), fun z5 m5 => ?_⟩
      have u_z5 := same_upd (o := .lst (A.map V.int ++ [.int (G / 256), .int (G % 256)] ++ B.map V.int)) m5
      have y_z5 := upd_same (H := Hk) (a := z5) (o := .lst (A.map V.int ++ [.int (G / 256), .int (G % 256)] ++ B.map V.int))
      replace glb := u_z5 _ _ glb
      replace hLb := hLb.same u_z5
      generalize upd Hk z5 (.lst (A.map V.int ++ [.int (G / 256), .int (G % 256)] ++ B.map V.int)) = Hl at y_z5 glb hLb ⊢
      clear u_z5
      have e1 : A.map V.int ++ [.int (G / 256), .int (G % 256)] ++ B.map V.int = (A ++ [G / 256, G % 256] ++ B).map V.int := by simp
      rw [e1] at y_z5
      have o1 : Oc (A ++ [G / 256, G % 256] ++ B) := fun x hx => by
        rcases List.mem_append.mp hx with hx | hx
        · rcases List.mem_append.mp hx with hx | hx
          · exact oA x hx
          · simp only [List.mem_cons, List.not_mem_nil, or_false] at hx
            rcases hx with rfl | rfl <;> omega
        · exact oB x hx
      have w1 : fo (W (A ++ [G / 256, G % 256] ++ B)) = 65535 := by
        rw [List.append_assoc, W_app _ _ (by rw [lA]; exact hj2)]
        show fo (W A + W (G / 256 :: G % 256 :: B)) = _
        rw [W_two]
        have : W A + (256 * (G / 256) + G % 256 + W B) = W os + G := by omega
        rw [this]
        unfold fo
        split <;> omega
      refine ⟨_, rfl, z5, _, rfl, SqL.of y_z5, o1, fun Hm sm => ?_⟩
      refine ⟨_, _, rfl, Sm.eq (congrArg V.int w1) rfl, fun Hn sn => ⟨_, rfl, ?_⟩⟩
      refine ⟨_, rfl, z5, _, rfl, SqL.of (sn _ _ (sm _ _ y_z5)), o1, fun Ho so => ?_⟩
      refine ⟨_, _, rfl, Sm.eq (congrArg V.int (by rw [w1]; rfl)) rfl, fun Hq sq => ⟨_, rfl, ?_⟩⟩
      exact ⟨_, _, _, _, _, _, _, rfl, hLb.same (sm.trans (sn.trans (so.trans sq)))⟩
    · rintro σ H3 ⟨v2, v3, v4, v5, v6, v7, v8, rfl, hL3⟩
      exact q _
end
theorem all_mk {l : PySem.W.OpenLaw} {w : World} {K : PySem.W.Frag} {h : Heap} {mg : Str → Option Value} {fa f0 f1 f2 f3 f4 f5 f6 f7 f8 f9 f10 f11 : Addr} (X : K.In h) (G : h.Ns mainGlobals mg) (hfa : mg "law" = some (.ref fa))
    {od0 an0 od1 an1 od2 an2 od3 an3 od4 an4 od5 an5 od6 an6 od7 an7 od8 an8 od9 an9 od10 an10 od11 an11 : Option Addr} {sl0 sl1 sl2 sl3 sl4 sl5 sl6 sl7 sl8 sl9 sl10 sl11 : Array (Option Value)} {oc0 kV0 dc0 pm0 cd0 ct0 oc1 kV1 dc1 pm1 cd1 ct1 oc2 kV2 dc2 pm2 cd2 ct2 oc3 kV3 dc3 pm3 cd3 ct3 oc4 kV4 dc4 pm4 cd4 ct4 oc5 kV5 dc5 pm5 cd5 ct5 oc6 kV6 dc6 pm6 cd6 ct6 oc7 kV7 dc7 pm7 cd7 ct7 oc8 kV8 dc8 pm8 cd8 ct8 oc9 kV9 dc9 pm9 cd9 ct9 oc10 kV10 dc10 pm10 cd10 ct10 oc11 kV11 dc11 pm11 cd11 ct11 : Value} 
    (a0 : PySem.W.nsIn K mainGlobals "folded" = some (some (.ref f0))) (l0 : K.lookup f0 = some ⟨oc0, od0, .func (PySem.W.fnOf "folded" "folded" (defArgs s_folded) (defBody s_folded) (defScope s_folded) .none kV0 dc0 pm0 an0 cd0 ct0), sl0⟩) (c0 : PySem.W.codeIn K cd0 "folded" = true) (k0 : PySem.W.keepIn K (.ref f0) = true)
    (a1 : PySem.W.nsIn K mainGlobals "sum_number" = some (some (.ref f1))) (l1 : K.lookup f1 = some ⟨oc1, od1, .func (PySem.W.fnOf "sum_number" "sum_number" (defArgs s_sum_number) (defBody s_sum_number) (defScope s_sum_number) .none kV1 dc1 pm1 an1 cd1 ct1), sl1⟩) (c1 : PySem.W.codeIn K cd1 "sum_number" = true) (k1 : PySem.W.keepIn K (.ref f1) = true)
    (a2 : PySem.W.nsIn K mainGlobals "_law_state" = some (some (.ref f2))) (l2 : K.lookup f2 = some ⟨oc2, od2, .func (PySem.W.fnOf "_law_state" "_law_state" (defArgs s_law_state) (defBody s_law_state) (defScope s_law_state) .none kV2 dc2 pm2 an2 cd2 ct2), sl2⟩) (c2 : PySem.W.codeIn K cd2 "_law_state" = true) (k2 : PySem.W.keepIn K (.ref f2) = true)
    (a3 : PySem.W.nsIn K mainGlobals "_law_take" = some (some (.ref f3))) (l3 : K.lookup f3 = some ⟨oc3, od3, .func (PySem.W.fnOf "_law_take" "_law_take" (defArgs s_law_take) (defBody s_law_take) (defScope s_law_take) .none kV3 dc3 pm3 an3 cd3 ct3), sl3⟩) (c3 : PySem.W.codeIn K cd3 "_law_take" = true) (k3 : PySem.W.keepIn K (.ref f3) = true)
    (a4 : PySem.W.nsIn K mainGlobals "_law_pick" = some (some (.ref f4))) (l4 : K.lookup f4 = some ⟨oc4, od4, .func (PySem.W.fnOf "_law_pick" "_law_pick" (defArgs s_law_pick) (defBody s_law_pick) (defScope s_law_pick) .none kV4 dc4 pm4 an4 cd4 ct4), sl4⟩) (c4 : PySem.W.codeIn K cd4 "_law_pick" = true) (k4 : PySem.W.keepIn K (.ref f4) = true)
    (a5 : PySem.W.nsIn K mainGlobals "_law_same" = some (some (.ref f5))) (l5 : K.lookup f5 = some ⟨oc5, od5, .func (PySem.W.fnOf "_law_same" "_law_same" (defArgs s_law_same) (defBody s_law_same) (defScope s_law_same) .none kV5 dc5 pm5 an5 cd5 ct5), sl5⟩) (c5 : PySem.W.codeIn K cd5 "_law_same" = true) (k5 : PySem.W.keepIn K (.ref f5) = true)
    (a6 : PySem.W.nsIn K mainGlobals "_law_two" = some (some (.ref f6))) (l6 : K.lookup f6 = some ⟨oc6, od6, .func (PySem.W.fnOf "_law_two" "_law_two" (defArgs s_law_two) (defBody s_law_two) (defScope s_law_two) .none kV6 dc6 pm6 an6 cd6 ct6), sl6⟩) (c6 : PySem.W.codeIn K cd6 "_law_two" = true) (k6 : PySem.W.keepIn K (.ref f6) = true)
    (a7 : PySem.W.nsIn K mainGlobals "_law_sum" = some (some (.ref f7))) (l7 : K.lookup f7 = some ⟨oc7, od7, .func (PySem.W.fnOf "_law_sum" "_law_sum" (defArgs s_law_sum) (defBody s_law_sum) (defScope s_law_sum) .none kV7 dc7 pm7 an7 cd7 ct7), sl7⟩) (c7 : PySem.W.codeIn K cd7 "_law_sum" = true) (k7 : PySem.W.keepIn K (.ref f7) = true)
    (a8 : PySem.W.nsIn K mainGlobals "_law_number" = some (some (.ref f8))) (l8 : K.lookup f8 = some ⟨oc8, od8, .func (PySem.W.fnOf "_law_number" "_law_number" (defArgs s_law_number) (defBody s_law_number) (defScope s_law_number) .none kV8 dc8 pm8 an8 cd8 ct8), sl8⟩) (c8 : PySem.W.codeIn K cd8 "_law_number" = true) (k8 : PySem.W.keepIn K (.ref f8) = true)
    (a9 : PySem.W.nsIn K mainGlobals "_law_data" = some (some (.ref f9))) (l9 : K.lookup f9 = some ⟨oc9, od9, .func (PySem.W.fnOf "_law_data" "_law_data" (defArgs s_law_data) (defBody s_law_data) (defScope s_law_data) .none kV9 dc9 pm9 an9 cd9 ct9), sl9⟩) (c9 : PySem.W.codeIn K cd9 "_law_data" = true) (k9 : PySem.W.keepIn K (.ref f9) = true)
    (a10 : PySem.W.nsIn K mainGlobals "_law_worked" = some (some (.ref f10))) (l10 : K.lookup f10 = some ⟨oc10, od10, .func (PySem.W.fnOf "_law_worked" "_law_worked" (defArgs s_law_worked) (defBody s_law_worked) (defScope s_law_worked) .none kV10 dc10 pm10 an10 cd10 ct10), sl10⟩) (c10 : PySem.W.codeIn K cd10 "_law_worked" = true) (k10 : PySem.W.keepIn K (.ref f10) = true)
    (a11 : PySem.W.nsIn K mainGlobals "law" = some (some (.ref f11))) (l11 : K.lookup f11 = some ⟨oc11, od11, .func (PySem.W.fnOf "law" "law" (defArgs s_law) (defBody s_law) (defScope s_law) .none kV11 dc11 pm11 an11 cd11 ct11), sl11⟩) (c11 : PySem.W.codeIn K cd11 "law" = true) (k11 : PySem.W.keepIn K (.ref f11) = true)
    (z_sum : PySem.W.nsIn K mainGlobals "sum" = some none)
    (z_abs : PySem.W.nsIn K mainGlobals "abs" = some none)
    (z_len : PySem.W.nsIn K mainGlobals "len" = some none)
    (z_int : PySem.W.nsIn K mainGlobals "int" = some none)
    (z_isinstance : PySem.W.nsIn K mainGlobals "isinstance" = some none)
    (z_dict : PySem.W.nsIn K mainGlobals "dict" = some none)
    (z_all : PySem.W.nsIn K mainGlobals "all" = some none)
    (z_bool : PySem.W.nsIn K mainGlobals "bool" = some none)
    (z_str : PySem.W.nsIn K mainGlobals "str" = some none)
    (z_tuple : PySem.W.nsIn K mainGlobals "tuple" = some none)
    (z_list : PySem.W.nsIn K mainGlobals "list" = some none)
    (z_range : PySem.W.nsIn K mainGlobals "range" = some none)
    (z_min : PySem.W.nsIn K mainGlobals "min" = some none)
    (z_max : PySem.W.nsIn K mainGlobals "max" = some none)
    : ∃ fd : FuncData, (∀ (s : Shared) (v : Value), BindsTo s fd ⟨[v], []⟩ [("script", v)]) ∧ ∀ base : Heap, K.In base → base.Ns mainGlobals mg → FnOk l.prog w K mg base CX0 4 fa fd ["script"] (spLaw K) := by
  have e := hfa.symm.trans (PySem.W.mg_of X G a11)
  cases e
  have F0 := fun_mk (st := s_folded) l0 c0 k0
  have b0 := F0.binds (ps := ["octets"]) fun _ _ _ _ _ _ us hl => match us, hl with | [_], _ => rfl
  have F1 := fun_mk (st := s_sum_number) l1 c1 k1
  have b1 := F1.binds (ps := ["octets"]) fun _ _ _ _ _ _ us hl => match us, hl with | [_], _ => rfl
  have F2 := fun_mk (st := s_law_state) l2 c2 k2
  have b2 := F2.binds (ps := ["script"]) fun _ _ _ _ _ _ us hl => match us, hl with | [_], _ => rfl
  have F3 := fun_mk (st := s_law_take) l3 c3 k3
  have b3 := F3.binds (ps := ["state", "most"]) fun _ _ _ _ _ _ us hl => match us, hl with | [_, _], _ => rfl
  have F4 := fun_mk (st := s_law_pick) l4 c4 k4
  have b4 := F4.binds (ps := ["state", "row"]) fun _ _ _ _ _ _ us hl => match us, hl with | [_, _], _ => rfl
  have F5 := fun_mk (st := s_law_same) l5 c5 k5
  have b5 := F5.binds (ps := ["told", "due"]) fun _ _ _ _ _ _ us hl => match us, hl with | [_, _], _ => rfl
  have F6 := fun_mk (st := s_law_two) l6 c6 k6
  have b6 := F6.binds (ps := ["number"]) fun _ _ _ _ _ _ us hl => match us, hl with | [_], _ => rfl
  have F7 := fun_mk (st := s_law_sum) l7 c7 k7
  have b7 := F7.binds (ps := ["octets"]) fun _ _ _ _ _ _ us hl => match us, hl with | [_], _ => rfl
  have F8 := fun_mk (st := s_law_number) l8 c8 k8
  have b8 := F8.binds (ps := ["state", "low", "high"]) fun _ _ _ _ _ _ us hl => match us, hl with | [_, _, _], _ => rfl
  have F9 := fun_mk (st := s_law_data) l9 c9 k9
  have b9 := F9.binds (ps := ["state", "most"]) fun _ _ _ _ _ _ us hl => match us, hl with | [_, _], _ => rfl
  have F10 := fun_mk (st := s_law_worked) l10 c10 k10
  have b10 := F10.binds (ps := []) fun _ _ _ _ _ _ us hl => match us, hl with | [], _ => rfl
  have F11 := fun_mk (st := s_law) l11 c11 k11
  have b11 := F11.binds (ps := ["script"]) fun _ _ _ _ _ _ us hl => match us, hl with | [_], _ => rfl
  let T : Tx K mg := { ad_folded := _, fd_folded := _, d_folded := ⟨F0, b0, PySem.W.mg_of X G a0⟩, ad_sum_number := _, fd_sum_number := _, d_sum_number := ⟨F1, b1, PySem.W.mg_of X G a1⟩, ad_law_state := _, fd_law_state := _, d_law_state := ⟨F2, b2, PySem.W.mg_of X G a2⟩, ad_law_take := _, fd_law_take := _, d_law_take := ⟨F3, b3, PySem.W.mg_of X G a3⟩, ad_law_pick := _, fd_law_pick := _, d_law_pick := ⟨F4, b4, PySem.W.mg_of X G a4⟩, ad_law_same := _, fd_law_same := _, d_law_same := ⟨F5, b5, PySem.W.mg_of X G a5⟩, ad_law_two := _, fd_law_two := _, d_law_two := ⟨F6, b6, PySem.W.mg_of X G a6⟩, ad_law_sum := _, fd_law_sum := _, d_law_sum := ⟨F7, b7, PySem.W.mg_of X G a7⟩, ad_law_number := _, fd_law_number := _, d_law_number := ⟨F8, b8, PySem.W.mg_of X G a8⟩, ad_law_data := _, fd_law_data := _, d_law_data := ⟨F9, b9, PySem.W.mg_of X G a9⟩, ad_law_worked := _, fd_law_worked := _, d_law_worked := ⟨F10, b10, PySem.W.mg_of X G a10⟩, ad_law := _, fd_law := _, d_law := ⟨F11, b11, PySem.W.mg_of X G a11⟩, b_sum := PySem.W.mg_none_of X G z_sum, b_abs := PySem.W.mg_none_of X G z_abs, b_len := PySem.W.mg_none_of X G z_len, b_int := PySem.W.mg_none_of X G z_int, b_isinstance := PySem.W.mg_none_of X G z_isinstance, b_dict := PySem.W.mg_none_of X G z_dict, b_all := PySem.W.mg_none_of X G z_all, b_bool := PySem.W.mg_none_of X G z_bool, b_str := PySem.W.mg_none_of X G z_str, b_tuple := PySem.W.mg_none_of X G z_tuple, b_list := PySem.W.mg_none_of X G z_list, b_range := PySem.W.mg_none_of X G z_range, b_min := PySem.W.mg_none_of X G z_min, b_max := PySem.W.mg_none_of X G z_max }
  exact ⟨T.fd_law, fun s v => .of_eq rfl, fun base _ _ => ok_law T⟩
theorem walk {l : PySem.W.OpenLaw} {q : Program} {loose : List Str} {XP : (Str → Option Value) → Heap → Prop} {YP : World → Heap → Prop} {d : DefRec} {K : Params → PySem.W.Frag} (hn : l.most = some 63) (hdf : d.params.defaults = [])
    (hY : ∀ (w : World) (h : Heap), YP w h → (K w.params).In h)
    (F : ∀ (w : World) (mg : Str → Option Value) (fa : Addr) (h : Heap), (K w.params).In h → h.Ns mainGlobals mg → mg d.name = some (.ref fa) →
      ∃ fd : FuncData, (∀ (s : Shared) (u : Value), BindsTo s fd ⟨[u], []⟩ [("script", u)]) ∧ ∀ base : Heap, (K w.params).In base → base.Ns mainGlobals mg → FnOk l.prog w (K w.params) mg base CX0 4 fa fd ["script"] (spLaw (K w.params))) :
    PySem.W.WalkO q loose XP YP l.row.toRowW d [] (fun f vs => PySem.call f vs) :=
  L2.walk_of (n := 63) (k := 4) (x := "script") (CX := fun _ => CX0) (sp := fun w => spLaw (K w.params)) hn (by decide) hdf ⟨rfl, by decide, by decide⟩ hY F (fun _ _ a ns hl _ hS => ⟨a, ns, rfl, hS, hl, fun _ => rfl⟩) fun _ _ _ _ _ z => z
end Toy
open PySem PySem.W PyProof.Rows
set_option maxRecDepth 100000 in
set_option maxHeartbeats 0 in
theorem PySem.Challenge.cw_onepolicy_k05_sums_of_octets_holds : PySem.Challenge.rw_onepolicy_k05_sums_of_octets.Holds := by
  w_on; o_law; k_head; (case hw => w_witness2)
  k_fill
  refine Toy.walk (l := PySem.Challenge.rw_onepolicy_k05_sums_of_octets) rfl rfl (fun w h Y => PySem.W.kIn_of Y) ?F
  case F =>
    intro w mg fa h KX G hmg
    refine' Toy.all_mk KX G hmg ?a0 ?l0 ?c0 ?k0 ?a1 ?l1 ?c1 ?k1 ?a2 ?l2 ?c2 ?k2 ?a3 ?l3 ?c3 ?k3 ?a4 ?l4 ?c4 ?k4 ?a5 ?l5 ?c5 ?k5 ?a6 ?l6 ?c6 ?k6 ?a7 ?l7 ?c7 ?k7 ?a8 ?l8 ?c8 ?k8 ?a9 ?l9 ?c9 ?k9 ?a10 ?l10 ?c10 ?k10 ?a11 ?l11 ?c11 ?k11 ?z_sum ?z_abs ?z_len ?z_int ?z_isinstance ?z_dict ?z_all ?z_bool ?z_str ?z_tuple ?z_list ?z_range ?z_min ?z_max
    (case a0 => k_is)
    (case l0 => k_is)
    (case c0 => k_is)
    (case k0 => k_is)
    (case a1 => k_is)
    (case l1 => k_is)
    (case c1 => k_is)
    (case k1 => k_is)
    (case a2 => k_is)
    (case l2 => k_is)
    (case c2 => k_is)
    (case k2 => k_is)
    (case a3 => k_is)
    (case l3 => k_is)
    (case c3 => k_is)
    (case k3 => k_is)
    (case a4 => k_is)
    (case l4 => k_is)
    (case c4 => k_is)
    (case k4 => k_is)
    (case a5 => k_is)
    (case l5 => k_is)
    (case c5 => k_is)
    (case k5 => k_is)
    (case a6 => k_is)
    (case l6 => k_is)
    (case c6 => k_is)
    (case k6 => k_is)
    (case a7 => k_is)
    (case l7 => k_is)
    (case c7 => k_is)
    (case k7 => k_is)
    (case a8 => k_is)
    (case l8 => k_is)
    (case c8 => k_is)
    (case k8 => k_is)
    (case a9 => k_is)
    (case l9 => k_is)
    (case c9 => k_is)
    (case k9 => k_is)
    (case a10 => k_is)
    (case l10 => k_is)
    (case c10 => k_is)
    (case k10 => k_is)
    (case a11 => k_is)
    (case l11 => k_is)
    (case c11 => k_is)
    (case k11 => k_is)
    (case z_sum => k_is)
    (case z_abs => k_is)
    (case z_len => k_is)
    (case z_int => k_is)
    (case z_isinstance => k_is)
    (case z_dict => k_is)
    (case z_all => k_is)
    (case z_bool => k_is)
    (case z_str => k_is)
    (case z_tuple => k_is)
    (case z_list => k_is)
    (case z_range => k_is)
    (case z_min => k_is)
    (case z_max => k_is)
