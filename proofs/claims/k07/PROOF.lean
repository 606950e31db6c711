import PyProof.Rows.All
import Wide.All
import OpenK.AllK
import Wide.FinOn
import HandS.Base
import HandS.Call
import HandS.List
import HandS.Comp
import HandS.Ends
import HandS.Words
import HandS.WordsList
import HandS.IsInst
import HandS.Iter
import HandS.Text
import HandS.Wide
import PySem.Challenge.RW_onepolicy_k07_addresses_and_prefixes
set_option Elab.async false
set_option linter.all false
set_option maxRecDepth 100000
set_option maxHeartbeats 4000000
namespace Toy
open PySem PySem.Spec PyProof.Rows L2
def topS (i : Nat) : Stmt := PySem.Challenge.pw_onepolicy_k07_addresses_and_prefixes.main.body.getD i (.Pass ⟨0, 0, 0, 0⟩)
abbrev s_two : Stmt := topS 1
abbrev Ns_two : List Str := ["number"]
theorem x_two : FnScope Ns_two ["number"] (defScope s_two) := ⟨rfl, rfl, rfl, by decide +kernel, rfl, by decide +kernel, by decide +kernel⟩
abbrev s_four : Stmt := topS 2
abbrev Ns_four : List Str := ["number"]
theorem x_four : FnScope Ns_four ["number"] (defScope s_four) := ⟨rfl, rfl, rfl, by decide +kernel, rfl, by decide +kernel, by decide +kernel⟩
abbrev s_number_of : Stmt := topS 3
abbrev Ns_number_of : List Str := ["octets", "number", "octet"]
theorem x_number_of : FnScope Ns_number_of ["octets"] (defScope s_number_of) := ⟨rfl, rfl, rfl, by decide +kernel, rfl, by decide +kernel, by decide +kernel⟩
abbrev s_is_plain : Stmt := topS 5
abbrev Ns_is_plain : List Str := ["address", "first"]
theorem x_is_plain : FnScope Ns_is_plain ["address"] (defScope s_is_plain) := ⟨rfl, rfl, rfl, by decide +kernel, rfl, by decide +kernel, by decide +kernel⟩
abbrev s_show_address : Stmt := topS 6
abbrev Ns_show_address : List Str := ["address", "octet"]
theorem x_show_address : FnScope Ns_show_address ["address"] (defScope s_show_address) := ⟨rfl, rfl, rfl, by decide +kernel, rfl, by decide +kernel, by decide +kernel⟩
abbrev s_parse_address : Stmt := topS 7
abbrev Ns_parse_address : List Str := ["text", "octets", "word"]
theorem x_parse_address : FnScope Ns_parse_address ["text"] (defScope s_parse_address) := ⟨rfl, rfl, rfl, by decide +kernel, rfl, by decide +kernel, by decide +kernel⟩
abbrev s_octet_of : Stmt := topS 8
abbrev Ns_octet_of : List Str := ["word", "sign", "octet"]
theorem x_octet_of : FnScope Ns_octet_of ["word"] (defScope s_octet_of) := ⟨rfl, rfl, rfl, by decide +kernel, rfl, by decide +kernel, by decide +kernel⟩
abbrev s_in_prefix : Stmt := topS 9
abbrev Ns_in_prefix : List Str := ["prefix", "address", "start", "length", "low_bits"]
theorem x_in_prefix : FnScope Ns_in_prefix ["prefix", "address"] (defScope s_in_prefix) := ⟨rfl, rfl, rfl, by decide +kernel, rfl, by decide +kernel, by decide +kernel⟩
abbrev s_law_state : Stmt := topS 11
abbrev Ns_law_state : List Str := ["script", "cells", "cell"]
theorem x_law_state : FnScope Ns_law_state ["script"] (defScope s_law_state) := ⟨rfl, rfl, rfl, by decide +kernel, rfl, by decide +kernel, by decide +kernel⟩
abbrev s_law_take : Stmt := topS 12
abbrev Ns_law_take : List Str := ["state", "most", "cells", "at", "cell", "mixed"]
theorem x_law_take : FnScope Ns_law_take ["state", "most"] (defScope s_law_take) := ⟨rfl, rfl, rfl, by decide +kernel, rfl, by decide +kernel, by decide +kernel⟩
abbrev s_law_pick : Stmt := topS 13
abbrev Ns_law_pick : List Str := ["state", "row"]
theorem x_law_pick : FnScope Ns_law_pick ["state", "row"] (defScope s_law_pick) := ⟨rfl, rfl, rfl, by decide +kernel, rfl, by decide +kernel, by decide +kernel⟩
abbrev s_law_same : Stmt := topS 14
abbrev Ns_law_same : List Str := ["told", "due", "key", "k"]
theorem x_law_same : FnScope Ns_law_same ["told", "due"] (defScope s_law_same) := ⟨rfl, rfl, rfl, by decide +kernel, rfl, by decide +kernel, by decide +kernel⟩
abbrev s_law_number : Stmt := topS 15
abbrev Ns_law_number : List Str := ["state", "low", "high", "kind", "span"]
theorem x_law_number : FnScope Ns_law_number ["state", "low", "high"] (defScope s_law_number) := ⟨rfl, rfl, rfl, by decide +kernel, rfl, by decide +kernel, by decide +kernel⟩
abbrev s_law_text : Stmt := topS 16
abbrev Ns_law_text : List Str := ["address", "words"]
theorem x_law_text : FnScope Ns_law_text ["address"] (defScope s_law_text) := ⟨rfl, rfl, rfl, by decide +kernel, rfl, by decide +kernel, by decide +kernel⟩
abbrev s_law_read : Stmt := topS 17
abbrev Ns_law_read : List Str := ["text", "words", "sign", "address", "word", "number"]
theorem x_law_read : FnScope Ns_law_read ["text"] (defScope s_law_read) := ⟨rfl, rfl, rfl, by decide +kernel, rfl, by decide +kernel, by decide +kernel⟩
abbrev s_law_bad : Stmt := topS 18
abbrev Ns_law_bad : List Str := ["state", "text", "at", "sign", "kind"]
theorem x_law_bad : FnScope Ns_law_bad ["state", "text"] (defScope s_law_bad) := ⟨rfl, rfl, rfl, by decide +kernel, rfl, by decide +kernel, by decide +kernel⟩
abbrev s_law : Stmt := topS 19
abbrev Ns_law : List Str := ["script", "state", "turn", "address", "first", "text", "bad", "length", "size", "k", "base", "other"]
theorem x_law : FnScope Ns_law ["script"] (defScope s_law) := ⟨rfl, rfl, rfl, by decide +kernel, rfl, by decide +kernel, by decide +kernel⟩
/-- what the top has written -/
structure Df (K : PySem.W.Frag) (mg : Str → Option Value) (x : Str) (st : Stmt) (ps : List Str) (a : Addr) (fd : FuncData) : Prop where
  F : Fun K x x st a fd
  b : Binds K fd ps []
  g : mg x = some (.ref a)
structure Tx (K : PySem.W.Frag) (mg : Str → Option Value) where
  ad_two : Addr
  fd_two : FuncData
  d_two : Df K mg "two" s_two ["number"] ad_two fd_two
  ad_four : Addr
  fd_four : FuncData
  d_four : Df K mg "four" s_four ["number"] ad_four fd_four
  ad_number_of : Addr
  fd_number_of : FuncData
  d_number_of : Df K mg "number_of" s_number_of ["octets"] ad_number_of fd_number_of
  ad_is_plain : Addr
  fd_is_plain : FuncData
  d_is_plain : Df K mg "is_plain" s_is_plain ["address"] ad_is_plain fd_is_plain
  ad_show_address : Addr
  fd_show_address : FuncData
  d_show_address : Df K mg "show_address" s_show_address ["address"] ad_show_address fd_show_address
  ad_parse_address : Addr
  fd_parse_address : FuncData
  d_parse_address : Df K mg "parse_address" s_parse_address ["text"] ad_parse_address fd_parse_address
  ad_octet_of : Addr
  fd_octet_of : FuncData
  d_octet_of : Df K mg "_octet_of" s_octet_of ["word"] ad_octet_of fd_octet_of
  ad_in_prefix : Addr
  fd_in_prefix : FuncData
  d_in_prefix : Df K mg "in_prefix" s_in_prefix ["prefix", "address"] ad_in_prefix fd_in_prefix
  ad_law_state : Addr
  fd_law_state : FuncData
  d_law_state : Df K mg "_law_state" s_law_state ["script"] ad_law_state fd_law_state
  ad_law_take : Addr
  fd_law_take : FuncData
  d_law_take : Df K mg "_law_take" s_law_take ["state", "most"] ad_law_take fd_law_take
  ad_law_pick : Addr
  fd_law_pick : FuncData
  d_law_pick : Df K mg "_law_pick" s_law_pick ["state", "row"] ad_law_pick fd_law_pick
  ad_law_same : Addr
  fd_law_same : FuncData
  d_law_same : Df K mg "_law_same" s_law_same ["told", "due"] ad_law_same fd_law_same
  ad_law_number : Addr
  fd_law_number : FuncData
  d_law_number : Df K mg "_law_number" s_law_number ["state", "low", "high"] ad_law_number fd_law_number
  ad_law_text : Addr
  fd_law_text : FuncData
  d_law_text : Df K mg "_law_text" s_law_text ["address"] ad_law_text fd_law_text
  ad_law_read : Addr
  fd_law_read : FuncData
  d_law_read : Df K mg "_law_read" s_law_read ["text"] ad_law_read fd_law_read
  ad_law_bad : Addr
  fd_law_bad : FuncData
  d_law_bad : Df K mg "_law_bad" s_law_bad ["state", "text"] ad_law_bad fd_law_bad
  ad_law : Addr
  fd_law : FuncData
  d_law : Df K mg "law" s_law ["script"] ad_law fd_law
  b_str : mg "str" = none
  b_len : mg "len" = none
  b_int : mg "int" = none
  b_max : mg "max" = none
  b_abs : mg "abs" = none
  b_isinstance : mg "isinstance" = none
  b_dict : mg "dict" = none
  b_all : mg "all" = none
  b_bool : mg "bool" = none
  b_tuple : mg "tuple" = none
  b_list : mg "list" = none
  b_range : mg "range" = none
  b_min : mg "min" = none
abbrev rLenS (K : PySem.W.Frag) : List V → Hp → VK → Prop := fun xs H Q => ∃ p ys, xs = [.ref p] ∧ (SqL K H p ys ∨ SqT K H p ys) ∧ Q (.int ys.length) H
/-- the state of the law's own draws stands at p, its numbers at c -/
def LS (H : Hp) (p c : Addr) : Prop := ∃ (k : Int) (ns : List Int), H p = some (.lst [.int k, .ref c]) ∧ H c = some (.lst (ns.map V.int)) ∧ ns ≠ []
/-- all else stays as it stands -/
def Kp (p c : Addr) (H H' : Hp) : Prop := ∀ b o, H b = some o → b ≠ p → b ≠ c → H' b = some o
theorem Kp.refl (p c : Addr) (H : Hp) : Kp p c H H := fun _ _ h _ _ => h
theorem Kp.trans {p c : Addr} {H H1 H2 : Hp} (a : Kp p c H H1) (b : Kp p c H1 H2) : Kp p c H H2 := fun q o h h1 h2 => b q o (a q o h h1 h2) h1 h2
theorem LS.ne {H : Hp} {p c : Addr} (h : LS H p c) : p ≠ c := by
  obtain ⟨k, ns, h1, h2, h3⟩ := h
  intro e
  subst e
  rw [h1] at h2
  cases ns with
  | nil => exact h3 rfl
  | cons x r =>
    have z := congrArg (fun o => match o with | some (HO.lst [_, y]) => y | _ => V.non) h2
    cases r with
    | nil => cases h2
    | cons y r =>
      cases r with
      | nil => cases h2
      | cons _ _ => cases h2
theorem same_upd {H : Hp} {p : Addr} {o : HO} (h : H p = none) : Same H (upd H p o) := fun b x e => by
  rw [upd_ne (ne_of_none e h)]
  exact e
theorem kp_same {p c : Addr} {H H' : Hp} (s : Same H H') : Kp p c H H' := fun b o h _ _ => s b o h
theorem LS.same {H H' : Hp} {p c : Addr} (h : LS H p c) (s : Same H H') : LS H' p c := by
  obtain ⟨k, ns, h1, h2, h3⟩ := h
  exact ⟨k, ns, s _ _ h1, s _ _ h2, h3⟩
theorem LS.new {H : Hp} {p c q : Addr} {o : HO} (h : LS H p c) (n : H q = none) : LS (upd H q o) p c := h.same (same_upd n)
theorem LS.ne1 {H : Hp} {p c l : Addr} (h : LS H p c) (n : H l = none) : l ≠ p := by
  obtain ⟨k, ns, g1, g2, g3⟩ := h
  exact (ne_of_none g1 n).symm
theorem LS.ne2 {H : Hp} {p c l : Addr} (h : LS H p c) (n : H l = none) : l ≠ c := by
  obtain ⟨k, ns, g1, g2, g3⟩ := h
  exact (ne_of_none g2 n).symm
def spState (K : PySem.W.Frag) : Sp := fun vs H Q _ => ∃ (a : Addr) (ns : List Int), vs = [.ref a] ∧ SqL K H a (ns.map V.int) ∧ ns.length ≤ 63 ∧
  ∀ (p c : Addr) (H' : Hp), LS H' p c → Same H H' → H p = none → H c = none → Q (.ref p) H'
def spTake : Sp := fun vs H Q _ => ∃ (p c : Addr) (m : Int), vs = [.ref p, .int m] ∧ LS H p c ∧ m < 1073741824 ∧
  ∀ (r : Int) (H' : Hp), 0 ≤ r → (r < m ∨ r < 1) → LS H' p c → Kp p c H H' → Q (.int r) H'
def spPick (K : PySem.W.Frag) : Sp := fun vs H Q _ => ∃ (p c q : Addr) (xs : List V), vs = [.ref p, .ref q] ∧ LS H p c ∧ q ≠ p ∧ q ≠ c ∧ H q = some (.lst xs) ∧ xs ≠ [] ∧ xs.length < 1073741824 ∧
  ∀ (v : V) (H' : Hp), v ∈ xs → LS H' p c → Kp p c H H' → Q v H'
def spNumber : Sp := fun vs H Q _ => ∃ (p c : Addr) (lo hi : Int), vs = [.ref p, .int lo, .int hi] ∧ LS H p c ∧ lo ≤ hi ∧
  ∀ (r : Int) (H' : Hp), lo ≤ r → r ≤ hi → LS H' p c → Kp p c H H' → Q (.int r) H'
section
variable {P : Program} {w : World} {K : PySem.W.Frag} {mg : Str → Option Value} {base : Heap}
theorem emod_rng (x : Int) {m : Int} (h : 0 < m) : 0 ≤ x % m ∧ x % m < m := ⟨Int.emod_nonneg _ (by omega), Int.emod_lt_of_pos _ h⟩
theorem at_mod {α : Type} {xs : List α} (h : xs ≠ []) (k : Int) : ∃ (j : Nat) (v : α), k % (xs.length : Int) = (j : Int) ∧ j < xs.length ∧ xs[j]? = some v := by
  have hl : 0 < xs.length := by
    cases xs with
    | nil => exact absurd rfl h
    | cons _ _ => exact Nat.zero_lt_succ _
  have e := emod_rng k (m := (xs.length : Int)) (by omega)
  refine ⟨(k % (xs.length : Int)).toNat, xs[(k % (xs.length : Int)).toNat]'(by omega), by omega, by omega, List.getElem?_eq_getElem _⟩
theorem ok_law_take (T : Tx K mg) : FnOk P w K mg base CX0 1 T.ad_law_take T.fd_law_take ["state", "most"] spTake := by
  refine T.d_law_take.F.ok x_law_take (fun vs H Q E h => ?_) (fun cdv A outer s H vs Q E hr h => ?_)
  · obtain ⟨p, c, m, rfl, _⟩ := h
    rfl
  · obtain ⟨p, c, m, rfl, hL, hm, q⟩ := h
    have nd := x_law_take.nd
    have npc := hL.ne
    obtain ⟨k, ns, h1, h2, h3⟩ := id hL
    refine ⟨_, (pss_cons (ps_if (pt_cmpR op_lt (pv 1) pe_int (nomark _)) (pss_one (ps_ret pe_int)) pss_nil)
        (pss_cons (ps_set (i := 2) nd rfl (Or.inl rfl) (pe_ix ix_list (pv 0) pe_int (fun _ _ => rfl)))
        (pss_cons (ps_set (i := 3) nd rfl (Or.inl rfl) (pe_op op_mod (pe_callTy call_int1 (by rfl) T.b_int (by decide +kernel) (pa_cons (pe_ix ix_list (pv 0) pe_int (fun _ _ => rfl)) pa_nil)) (pe_callB call_len_seq (by rfl) T.b_len (by decide +kernel) (pa_cons (pv 2) pa_nil))))
        (pss_cons (ps_set (i := 4) nd rfl (Or.inl rfl) (pe_ix ix_list (pv 2) (pv 3) (fun _ _ => rfl)))
        (pss_cons (ps_if (pt_cmpR op_ge (pv 4) pe_int (nomark _)) (pss_cons (ps_asg (pe_op op_fdiv (pv 4) (pv 1)) (pg_sub (pv 2) (pv 3) set_list))
        (pss_one (ps_ret (pe_op op_mod (pe_callTy call_int1 (by rfl) T.b_int (by decide +kernel) (pa_cons (pv 4) pa_nil)) (pv 1))))) pss_nil)
        (pss_cons (ps_asg (pe_op op_add (pe_ix ix_list (pv 0) pe_int (fun _ _ => rfl)) pe_int) (pg_sub (pv 0) pe_int set_list))
        (pss_cons (ps_set (i := 5) nd rfl (Or.inl rfl) (pe_op op_mod (pe_callTy call_int1 (by rfl) T.b_int (by decide +kernel) (pa_cons (pe_op op_add (pe_op op_mul (pv 4) pe_int) (pe_op op_mul (pe_ix ix_list (pv 0) pe_int (fun _ _ => rfl)) pe_int)) pa_nil)) pe_int))
        (pss_cons (ps_set (i := 5) nd rfl (Or.inl rfl) (pe_op op_mod (pe_callTy call_int1 (by rfl) T.b_int (by decide +kernel) (pa_cons (pe_op op_add (pe_op op_mul (pv 5) pe_int) (pe_op op_mul (pe_ix ix_list (pv 0) pe_int (fun _ _ => rfl)) pe_int)) pa_nil)) pe_int))
        (pss_one (ps_ret (pe_op op_mod (pe_callTy call_int1 (by rfl) T.b_int (by decide +kernel) (pa_cons (pe_op op_fdiv (pv 5) pe_int) pa_nil)) (pv 1)))))))))))), ?_⟩
    refine ⟨_, rfl, _, _, rfl, rfl, _, rfl, ite2 (fun e => ?_) (fun e => ?_)⟩
    · exact q 0 H (by decide) (.inr (by decide)) hL (Kp.refl _ _ _)
    have e2 : ¬ m < 2 := of_decide_eq_false (Bool.not_eq_true _ ▸ e)
    have hl0 : (ns.map V.int) ≠ [] := by
      cases ns with
      | nil => exact absurd rfl h3
      | cons _ _ => intro z; cases z
    obtain ⟨j, v, ej, hj, hv⟩ := at_mod hl0 k
    have hjn : j < ns.length := by rw [List.length_map] at hj; exact hj
    obtain ⟨x, hx, rfl⟩ : ∃ x, ns[j]? = some x ∧ v = V.int x := by
      rw [List.getElem?_map] at hv
      cases e : ns[j]? with
      | none => rw [e] at hv; cases hv
      | some x => rw [e] at hv; exact ⟨x, rfl, (Option.some.inj hv).symm⟩
    have hpos : (0 : Int) < ((ns.map V.int).length : Int) := by omega
    refine ⟨_, rfl, _, _, _, _, rfl, rfl, SqL.of h1, atI_nat (j := 1) rfl, ?_⟩
    refine ⟨_, rfl, _, _, _, _, rfl, rfl, SqL.of h1, atI_nat (j := 0) rfl, .inl ⟨_, rfl, ?_⟩⟩
    refine ⟨_, rfl, _, _, rfl, .inl (SqL.of h2), _, _, rfl, rfl, hpos, ?_⟩
    refine ⟨_, rfl, _, rfl, _, _, _, _, rfl, rfl, SqL.of h2, at_of ej hv, ?_⟩
    refine ⟨_, rfl, _, _, rfl, rfl, _, rfl, ite2 (fun eb => ?_) (fun eb => ?_)⟩
    · -- cells[at] = cell // most
      refine ⟨_, rfl, _, rfl, _, _, rfl, rfl, ⟨by omega, by omega⟩, _, rfl, _, rfl, _, _, _, j, rfl, rfl, h2, ?_, ?_⟩
      · rw [ej]
        unfold ixN
        rw [if_pos (by omega), if_pos (by omega)]
        exact congrArg some (by omega)
      · refine ⟨_, rfl, .inl ⟨_, rfl, _, rfl, _, _, rfl, rfl, by omega, ?_⟩⟩
        have r := emod_rng x (m := m) (by omega)
        refine q _ _ r.1 (.inl r.2) ⟨k, ns.set j (x / m), by rw [upd_ne npc]; exact h1, by rw [upd_same, List.map_set], ?_⟩ fun b o e hb hc => by rw [upd_ne hc]; exact e
        intro z
        have zz := congrArg List.length z
        rw [List.length_set] at zz
        have : ns.length = 0 := zz
        omega
    · -- state[0] = state[0] + 1
      refine ⟨_, rfl, _, _, _, _, rfl, rfl, SqL.of h1, atI_nat (j := 0) rfl, _, _, rfl, rfl, _, rfl, _, _, _, 0, rfl, rfl, h1, rfl, ?_⟩
      have g1 : (upd H p (.lst ([V.int k, V.ref c].set 0 (.int (k + 1))))) p = some (.lst [V.int (k + 1), V.ref c]) := upd_same
      have hL' : LS (upd H p (.lst ([V.int k, V.ref c].set 0 (.int (k + 1))))) p c := ⟨k + 1, ns, g1, by rw [upd_ne npc.symm]; exact h2, h3⟩
      have hk : Kp p c H (upd H p (.lst ([V.int k, V.ref c].set 0 (.int (k + 1))))) := fun b o e hb hc => by rw [upd_ne hb]; exact e
      generalize upd H p (.lst ([V.int k, V.ref c].set 0 (.int (k + 1)))) = H1 at g1 hL' hk ⊢
      refine ⟨_, rfl, _, _, rfl, rfl, .inr ⟨by decide, by decide⟩, _, rfl, _, _, _, _, rfl, rfl, SqL.of g1, atI_nat (j := 0) rfl, _, _, rfl, rfl, .inr ⟨by decide, by decide⟩, _, _, rfl, rfl, .inl ⟨_, rfl, _, _, rfl, rfl, (by show (0 : Int) < 2147483647; decide), ?_⟩⟩
      refine ⟨_, rfl, _, _, rfl, rfl, .inr ⟨by decide, by decide⟩, _, rfl, _, _, _, _, rfl, rfl, SqL.of g1, atI_nat (j := 0) rfl, _, _, rfl, rfl, .inr ⟨by decide, by decide⟩, _, _, rfl, rfl, .inl ⟨_, rfl, _, _, rfl, rfl, (by show (0 : Int) < 1000000007; decide), ?_⟩⟩
      refine ⟨_, rfl, _, _, rfl, rfl, ⟨by decide, by decide⟩, .inl ⟨_, rfl, _, rfl, _, _, rfl, rfl, (by show 0 < m; omega), ?_⟩⟩
      have r := emod_rng ((((x * 48271 + (k + 1) * 69621) % 2147483647 * 16807 + (k + 1) * 7919) % 1000000007) / 7) (m := m) (by omega)
      exact q _ _ r.1 (.inl r.2) hL' hk
end

section
variable {P : Program} {w : World} {K : PySem.W.Frag} {mg : Str → Option Value} {base : Heap}
theorem cut63 (xs : List V) (h : xs.length ≤ 63) : cutV xs none (some 63) = xs := by
  unfold cutV
  rw [HT.sIx_none, show HT.sIx xs.length xs.length (some 63) = min 63 xs.length from HT.sIx_nat xs.length xs.length 63]
  rw [List.drop_zero, Nat.min_eq_right h, Nat.sub_zero, List.take_length]
theorem cut_lo (xs : List V) (j : Nat) (h : j ≤ xs.length) : cutV xs none (some (j : Int)) = xs.take j := by
  unfold cutV
  rw [HT.sIx_none, HT.sIx_nat, Nat.min_eq_left h, List.drop_zero, Nat.sub_zero]
theorem cut_any (xs : List V) (j : Nat) : cutV xs none (some (j : Int)) = xs.take j := by
  unfold cutV
  rw [HT.sIx_none, HT.sIx_nat, List.drop_zero, Nat.sub_zero]
  by_cases h : j ≤ xs.length
  · rw [Nat.min_eq_left h]
  · rw [Nat.min_eq_right (by omega), List.take_length, List.take_of_length_le (by omega)]
theorem cut_hi (xs : List V) (j : Nat) (h : j ≤ xs.length) : cutV xs (some (j : Int)) none = xs.drop j := by
  unfold cutV
  rw [HT.sIx_none, HT.sIx_nat, Nat.min_eq_left h]
  exact List.take_of_length_le (by rw [List.length_drop]; omega)
theorem ok_law_state (T : Tx K mg) : FnOk P w K mg base CX0 1 T.ad_law_state T.fd_law_state ["script"] (spState K) := by
  refine T.d_law_state.F.ok x_law_state (fun vs H Q E h => ?_) (fun cdv A outer s H vs Q E hr h => ?_)
  · obtain ⟨a, ns, rfl, _⟩ := h
    rfl
  · obtain ⟨a, ns, rfl, hS, hlen, q⟩ := h
    have nd := x_law_state.nd
    refine ⟨_, (pss_cons (ps_setLc (i := 1) (own := [("cell", 2)]) (g := gName 2) rfl nd rfl rfl (sw_true rfl rfl rfl (by decide +kernel)) (pi_list (pe_slice sl_list (pv 0) po_none (po_some pe_int))) (blkOk_by (own := [("cell", 2)]) (N := Ns_law_state) (sc := defScope s_law_state) (by decide +kernel)) (fun _ _ _ _ _ => (pg_name (i := 2) nd rfl (Or.inl rfl))) (fun _ _ _ _ _ => pts_nil) (fun _ _ _ _ _ => (pe_callB call_abs (by rfl) T.b_abs (by decide +kernel) (pa_cons (pv 2) pa_nil))))
        (pss_cons (ps_if (pt_cmpR op_eq (pe_callB call_len_seq (by rfl) T.b_len (by decide +kernel) (pa_cons (pv 1) pa_nil)) pe_int (nomark _)) (pss_one (ps_set (i := 1) nd rfl (Or.inl rfl) (pe_lst (pa_cons pe_int pa_nil)))) pss_nil)
        (pss_one (ps_ret (pe_lst (pa_cons pe_int (pa_cons (pv 1) pa_nil))))))), ?_⟩
    have hml : (ns.map V.int).length ≤ 63 := by rw [List.length_map]; exact hlen
    refine ⟨_, rfl, 63, rfl, a, _, rfl, hS, fun p np => ?_⟩
    rw [cut63 _ hml]
    have g0 : (upd H p (.lst (ns.map V.int))) p = some (.lst (ns.map V.int)) := upd_same
    have s0 : Same H (upd H p (.lst (ns.map V.int))) := same_upd np
    generalize upd H p (.lst (ns.map V.int)) = H0 at g0 s0 ⊢
    refine ⟨p, rfl, ⟨_, SqL.of g0⟩, fun D hD => lc_list (K := K) (a := p) (xs := ns.map V.int) (fun i H1 => Same H0 H1 ∧ H1 D = some (.lst (((ns.take i).map fun x => if x < 0 then -x else x).map V.int))) ⟨same_upd hD, upd_same⟩ (fun i H1 _ z => SqL.of (z.1 _ _ g0)) ?_ ?_⟩
    · rintro i x H1 hi ⟨s1, g1⟩
      obtain ⟨z, hz, rfl⟩ : ∃ z, ns[i]? = some z ∧ x = V.int z := by
        rw [List.getElem?_map] at hi
        cases e : ns[i]? with
        | none => rw [e] at hi; cases hi
        | some z => rw [e] at hi; exact ⟨z, rfl, (Option.some.inj hi).symm⟩
      have hil := (List.getElem?_eq_some_iff.mp hz).1
      refine ⟨rfl, ?_⟩
      refine ⟨_, rfl, z, rfl, _, g1, ?_, fun b o e => ?_, ?_⟩
      · rw [List.length_map, List.length_map, List.length_take]
        exact small1000 (by omega)
      · rw [upd_ne (ne_of_none e hD)]
        exact s1 _ _ e
      · rw [upd_same, List.take_add_one, hz]
        simp
    · rintro H1 ⟨s1, g1⟩
      rw [List.length_map, List.take_length] at g1
      have np2 : H D = none := s0.free hD
      refine ⟨_, rfl, D, _, rfl, .inl (SqL.of g1), rfl, _, rfl, ite2 (fun e => ?_) (fun e => ?_)⟩
      · refine ⟨by show 1 ≤ sizeLine; decide, fun c hc => ?_⟩
        refine ⟨_, rfl, by show 2 ≤ sizeLine; decide, fun r hr' => ?_⟩
        have s2 : Same H1 (upd H1 c (.lst [.int 0])) := same_upd hc
        have s3 : Same (upd H1 c (.lst [.int 0])) (upd (upd H1 c (.lst [.int 0])) r (.lst [.int 0, .ref c])) := same_upd hr'
        refine q r c _ ⟨0, [0], upd_same, s3 _ _ upd_same, by intro z; cases z⟩ (s0.trans (s1.trans (s2.trans s3))) ?_ ?_
        · exact s0.free (s1.free (s2.free hr'))
        · exact s0.free (s1.free hc)
      · refine ⟨_, rfl, by show 2 ≤ sizeLine; decide, fun r hr' => ?_⟩
        have s3 : Same H1 (upd H1 r (.lst [.int 0, .ref D])) := same_upd hr'
        refine q r D _ ⟨0, _, upd_same, s3 _ _ g1, ?_⟩ (s0.trans (s1.trans s3)) (s0.free (s1.free hr')) np2
        intro z
        refine e (decide_eq_true (congrArg V.int ?_))
        rw [List.length_map, z]
        rfl
theorem ok_law_pick (T : Tx K mg) : FnOk P w K mg base CX0 2 T.ad_law_pick T.fd_law_pick ["state", "row"] (spPick K) := by
  refine T.d_law_pick.F.ok x_law_pick (fun vs H Q E h => ?_) (fun cdv A outer s H vs Q E hr h => ?_)
  · obtain ⟨p, c, t, xs, rfl, _⟩ := h
    rfl
  · obtain ⟨p, c, t, xs, rfl, hL, n1, n2, ht, hx, hlx, q⟩ := h
    have nd := x_law_pick.nd
    refine ⟨_, (pss_one (ps_ret (pe_ix ix_list (pv 1) (pe_call (ok_law_take T) hr (by rfl) T.d_law_take.g T.d_law_take.F.kp T.d_law_take.b .nil pass0 (pa_cons (pv 0) (pa_cons (pe_callB call_len_seq (by rfl) T.b_len (by decide +kernel) (pa_cons (pv 1) pa_nil)) pa_nil))) (fun _ _ => rfl)))), ?_⟩
    refine ⟨_, rfl, _, rfl, _, rfl, t, xs, rfl, .inl (SqL.of ht), p, c, _, rfl, hL, by omega, fun r H' h0 h1 hL' hk => ?_⟩
    have hl : 0 < xs.length := by
      cases xs with
      | nil => exact absurd rfl hx
      | cons _ _ => exact Nat.zero_lt_succ _
    have ht' := hk t _ ht n1 n2
    have hi : r.toNat < xs.length := by omega
    refine ⟨t, xs, r, xs[r.toNat], rfl, rfl, SqL.of ht', at_of (j := r.toNat) (by omega) (List.getElem?_eq_getElem hi), ?_⟩
    exact q _ H' (List.getElem_mem hi) hL' hk
theorem ok_law_number (T : Tx K mg) : FnOk P w K mg base CX0 2 T.ad_law_number T.fd_law_number ["state", "low", "high"] spNumber := by
  refine T.d_law_number.F.ok x_law_number (fun vs H Q E h => ?_) (fun cdv A outer s H vs Q E hr h => ?_)
  · obtain ⟨p, c, lo, hi, rfl, _⟩ := h
    rfl
  · obtain ⟨p, c, lo, hi, rfl, hL, hlh, q⟩ := h
    have nd := x_law_number.nd
    refine ⟨_, (pss_cons (ps_set (i := 3) nd rfl (Or.inl rfl) (pe_call (ok_law_take T) hr (by rfl) T.d_law_take.g T.d_law_take.F.kp T.d_law_take.b .nil pass0 (pa_cons (pv 0) (pa_cons pe_int pa_nil))))
        (pss_cons (ps_if (pt_cmpR op_eq (pv 3) pe_int (nomark _)) (pss_one (ps_ret (pv 1))) pss_nil)
        (pss_cons (ps_if (pt_cmpR op_eq (pv 3) pe_int (nomark _)) (pss_one (ps_ret (pv 2))) pss_nil)
        (pss_cons (ps_if (pt_cmpR op_eq (pv 3) pe_int (nomark _)) (pss_one (ps_ret (pe_callB (call_min2 rfl) (by rfl) T.b_min (by decide +kernel) (pa_cons (pv 2) (pa_cons (pe_op op_add (pe_op op_add (pv 1) pe_int) (pe_call (ok_law_take T) hr (by rfl) T.d_law_take.g T.d_law_take.F.kp T.d_law_take.b .nil pass0 (pa_cons (pv 0) (pa_cons pe_int pa_nil)))) pa_nil))))) pss_nil)
        (pss_cons (ps_if (pt_cmpR op_eq (pv 3) pe_int (nomark _)) (pss_one (ps_ret (pe_callB (call_max2 rfl) (by rfl) T.b_max (by decide +kernel) (pa_cons (pv 1) (pa_cons (pe_op op_sub (pe_op op_sub (pv 2) pe_int) (pe_call (ok_law_take T) hr (by rfl) T.d_law_take.g T.d_law_take.F.kp T.d_law_take.b .nil pass0 (pa_cons (pv 0) (pa_cons pe_int pa_nil)))) pa_nil))))) pss_nil)
        (pss_cons (ps_set (i := 4) nd rfl (Or.inl rfl) (pe_op op_add (pe_op op_sub (pv 2) (pv 1)) pe_int))
        (pss_one (ps_ret (pe_op op_add (pv 1) (pe_op op_mod (pe_callTy call_int1 (by rfl) T.b_int (by decide +kernel) (pa_cons (pe_op op_add (pe_op op_mul (pe_call (ok_law_take T) hr (by rfl) T.d_law_take.g T.d_law_take.F.kp T.d_law_take.b .nil pass0 (pa_cons (pv 0) (pa_cons pe_int pa_nil))) pe_int) (pe_call (ok_law_take T) hr (by rfl) T.d_law_take.g T.d_law_take.F.kp T.d_law_take.b .nil pass0 (pa_cons (pv 0) (pa_cons pe_int pa_nil)))) pa_nil)) (pv 4))))))))))), ?_⟩
    refine ⟨_, rfl, p, c, 6, rfl, hL, by decide, fun r H1 h0 h1 hL1 k1 => ?_⟩
    refine ⟨_, rfl, rfl, _, rfl, ite2 (fun _ => ?_) (fun _ => ?_)⟩
    · exact ⟨_, rfl, q _ _ (Int.le_refl _) hlh hL1 k1⟩
    refine ⟨_, rfl, rfl, _, rfl, ite2 (fun _ => ?_) (fun _ => ?_)⟩
    · exact ⟨_, rfl, q _ _ hlh (Int.le_refl _) hL1 k1⟩
    refine ⟨_, rfl, rfl, _, rfl, ite2 (fun _ => ?_) (fun _ => ?_)⟩
    · refine ⟨_, rfl, _, rfl, _, _, rfl, rfl, _, rfl, p, c, 3, rfl, hL1, by decide, fun r2 H2 h02 h12 hL2 k2 => ?_⟩
      refine ⟨_, _, rfl, rfl, _, _, rfl, ?_⟩
      refine q _ _ ?_ ?_ hL2 (k1.trans k2)
      · split <;> omega
      · split <;> omega
    refine ⟨_, rfl, rfl, _, rfl, ite2 (fun _ => ?_) (fun _ => ?_)⟩
    · refine ⟨_, rfl, _, rfl, _, _, rfl, rfl, _, rfl, p, c, 3, rfl, hL1, by decide, fun r2 H2 h02 h12 hL2 k2 => ?_⟩
      refine ⟨_, _, rfl, rfl, _, _, rfl, ?_⟩
      refine q _ _ ?_ ?_ hL2 (k1.trans k2)
      · split <;> omega
      · split <;> omega
    refine ⟨_, rfl, _, rfl, _, _, rfl, rfl, _, _, rfl, rfl, ?_⟩
    refine ⟨_, rfl, _, rfl, p, c, 65536, rfl, hL1, by decide, fun r2 H2 h02 h12 hL2 k2 => ?_⟩
    refine ⟨_, _, rfl, rfl, .inr ⟨by decide, by decide⟩, _, rfl, p, c, 65536, rfl, hL2, by decide, fun r3 H3 h03 h13 hL3 k3 => ?_⟩
    refine ⟨_, _, rfl, rfl, .inl ⟨_, rfl, _, rfl, _, _, rfl, rfl, (by show 0 < hi - lo + 1; omega), _, _, rfl, rfl, ?_⟩⟩
    have e := emod_rng (r2 * 65536 + r3) (m := hi - lo + 1) (by omega)
    exact q _ _ (by omega) (by omega) hL3 (k1.trans (k2.trans k3))
end

/-- None, truths, numbers, texts -/
def flt1 : V → Bool
  | .non => true | .bl _ => true | .int _ => true | .str z => PyData.strOk z | _ => false
/-- x and y are the same data, at most n deep -/
def Sm (K : PySem.W.Frag) (H : Hp) : Nat → V → V → Prop
  | 0, x, y => x = y ∧ flt1 x = true
  | n + 1, x, y => (x = y ∧ flt1 x = true) ∨ ∃ (a b : Addr) (xs ys : List V), x = .ref a ∧ y = .ref b ∧ ((SqL K H a xs ∧ SqL K H b ys) ∨ (SqT K H a xs ∧ SqT K H b ys)) ∧ xs.length = ys.length ∧ xs.length ≤ 100000 ∧
      ∀ (i : Nat) (u v : V), xs[i]? = some u → ys[i]? = some v → Sm K H n u v
theorem sqT_same {K : PySem.W.Frag} {H H' : Hp} {a : Addr} {xs : List V} (e : Same H H') (h : SqT K H a xs) : SqT K H' a xs := by
  rcases h with (h | ⟨o, h⟩) | h
  · exact .inl (.inl (e _ _ h))
  · exact .inl (.inr ⟨o, e _ _ h⟩)
  · exact .inr h
theorem Sm.same {K : PySem.W.Frag} {H H' : Hp} (e : Same H H') : ∀ {n : Nat} {x y : V}, Sm K H n x y → Sm K H' n x y
  | 0, _, _, h => h
  | n + 1, _, _, .inl h => .inl h
  | n + 1, _, _, .inr ⟨a, b, xs, ys, h1, h2, h3, h4, h5, h6⟩ => .inr ⟨a, b, xs, ys, h1, h2, (match h3 with
      | .inl z => .inl ⟨e.seq z.1, e.seq z.2⟩
      | .inr z => .inr ⟨sqT_same e z.1, sqT_same e z.2⟩), h4, h5, fun i u v hu hv => Sm.same e (h6 i u v hu hv)⟩
theorem Sm.flat {K : PySem.W.Frag} {H : Hp} {n : Nat} {x : V} (h : flt1 x = true) : Sm K H n x x := by
  cases n with
  | zero => exact ⟨rfl, h⟩
  | succ n => exact .inl ⟨rfl, h⟩
theorem tyx_L {K : PySem.W.Frag} {H : Hp} {a : Addr} {xs : List V} (h : SqL K H a xs) : TyX K H (.ref a) (.type "list") := by
  rcases h with (h | ⟨o, h⟩) | ⟨o, its, n, h1, h2, h3⟩
  · exact .base (.lst h)
  · exact .base (.frz h)
  · exact .kList h1 h2
theorem tyx_T {K : PySem.W.Frag} {H : Hp} {a : Addr} {xs : List V} (h : SqT K H a xs) : TyX K H (.ref a) (.type "tuple") := by
  rcases h with (h | ⟨o, h⟩) | ⟨o, its, n, h1, h2, h3⟩
  · exact .base (.tup h)
  · exact .fTuple h
  · exact .kTuple h1 h2
theorem kt {K : PySem.W.Frag} (a b : String) {r : Bool} (h : kitB a b = some r) : PySem.W.kitOne K (.type a) (.type b) = some r := h
theorem k_ib {K : PySem.W.Frag} : PySem.W.kitOne K (.type "int") (.type "bool") = some false := kt _ _ (by decide +kernel)
theorem k_is {K : PySem.W.Frag} : PySem.W.kitOne K (.type "int") (.type "str") = some false := kt _ _ (by decide +kernel)
theorem k_ii {K : PySem.W.Frag} : PySem.W.kitOne K (.type "int") (.type "int") = some true := kt _ _ (by decide +kernel)
theorem k_bb {K : PySem.W.Frag} : PySem.W.kitOne K (.type "bool") (.type "bool") = some true := kt _ _ (by decide +kernel)
theorem k_bs {K : PySem.W.Frag} : PySem.W.kitOne K (.type "bool") (.type "str") = some false := kt _ _ (by decide +kernel)
theorem k_sb {K : PySem.W.Frag} : PySem.W.kitOne K (.type "str") (.type "bool") = some false := kt _ _ (by decide +kernel)
theorem k_ss {K : PySem.W.Frag} : PySem.W.kitOne K (.type "str") (.type "str") = some true := kt _ _ (by decide +kernel)
theorem k_lb {K : PySem.W.Frag} : PySem.W.kitOne K (.type "list") (.type "bool") = some false := kt _ _ (by decide +kernel)
theorem k_ls {K : PySem.W.Frag} : PySem.W.kitOne K (.type "list") (.type "str") = some false := kt _ _ (by decide +kernel)
theorem k_li {K : PySem.W.Frag} : PySem.W.kitOne K (.type "list") (.type "int") = some false := kt _ _ (by decide +kernel)
theorem k_ld {K : PySem.W.Frag} : PySem.W.kitOne K (.type "list") (.type "dict") = some false := kt _ _ (by decide +kernel)
theorem k_lt {K : PySem.W.Frag} : PySem.W.kitOne K (.type "list") (.type "tuple") = some false := kt _ _ (by decide +kernel)
theorem k_ll {K : PySem.W.Frag} : PySem.W.kitOne K (.type "list") (.type "list") = some true := kt _ _ (by decide +kernel)
theorem k_tb {K : PySem.W.Frag} : PySem.W.kitOne K (.type "tuple") (.type "bool") = some false := kt _ _ (by decide +kernel)
theorem k_ts {K : PySem.W.Frag} : PySem.W.kitOne K (.type "tuple") (.type "str") = some false := kt _ _ (by decide +kernel)
theorem k_ti {K : PySem.W.Frag} : PySem.W.kitOne K (.type "tuple") (.type "int") = some false := kt _ _ (by decide +kernel)
theorem k_td {K : PySem.W.Frag} : PySem.W.kitOne K (.type "tuple") (.type "dict") = some false := kt _ _ (by decide +kernel)
theorem k_tt {K : PySem.W.Frag} : PySem.W.kitOne K (.type "tuple") (.type "tuple") = some true := kt _ _ (by decide +kernel)
theorem k_tl {K : PySem.W.Frag} : PySem.W.kitOne K (.type "tuple") (.type "list") = some false := kt _ _ (by decide +kernel)
theorem ka2 {K : PySem.W.Frag} {t c d : Value} {x y : Bool} (h1 : PySem.W.kitOne K t c = some x) (h2 : PySem.W.kitOne K t d = some y) : PySem.W.kitAny K t [c, d] = some (x || y) := by
  unfold PySem.W.kitAny
  rw [h1]
  cases x with
  | true => rfl
  | false =>
    show PySem.W.kitAny K t [d] = _
    unfold PySem.W.kitAny
    rw [h2]
    cases y <;> rfl
def spSame (K : PySem.W.Frag) (n : Nat) : Sp := fun vs H Q _ => ∃ (x y : V), vs = [x, y] ∧ Sm K H n x y ∧ ∀ (H' : Hp), Same H H' → Q (.bl true) H'
theorem Sm.eq {K : PySem.W.Frag} {H : Hp} {n : Nat} {x y : V} (e : x = y) (h : flt1 x = true) : Sm K H n x y := e ▸ Sm.flat h
theorem Sm.lst {K : PySem.W.Frag} {H : Hp} {n : Nat} {a b : Addr} {xs : List V} (ha : SqL K H a xs) (hb : SqL K H b xs) (hf : ∀ x ∈ xs, flt1 x = true) (hl : xs.length ≤ 100000) : Sm K H (n + 1) (.ref a) (.ref b) :=
  .inr ⟨a, b, xs, xs, rfl, rfl, .inl ⟨ha, hb⟩, rfl, hl, fun i u v hu hv => by
    rw [hu] at hv
    cases hv
    exact Sm.flat (hf u (List.mem_of_getElem? hu))⟩
theorem Sm.tup {K : PySem.W.Frag} {H : Hp} {n : Nat} {a b : Addr} {xs : List V} (ha : SqT K H a xs) (hb : SqT K H b xs) (hf : ∀ x ∈ xs, flt1 x = true) (hl : xs.length ≤ 100000) : Sm K H (n + 1) (.ref a) (.ref b) :=
  .inr ⟨a, b, xs, xs, rfl, rfl, .inr ⟨ha, hb⟩, rfl, hl, fun i u v hu hv => by
    rw [hu] at hv
    cases hv
    exact Sm.flat (hf u (List.mem_of_getElem? hu))⟩
theorem ix_sq {K : PySem.W.Frag} {H : Hp} {a : Addr} {xs : List V} {i : Int} {v : V} {Q : VK} (h : SqL K H a xs ∨ SqT K H a xs) (hi : atI xs i = some v) (q : Q v H) : rIx K (.ref a) (.int i) H Q := by
  rcases h with h | h
  · exact .inl ⟨a, xs, i, v, rfl, rfl, h, hi, q⟩
  · exact .inr (.inl ⟨a, xs, i, v, rfl, rfl, h, hi, q⟩)
/-- two lists, or two tuples, of the same data -/
def spSeq (K : PySem.W.Frag) (n : Nat) : Sp := fun vs H Q _ => ∃ (a b : Addr) (xs ys : List V), vs = [.ref a, .ref b] ∧ ((SqL K H a xs ∧ SqL K H b ys) ∨ (SqT K H a xs ∧ SqT K H b ys)) ∧ xs.length = ys.length ∧ xs.length ≤ 100000 ∧
  (∀ (i : Nat) (u v : V), xs[i]? = some u → ys[i]? = some v → Sm K H n u v) ∧ ∀ (H' : Hp), Same H H' → Q (.bl true) H'
section
variable {P : Program} {w : World} {K : PySem.W.Frag} {mg : Str → Option Value} {base : Heap}
theorem ok_same0 (T : Tx K mg) : FnOk P w K mg base CX0 1 T.ad_law_same T.fd_law_same ["told", "due"] (spSame K 0) := by
  refine T.d_law_same.F.ok x_law_same (fun vs H Q E h => ?_) (fun cdv A outer s H vs Q E hr h => ?_)
  · obtain ⟨x, y, rfl, _⟩ := h
    rfl
  · obtain ⟨x, y, rfl, ⟨rfl, hf⟩, q⟩ := h
    have nd := x_law_same.nd
    refine ⟨_, (pss_cons (ps_if (pt_cmpR op_isN (pv 1) pe_non (nomark _)) (pss_one (ps_ret (pe_cmpR op_isN (pv 0) pe_non (nomark _)))) pss_nil)
        (pss_cons (ps_if (pt_val (pe_callB call_isiT (by rfl) T.b_isinstance (by decide +kernel) (pa_cons (pv 1) (pa_cons (pe_tup (pa_cons (pe_bltn (v := .ty "bool") (by rfl) T.b_bool (by decide +kernel) rfl) (pa_cons (pe_bltn (v := .ty "str") (by rfl) T.b_str (by decide +kernel) rfl) pa_nil))) pa_nil)))) (pss_one (ps_ret (pe_and (pe_cmpR op_eq (pe_callB call_isi (by rfl) T.b_isinstance (by decide +kernel) (pa_cons (pv 0) (pa_cons (pe_bltn (v := .ty "bool") (by rfl) T.b_bool (by decide +kernel) rfl) pa_nil))) (pe_callB call_isi (by rfl) T.b_isinstance (by decide +kernel) (pa_cons (pv 1) (pa_cons (pe_bltn (v := .ty "bool") (by rfl) T.b_bool (by decide +kernel) rfl) pa_nil))) (nomark _)) (pe_and (pe_cmpR op_eq (pe_callB call_isi (by rfl) T.b_isinstance (by decide +kernel) (pa_cons (pv 0) (pa_cons (pe_bltn (v := .ty "str") (by rfl) T.b_str (by decide +kernel) rfl) pa_nil))) (pe_callB call_isi (by rfl) T.b_isinstance (by decide +kernel) (pa_cons (pv 1) (pa_cons (pe_bltn (v := .ty "str") (by rfl) T.b_str (by decide +kernel) rfl) pa_nil))) (nomark _)) (pe_one (pe_cmpR op_eq (pv 0) (pv 1) (nomark _))))))) pss_nil)
        (pss_cons (ps_if (pt_val (pe_callB call_isi (by rfl) T.b_isinstance (by decide +kernel) (pa_cons (pv 1) (pa_cons (pe_bltn (v := .ty "int") (by rfl) T.b_int (by decide +kernel) rfl) pa_nil)))) (pss_one (ps_ret (pe_and (pe_callB call_isi (by rfl) T.b_isinstance (by decide +kernel) (pa_cons (pv 0) (pa_cons (pe_bltn (v := .ty "int") (by rfl) T.b_int (by decide +kernel) rfl) pa_nil))) (pe_and (pe_not (pe_callB call_isi (by rfl) T.b_isinstance (by decide +kernel) (pa_cons (pv 0) (pa_cons (pe_bltn (v := .ty "bool") (by rfl) T.b_bool (by decide +kernel) rfl) pa_nil)))) (pe_one (pe_cmpR op_eq (pv 0) (pv 1) (nomark _))))))) pss_nil)
        pss_never))), ?_⟩
    cases x with
    | non => exact ⟨_, rfl, rfl, _, rfl, _, rfl, rfl, q H (Same.refl H)⟩
    | int i =>
      refine ⟨_, rfl, rfl, _, rfl, _, rfl, by show 2 ≤ sizeLine; decide, fun t ht => ?_⟩
      have s1 := same_upd (o := .tup [.ty "bool", .ty "str"]) ht
      refine ⟨_, t, _, _, _, _, rfl, upd_same, .cons (.ty _) (.cons (.ty _) .nil), .base (.int i), ka2 k_ib k_is, _, rfl, ?_⟩
      refine ⟨_, rfl, _, _, _, _, _, rfl, .ty _, .base (.int i), k_ii, _, rfl, ?_⟩
      refine ⟨_, rfl, _, _, _, _, _, rfl, .ty _, .base (.int i), k_ii, _, rfl, ?_⟩
      refine ⟨_, rfl, _, _, _, _, _, rfl, .ty _, .base (.int i), k_ib, _, rfl, _, rfl, ?_⟩
      refine ⟨_, rfl, _, rfl, rfl, ?_⟩
      rw [decide_eq_true rfl]
      exact q _ s1
    | bl i =>
      refine ⟨_, rfl, rfl, _, rfl, _, rfl, by show 2 ≤ sizeLine; decide, fun t ht => ?_⟩
      have s1 := same_upd (o := .tup [.ty "bool", .ty "str"]) ht
      refine ⟨_, t, _, _, _, _, rfl, upd_same, .cons (.ty _) (.cons (.ty _) .nil), .base (.bl i), ka2 k_bb k_bs, _, rfl, ?_⟩
      refine ⟨_, rfl, _, _, _, _, _, rfl, .ty _, .base (.bl i), k_bb, _, rfl, _, _, _, _, _, rfl, .ty _, .base (.bl i), k_bb, rfl, _, rfl, ite2 (fun _ => ?_) (fun e => absurd (decide_eq_true rfl) e)⟩
      refine ⟨_, rfl, _, _, _, _, _, rfl, .ty _, .base (.bl i), k_bs, _, rfl, _, _, _, _, _, rfl, .ty _, .base (.bl i), k_bs, rfl, _, rfl, ite2 (fun _ => ?_) (fun e => absurd (decide_eq_true rfl) e)⟩
      refine ⟨_, rfl, _, rfl, rfl, ?_⟩
      rw [decide_eq_true rfl]
      exact q _ s1
    | str i =>
      refine ⟨_, rfl, rfl, _, rfl, _, rfl, by show 2 ≤ sizeLine; decide, fun t ht => ?_⟩
      have s1 := same_upd (o := .tup [.ty "bool", .ty "str"]) ht
      refine ⟨_, t, _, _, _, _, rfl, upd_same, .cons (.ty _) (.cons (.ty _) .nil), .base (.str i), ka2 k_sb k_ss, _, rfl, ?_⟩
      refine ⟨_, rfl, _, _, _, _, _, rfl, .ty _, .base (.str i), k_sb, _, rfl, _, _, _, _, _, rfl, .ty _, .base (.str i), k_sb, rfl, _, rfl, ite2 (fun _ => ?_) (fun e => absurd (decide_eq_true rfl) e)⟩
      refine ⟨_, rfl, _, _, _, _, _, rfl, .ty _, .base (.str i), k_ss, _, rfl, _, _, _, _, _, rfl, .ty _, .base (.str i), k_ss, rfl, _, rfl, ite2 (fun _ => ?_) (fun e => absurd (decide_eq_true rfl) e)⟩
      refine ⟨_, rfl, _, rfl, rfl, ?_⟩
      rw [decide_eq_true rfl]
      exact q _ s1
    | _ => cases hf
theorem ok_same1 (T : Tx K mg) {m : Nat} (G : FnOk P w K mg base CX0 (m + 1) T.ad_law_same T.fd_law_same ["told", "due"] (spSame K m)) :
    FnOk P w K mg base CX0 (m + 2) T.ad_law_same T.fd_law_same ["told", "due"] (spSeq K m) := by
  refine T.d_law_same.F.ok x_law_same (fun vs H Q E h => ?_) (fun cdv A outer s H vs Q E hr h => ?_)
  · obtain ⟨x, y, xs, ys, rfl, _⟩ := h
    rfl
  · obtain ⟨a, b, xs, ys, rfl, hS, hl, hle, hi, q⟩ := h
    have nd := x_law_same.nd
    have hrS := hr
    refine ⟨_, (pss_cons (ps_if (pt_cmpR op_isN (pv 1) pe_non (nomark _)) (pss_one (ps_ret (pe_cmpR op_isN (pv 0) pe_non (nomark _)))) pss_nil)
        (pss_cons (ps_if (pt_val (pe_callB call_isiT (by rfl) T.b_isinstance (by decide +kernel) (pa_cons (pv 1) (pa_cons (pe_tup (pa_cons (pe_bltn (v := .ty "bool") (by rfl) T.b_bool (by decide +kernel) rfl) (pa_cons (pe_bltn (v := .ty "str") (by rfl) T.b_str (by decide +kernel) rfl) pa_nil))) pa_nil)))) (pss_one (ps_ret (pe_and (pe_cmpR op_eq (pe_callB call_isi (by rfl) T.b_isinstance (by decide +kernel) (pa_cons (pv 0) (pa_cons (pe_bltn (v := .ty "bool") (by rfl) T.b_bool (by decide +kernel) rfl) pa_nil))) (pe_callB call_isi (by rfl) T.b_isinstance (by decide +kernel) (pa_cons (pv 1) (pa_cons (pe_bltn (v := .ty "bool") (by rfl) T.b_bool (by decide +kernel) rfl) pa_nil))) (nomark _)) (pe_and (pe_cmpR op_eq (pe_callB call_isi (by rfl) T.b_isinstance (by decide +kernel) (pa_cons (pv 0) (pa_cons (pe_bltn (v := .ty "str") (by rfl) T.b_str (by decide +kernel) rfl) pa_nil))) (pe_callB call_isi (by rfl) T.b_isinstance (by decide +kernel) (pa_cons (pv 1) (pa_cons (pe_bltn (v := .ty "str") (by rfl) T.b_str (by decide +kernel) rfl) pa_nil))) (nomark _)) (pe_one (pe_cmpR op_eq (pv 0) (pv 1) (nomark _))))))) pss_nil)
        (pss_cons (ps_if (pt_val (pe_callB call_isi (by rfl) T.b_isinstance (by decide +kernel) (pa_cons (pv 1) (pa_cons (pe_bltn (v := .ty "int") (by rfl) T.b_int (by decide +kernel) rfl) pa_nil)))) (pss_one (ps_ret (pe_and (pe_callB call_isi (by rfl) T.b_isinstance (by decide +kernel) (pa_cons (pv 0) (pa_cons (pe_bltn (v := .ty "int") (by rfl) T.b_int (by decide +kernel) rfl) pa_nil))) (pe_and (pe_not (pe_callB call_isi (by rfl) T.b_isinstance (by decide +kernel) (pa_cons (pv 0) (pa_cons (pe_bltn (v := .ty "bool") (by rfl) T.b_bool (by decide +kernel) rfl) pa_nil)))) (pe_one (pe_cmpR op_eq (pv 0) (pv 1) (nomark _))))))) pss_nil)
        (pss_cons (ps_if (pt_val (pe_callB call_isi (by rfl) T.b_isinstance (by decide +kernel) (pa_cons (pv 1) (pa_cons (pe_bltn (v := .ty "dict") (by rfl) T.b_dict (by decide +kernel) rfl) pa_nil)))) pss_never pss_nil)
        (pss_cons (ps_if (PW.pt (pw_or (pt_cmpR op_ne (pe_callB call_isi (by rfl) T.b_isinstance (by decide +kernel) (pa_cons (pv 0) (pa_cons (pe_bltn (v := .ty "tuple") (by rfl) T.b_tuple (by decide +kernel) rfl) pa_nil))) (pe_callB call_isi (by rfl) T.b_isinstance (by decide +kernel) (pa_cons (pv 1) (pa_cons (pe_bltn (v := .ty "tuple") (by rfl) T.b_tuple (by decide +kernel) rfl) pa_nil))) (nomark _)) (pw_or (pt_not (pt_val (pe_callB call_isiT (by rfl) T.b_isinstance (by decide +kernel) (pa_cons (pv 0) (pa_cons (pe_tup (pa_cons (pe_bltn (v := .ty "tuple") (by rfl) T.b_tuple (by decide +kernel) rfl) (pa_cons (pe_bltn (v := .ty "list") (by rfl) T.b_list (by decide +kernel) rfl) pa_nil))) pa_nil))))) (pw_or1 (pt_cmpR op_ne (pe_callB call_len_seq (by rfl) T.b_len (by decide +kernel) (pa_cons (pv 0) pa_nil)) (pe_callB call_len_seq (by rfl) T.b_len (by decide +kernel) (pa_cons (pv 1) pa_nil)) (nomark _)))))) (pss_one (ps_ret pe_bl)) pss_nil)
        (pss_one (ps_ret (pe_callB (cr_all rfl) (by rfl) T.b_all (by decide +kernel) (pa_cons (pe_lc (own := [("k", 3)]) (g := gName 3) rfl nd (pi_range1 (by rfl) T.b_range (pa_cons (pe_callB call_len_seq (by rfl) T.b_len (by decide +kernel) (pa_cons (pv 1) pa_nil)) pa_nil)) (blkOk_by (own := [("k", 3)]) (N := Ns_law_same) (sc := defScope s_law_same) (by decide +kernel)) (fun _ _ _ _ _ => (pg_name (i := 3) nd rfl (Or.inl rfl))) (fun _ _ _ _ _ => pts_nil) (fun _ _ _ _ _ => (pe_call G hrS (by rfl) T.d_law_same.g T.d_law_same.F.kp T.d_law_same.b .nil pass0 (pa_cons (pe_ix (r := rIx K) ix_seq (pv 0) (pv 3) (fun _ _ => rfl)) (pa_cons (pe_ix (r := rIx K) ix_seq (pv 1) (pv 3) (fun _ _ => rfl)) pa_nil))))) pa_nil))))))))), ?_⟩
    have hb : ∃ tn, (∀ H1, Same H H1 → TyX K H1 (.ref b) (.type tn) ∧ TyX K H1 (.ref a) (.type tn)) ∧ kitB tn "bool" = some false ∧ kitB tn "str" = some false ∧ kitB tn "int" = some false ∧ kitB tn "dict" = some false ∧ ∃ ip, kitB tn "tuple" = some ip ∧ ∃ il, kitB tn "list" = some il ∧ (ip || il) = true := by
      rcases hS with ⟨h1, h2⟩ | ⟨h1, h2⟩
      · exact ⟨"list", fun H1 s1 => ⟨tyx_L (s1.seq h2), tyx_L (s1.seq h1)⟩, by decide +kernel, by decide +kernel, by decide +kernel, by decide +kernel, false, by decide +kernel, true, by decide +kernel, rfl⟩
      · exact ⟨"tuple", fun H1 s1 => ⟨tyx_T (sqT_same s1 h2), tyx_T (sqT_same s1 h1)⟩, by decide +kernel, by decide +kernel, by decide +kernel, by decide +kernel, true, by decide +kernel, false, by decide +kernel, rfl⟩
    obtain ⟨tn, hT, e1, e2, e3, e4, ip, e5, il, e6, e7⟩ := hb
    have ea : ∀ H1, Same H H1 → (SqL K H1 a xs ∨ SqT K H1 a xs) := fun H1 s1 => by
      rcases hS with ⟨h1, h2⟩ | ⟨h1, h2⟩
      · exact .inl (s1.seq h1)
      · exact .inr (sqT_same s1 h1)
    have eb : ∀ H1, Same H H1 → (SqL K H1 b ys ∨ SqT K H1 b ys) := fun H1 s1 => by
      rcases hS with ⟨h1, h2⟩ | ⟨h1, h2⟩
      · exact .inl (s1.seq h2)
      · exact .inr (sqT_same s1 h2)
    have ek : PySem.W.kitAny K (.type tn) [.type "tuple", .type "list"] = some true := e7 ▸ ka2 (kt _ _ e5) (kt _ _ e6)
    refine ⟨_, rfl, rfl, _, rfl, _, rfl, by show 2 ≤ sizeLine; decide, fun t ht => ?_⟩
    have s1 := same_upd (o := .tup [.ty "bool", .ty "str"]) ht
    refine ⟨_, t, _, _, _, _, rfl, upd_same, .cons (.ty _) (.cons (.ty _) .nil), (hT _ s1).1, ka2 (kt _ _ e1) (kt _ _ e2), _, rfl, ?_⟩
    refine ⟨_, rfl, _, _, _, _, _, rfl, .ty _, (hT _ s1).1, kt _ _ e3, _, rfl, ?_⟩
    refine ⟨_, rfl, _, _, _, _, _, rfl, .ty _, (hT _ s1).1, kt _ _ e4, _, rfl, ?_⟩
    refine ⟨_, rfl, _, _, _, _, _, rfl, .ty _, (hT _ s1).2, kt _ _ e5, _, rfl, _, _, _, _, _, rfl, .ty _, (hT _ s1).1, kt _ _ e5, rfl, _, rfl, iteNS rfl ?_⟩
    refine ⟨_, rfl, by show 2 ≤ sizeLine; decide, fun t2 ht2 => ?_⟩
    have s2 := s1.trans (same_upd (o := .tup [.ty "tuple", .ty "list"]) ht2)
    refine ⟨_, t2, _, _, _, _, rfl, upd_same, .cons (.ty _) (.cons (.ty _) .nil), (hT _ s2).2, ek, _, rfl, ?_⟩
    refine ⟨_, rfl, a, xs, rfl, ea _ s2, _, rfl, b, ys, rfl, eb _ s2, rfl, _, rfl, iteNS (congrArg V.int (congrArg Nat.cast hl)) ?_⟩
    generalize upd (upd H t (.tup [.ty "bool", .ty "str"])) t2 (.tup [.ty "tuple", .ty "list"]) = H2 at s2 ⊢
    refine ⟨_, rfl, b, ys, rfl, eb _ s2, _, rfl, by omega, by omega, fun D hD => ?_⟩
    refine lc_range (lo := 0) (n := (ys.length : Int).toNat) (fun i H1 => Same H2 H1 ∧ H1 D = some (.lst ((List.replicate i true).map V.bl))) ⟨same_upd hD, upd_same⟩ ?_ ?_
    · rintro i H1 hin ⟨s3, g3⟩
      have h23 := s2.trans s3
      have hix : i < xs.length := by omega
      have hiy : i < ys.length := by omega
      refine ⟨rfl, _, rfl, _, rfl, ix_sq (ea _ h23) (at_of (j := i) (by omega) (List.getElem?_eq_getElem hix)) ?_⟩
      refine ⟨_, rfl, _, rfl, ix_sq (eb _ h23) (at_of (j := i) (by omega) (List.getElem?_eq_getElem hiy)) ?_⟩
      refine ⟨_, _, rfl, (hi i _ _ (List.getElem?_eq_getElem hix) (List.getElem?_eq_getElem hiy)).same h23, fun H4 s4 => ⟨_, s4 _ _ g3, ?_, fun c o e => ?_, ?_⟩⟩
      · rw [List.length_map, List.length_replicate]
        exact Nat.lt_of_le_of_lt (m := 100000) (by omega) (by decide)
      · rw [upd_ne (ne_of_none e hD)]
        exact s4 _ _ (s3 _ _ e)
      · rw [upd_same, List.replicate_succ', List.map_append]
        rfl
    · rintro H1 ⟨s3, g3⟩
      refine ⟨D, _, rfl, SqL.of g3, ?_⟩
      have ht : (List.replicate (ys.length : Int).toNat true).all id = true := by
        rw [List.all_eq_true]
        intro z hz
        exact (List.mem_replicate.mp hz).2
      rw [ht]
      exact q H1 (s2.trans s3)
theorem ok_same (T : Tx K mg) : ∀ n : Nat, FnOk P w K mg base CX0 (n + 1) T.ad_law_same T.fd_law_same ["told", "due"] (spSame K n)
  | 0 => ok_same0 T
  | n + 1 => by
    have F0 : FnOk P w K mg base CX0 (n + 2) T.ad_law_same T.fd_law_same ["told", "due"] (spSame K 0) := (ok_same0 T).mono (by omega)
    have F1 := ok_same1 (P := P) (w := w) (base := base) T (ok_same T n)
    refine ⟨fun vs H Q E h => ?_, fun A outer s H args us vs Q E hr he hb hv hs => ?_⟩
    · obtain ⟨x, y, rfl, _⟩ := h
      rfl
    · obtain ⟨x, y, rfl, h | ⟨a, b, xs, ys, rfl, rfl, h⟩, q⟩ := hs
      · exact F0.run A outer s H args us _ Q E hr he hb hv ⟨x, y, rfl, h, q⟩
      · obtain ⟨h1, h2, h3, h4⟩ := h
        exact F1.run A outer s H args us _ Q E hr he hb hv ⟨a, b, xs, ys, rfl, h1, h2, h3, h4, q⟩
end

open TL in
section
/-- digits alone -/
def dg (l : List Nat) : Bool := l.all fun c => decide (48 ≤ c) && decide (c ≤ 57)
theorem dg_all {l : List Nat} : dg l = true ↔ NumText.AllDigits l := by
  unfold dg NumText.AllDigits
  simp [List.all_eq_true]
/-- the signs of a number from 0 to 255, as it is written -/
def gw (l : List Nat) : Bool := !l.isEmpty && dg l && decide (NumText.digitsVal l ≤ 255) && decide (numL (NumText.digitsVal l) = l)
def wv (x : Str) : V := if gw (tl x) = true then .int (NumText.digitsVal (tl x) : Nat) else .non
theorem gw_parts {l : List Nat} : gw l = true ↔ (l ≠ [] ∧ NumText.AllDigits l ∧ NumText.digitsVal l ≤ 255 ∧ numL (NumText.digitsVal l) = l) := by
  unfold gw
  rw [Bool.and_eq_true, Bool.and_eq_true, Bool.and_eq_true, dg_all, decide_eq_true_eq, decide_eq_true_eq]
  constructor
  · rintro ⟨⟨⟨h1, h2⟩, h3⟩, h4⟩
    refine ⟨fun e => ?_, h2, h3, h4⟩
    rw [e] at h1
    cases h1
  · rintro ⟨h1, h2, h3, h4⟩
    refine ⟨⟨⟨?_, h2⟩, h3⟩, h4⟩
    cases l with
    | nil => exact absurd rfl h1
    | cons _ _ => rfl
theorem wv_bad {x : Str} (h : ¬ gw (tl x) = true) : wv x = .non := if_neg h
theorem wv_good {x : Str} (h : gw (tl x) = true) : wv x = .int (NumText.digitsVal (tl x) : Nat) := if_pos h
theorem gw_len {l : List Nat} (h : gw l = true) : l.length ≤ 3 := by
  obtain ⟨_, _, h3, h4⟩ := gw_parts.mp h
  rw [← h4]
  exact numL_len (by decide) (by omega)
theorem gw_num {n : Nat} (h : n ≤ 255) : gw (numL n) = true := gw_parts.mpr ⟨numL_ne n, numL_digits n, by rw [numL_val]; exact h, by rw [numL_val]⟩
theorem tl_str (n : Nat) : tl (toString ((n : Nat) : Int) : Str) = numL n := tl_num n
theorem wv_str {n : Nat} (h : n ≤ 255) : wv (toString ((n : Nat) : Int) : Str) = .int (n : Nat) := by
  rw [wv_good (by rw [tl_str]; exact gw_num h), tl_str, numL_val]
theorem str_eq (n : Nat) (x : Str) : (toString ((n : Nat) : Int) : Str) = x ↔ numL n = tl x := by
  constructor
  · intro e
    rw [← tl_str, e]
  · intro e
    exact ext_tl (by rw [tl_str, e])
theorem dv_lt : ∀ (l : List Nat) (a : Nat), NumText.AllDigits l → l.foldl (fun acc c => acc * 10 + (c - 48)) a < (a + 1) * 10 ^ l.length
  | [], a, _ => by
    show a < (a + 1) * 1
    omega
  | c :: r, a, h => by
    have hc := h c List.mem_cons_self
    have ih := dv_lt r (a * 10 + (c - 48)) fun z hz => h z (List.mem_cons_of_mem _ hz)
    refine Nat.lt_of_lt_of_le ih ?_
    rw [List.length_cons, Nat.pow_succ, Nat.mul_comm (10 ^ r.length) 10, ← Nat.mul_assoc]
    exact Nat.mul_le_mul_right _ (by omega)
theorem dv3 {l : List Nat} (h : NumText.AllDigits l) (hl : l.length ≤ 3) : NumText.digitsVal l < 1000 := by
  have a := dv_lt l 0 h
  have b : 10 ^ l.length ≤ 10 ^ 3 := Nat.pow_le_pow_right (by decide) hl
  have c : (0 + 1) * 10 ^ l.length < 10 ^ 3 + 1 := by omega
  unfold NumText.digitsVal
  omega
theorem log_small {n : Nat} (h : n ≤ 100000000000) : ((n : Nat) : Int).natAbs.log2 < 1920 := by
  rw [Int.natAbs_natCast]
  by_cases e : n = 0
  · subst e
    decide
  · exact (Nat.log2_lt e).mpr (Nat.lt_of_le_of_lt h (Nat.lt_of_lt_of_le (by decide : 100000000000 < 2 ^ 40) (Nat.pow_le_pow_right (by decide) (by decide))))
/-- what a row of words tells -/
def pf (ws : List Str) : V := if ws.length = 4 ∧ (ws.all fun x => gw (tl x)) = true then .int (ws.foldl (fun (t : Int) x => t * 256 + (NumText.digitsVal (tl x) : Nat)) 0) else .non
theorem pf_flat (ws : List Str) : flt1 (pf ws) = true := by
  unfold pf
  split <;> rfl
end
theorem for_str {x : Str} {g : TG} {tb : TS} {D : Ends} {σ : L2.St} {H : Hp} (Pv : Nat → L2.St → Hp → Prop) (h0 : Pv 0 σ H)
    (hs : ∀ (i c : Nat) (σ : L2.St) (H : Hp), (TL.tl x)[i]? = some c → Pv i σ H → g (.str ⟨#[c]⟩) σ H fun σ2 H2 => tb { D with nx := Pv (i + 1), ct := Pv (i + 1), bk := D.nx } σ2 H2) (hd : ∀ (σ : L2.St) (H : Hp), Pv (TL.tl x).length σ H → D.nx σ H) :
    ∃ W : Nat → Nat → L2.St → Hp → Prop, (∃ m, W 0 m σ H) ∧ ∀ i m σ H, W i m σ H → ((Its x).stop i H ∧ D.nx σ H) ∨ ((Its x).go i H ∧
      ∃ N : L2.St → Hp → Prop, (∀ σ' H', N σ' H' → ∃ m', m' < m ∧ W (i + 1) m' σ' H') ∧ ∀ v H', (Its x).yld i H v H' → g v σ H' fun σ2 H2 => tb { D with nx := N, ct := N, bk := D.nx } σ2 H2) := by
  have sz : (TL.tl x).length = x.cps.size := by simp [TL.tl]
  refine ⟨fun i m σ H => m = x.cps.size - i ∧ i ≤ x.cps.size ∧ Pv i σ H, ⟨_, rfl, Nat.zero_le _, h0⟩, ?_⟩
  rintro i m σ H ⟨rfl, hi, p⟩
  by_cases lt : i < x.cps.size
  · refine .inr ⟨lt, Pv (i + 1), fun σ' H' p' => ⟨_, ?_, rfl, lt, p'⟩, ?_⟩
    · omega
    · rintro v H' ⟨e, c, hc, rfl⟩
      subst e
      exact hs i c σ _ (by rw [Array.getElem?_toList]; exact hc) p
  · have e : i = (TL.tl x).length := by omega
    refine .inl ⟨Nat.le_of_not_lt lt, hd σ H ?_⟩
    rw [← e]
    exact p

open TL in
section
/-- words of a text so far -/
structure OkW (ws : List Str) (l : List Nat) : Prop where
  ne : ws ≠ []
  no : ∀ x ∈ ws, 46 ∉ tl x
  jn : joinL [46] (ws.map tl) = l
theorem joinL_snoc : ∀ (L : List (List Nat)) (z : List Nat), L ≠ [] → joinL [46] (L ++ [z]) = joinL [46] L ++ 46 :: z
  | [], _, h => absurd rfl h
  | [p], z, _ => by
    show p ++ ([46] ++ z) = p ++ 46 :: z
    rfl
  | p :: q :: r, z, _ => by
    show p ++ ([46] ++ joinL [46] (q :: r ++ [z])) = p ++ ([46] ++ joinL [46] (q :: r)) ++ 46 :: z
    have ih := joinL_snoc (q :: r) z (by simp)
    rw [ih]
    simp
theorem joinL_last : ∀ (L : List (List Nat)) (z : List Nat) (c : Nat), joinL [46] (L ++ [z ++ [c]]) = joinL [46] (L ++ [z]) ++ [c]
  | [], z, c => rfl
  | [p], z, c => by
    show p ++ ([46] ++ (z ++ [c])) = p ++ ([46] ++ z) ++ [c]
    simp
  | p :: q :: r, z, c => by
    show p ++ ([46] ++ joinL [46] (q :: r ++ [z ++ [c]])) = p ++ ([46] ++ joinL [46] (q :: r ++ [z])) ++ [c]
    have ih := joinL_last (q :: r) z c
    rw [ih]
    simp
theorem OkW.dot {ws : List Str} {l : List Nat} (h : OkW ws l) : OkW (ws ++ [Str.ofString ""]) (l ++ [46]) := by
  refine ⟨by simp, fun x hx => ?_, ?_⟩
  · rcases List.mem_append.mp hx with hx | hx
    · exact h.no x hx
    · rw [List.mem_singleton.mp hx]
      decide
  · rw [List.map_append]
    have e : ws.map tl ≠ [] := fun z => h.ne (List.map_eq_nil_iff.mp z)
    have := joinL_snoc (ws.map tl) [] e
    rw [h.jn] at this
    exact this
theorem OkW.sign {ws : List Str} {y : Str} {l : List Nat} {c : Nat} (h : OkW (ws ++ [y]) l) (hc : c ≠ 46) : OkW (ws ++ [y ++ ⟨#[c]⟩]) (l ++ [c]) := by
  refine ⟨by simp, fun x hx => ?_, ?_⟩
  · rcases List.mem_append.mp hx with hx | hx
    · exact h.no x (List.mem_append_left _ hx)
    · rw [List.mem_singleton.mp hx, tl_append]
      intro hm
      rcases List.mem_append.mp hm with hm | hm
      · exact h.no y (by simp) hm
      · exact hc (List.mem_singleton.mp hm).symm
  · have j := h.jn
    rw [List.map_append] at j ⊢
    have e := joinL_last (ws.map tl) (tl y) c
    rw [show ([y] : List Str).map tl = [tl y] from rfl] at j
    rw [j] at e
    rw [← e]
    show joinL [46] (ws.map tl ++ [tl (y ++ ⟨#[c]⟩)]) = _
    rw [tl_append]
theorem OkW.split {ws : List Str} {x : Str} (h : OkW ws (tl x)) : Txt.split x (Str.ofString ".") = ws := by
  have e46 : tl (Str.ofString ".") = [46] := by decide
  have e : Txt.join (Str.ofString ".") ws = x := by
    refine ext_tl ?_
    rw [join_eq, tl_join, e46]
    exact h.jn
  have s := split_join (y := Str.ofString ".") (s := 46) (S := []) e46 (by decide +kernel) h.ne h.no
  rw [e] at s
  exact s
theorem OkW.start : OkW [Str.ofString ""] [] := ⟨by simp, fun x hx => by rw [List.mem_singleton.mp hx]; decide, rfl⟩
theorem OkW.all : ∀ l : List Nat, ∃ ws, OkW ws l := by
  intro l
  generalize hn : l.length = n
  induction n generalizing l with
  | zero =>
    have : l = [] := List.eq_nil_of_length_eq_zero hn
    subst this
    exact ⟨_, .start⟩
  | succ n ih =>
    have hne : l ≠ [] := fun z => by rw [z] at hn; cases hn
    obtain ⟨ws, h⟩ := ih l.dropLast (by rw [List.length_dropLast]; omega)
    have el : l = l.dropLast ++ [l.getLast hne] := (List.dropLast_concat_getLast hne).symm
    rw [el]
    generalize l.getLast hne = c
    by_cases hc : c = 46
    · subst hc
      exact ⟨_, h.dot⟩
    · obtain ⟨vs, y, rfl⟩ : ∃ vs y, ws = vs ++ [y] := ⟨ws.dropLast, ws.getLast h.ne, (List.dropLast_concat_getLast h.ne).symm⟩
      exact ⟨_, h.sign hc⟩
theorem joinL_len : ∀ (L : List (List Nat)) (p : List Nat), p ∈ L → p.length ≤ (joinL [46] L).length
  | [], _, h => nomatch h
  | [q], p, h => by
    rw [List.mem_singleton.mp h]
    exact Nat.le_refl _
  | q :: r :: t, p, h => by
    show p.length ≤ (q ++ ([46] ++ joinL [46] (r :: t))).length
    rw [List.length_append, List.length_append]
    rcases List.mem_cons.mp h with rfl | h
    · omega
    · have := joinL_len (r :: t) p h
      omega
theorem joinL_many : ∀ (L : List (List Nat)), L.length ≤ (joinL [46] L).length + 1
  | [] => by decide
  | [q] => by
    show 1 ≤ q.length + 1
    omega
  | q :: r :: t => by
    have := joinL_many (r :: t)
    show (r :: t).length + 1 ≤ (q ++ ([46] ++ joinL [46] (r :: t))).length + 1
    rw [List.length_append, List.length_append]
    simp only [List.length_cons, List.length_nil] at this ⊢
    omega
theorem OkW.len {ws : List Str} {l : List Nat} (h : OkW ws l) {x : Str} (hx : x ∈ ws) : x.length ≤ l.length := by
  rw [len_tl, ← h.jn]
  exact joinL_len _ _ (List.mem_map_of_mem hx)
theorem OkW.many {ws : List Str} {l : List Nat} (h : OkW ws l) : ws.length ≤ l.length + 1 := by
  have := joinL_many (ws.map tl)
  rw [h.jn, List.length_map] at this
  exact this
end

def spOct (K : PySem.W.Frag) : Sp := fun vs H Q _ => ∃ x : Str, vs = [.str x] ∧ x.length ≤ 1000 ∧ Q (wv x) H
section
variable {P : Program} {w : World} {K : PySem.W.Frag} {mg : Str → Option Value} {base : Heap}
open TL in
theorem ok_octet_of (T : Tx K mg) : FnOk P w K mg base CX0 1 T.ad_octet_of T.fd_octet_of ["word"] (spOct K) := by
  refine T.d_octet_of.F.ok x_octet_of (fun vs H Q E h => ?_) (fun cdv A outer s H vs Q E hr h => ?_)
  · obtain ⟨x, rfl, _⟩ := h
    rfl
  · obtain ⟨x, rfl, hx, q⟩ := h
    have nd := x_octet_of.nd
    refine ⟨_, (pss_cons (ps_if (PW.pt (pw_or (pt_cmpR op_lt (pe_callB call_len_str (by rfl) T.b_len (by decide +kernel) (pa_cons (pv 0) pa_nil)) pe_int (nomark _)) (pw_or1 (pt_cmpR op_gt (pe_callB call_len_str (by rfl) T.b_len (by decide +kernel) (pa_cons (pv 0) pa_nil)) pe_int (nomark _))))) (pss_one (ps_ret pe_non)) pss_nil)
        (pss_cons (ps_for PassesOwn.never rfl (pi_str (pv 0)) (pg_name (i := 1) nd rfl (Or.inl rfl)) (pss_one (ps_if (pt_cmpR op_notIn_sign (pv 1) pe_str (by rfl)) (pss_one (ps_ret pe_non)) pss_nil)))
        (pss_cons (ps_set (i := 2) nd rfl (Or.inl rfl) (pe_callTy call_int_str (by rfl) T.b_int (by decide +kernel) (pa_cons (pv 0) pa_nil)))
        (pss_cons (ps_if (PW.pt (pw_or (pt_cmpR op_gt (pv 2) pe_int (nomark _)) (pw_or1 (pt_cmpR op_ne (pe_callTy call_str_int (by rfl) T.b_str (by decide +kernel) (pa_cons (pv 2) pa_nil)) (pv 0) (nomark _))))) (pss_one (ps_ret pe_non)) pss_nil)
        (pss_one (ps_ret (pv 2))))))), ?_⟩
    have big : x.length ≤ sizeLine := Nat.le_trans hx (by decide)
    have sz : x.length = (tl x).length := len_tl x
    refine ⟨_, rfl, x, rfl, big, _, _, rfl, rfl, _, rfl, ite2 (fun e => ?_) (fun e => ?_)⟩
    · have z : ((x.length : Nat) : Int) < 1 := of_decide_eq_true e
      have z2 : tl x = [] := List.eq_nil_of_length_eq_zero (by omega)
      rw [wv_bad (by rw [z2]; decide)] at q
      exact q
    have e1 : ¬ ((x.length : Nat) : Int) < 1 := fun z => e (decide_eq_true z)
    refine ⟨_, rfl, x, rfl, big, _, _, rfl, rfl, _, rfl, ite2 (fun e => ?_) (fun e => ?_)⟩
    · have z : (3 : Int) < ((x.length : Nat) : Int) := of_decide_eq_true e
      rw [wv_bad (fun g => by have := gw_len g; omega)] at q
      exact q
    have e2 : ¬ (3 : Int) < ((x.length : Nat) : Int) := fun z => e (decide_eq_true z)
    refine ⟨_, rfl, x, rfl, for_str (x := x) (fun i σ H' => ∃ v1 v2 : Option V, σ = [some (.str x), v1, v2] ∧ H' = H ∧ dg ((tl x).take i) = true) ⟨_, _, rfl, rfl, rfl⟩ ?_ ?_⟩
    · rintro i c σ H' hc ⟨v1, v2, rfl, rfl, hd⟩
      refine ⟨_, rfl, c, _, rfl, rfl, _, rfl, ?_⟩
      have hm : (c ∈ (Str.ofString "0123456789").cps.toList) ↔ (48 ≤ c ∧ c ≤ 57) := by
        rw [show (Str.ofString "0123456789").cps.toList = [48, 49, 50, 51, 52, 53, 54, 55, 56, 57] by decide]
        simp only [List.mem_cons, List.not_mem_nil, or_false]
        omega
      by_cases hcd : 48 ≤ c ∧ c ≤ 57
      · rw [decide_eq_true (hm.mpr hcd)]
        refine ⟨_, _, rfl, rfl, ?_⟩
        unfold dg at hd ⊢
        rw [List.take_add_one, hc, List.all_append, hd]
        simp [hcd.1, hcd.2]
      · rw [decide_eq_false (fun z => hcd (hm.mp z))]
        rw [wv_bad (fun g => by
          have h2 := (gw_parts.mp g).2.1 c (List.mem_of_getElem? hc)
          exact hcd h2)] at q
        exact q
    · rintro σ H' ⟨v1, v2, rfl, rfl, hd⟩
      rw [List.take_length] at hd
      have ad := dg_all.mp hd
      have ne : tl x ≠ [] := fun z => by rw [z] at sz; simp only [List.length_nil] at sz; omega
      have it := intText_digits (x := x) ad ne (by omega)
      refine ⟨_, rfl, x, _, rfl, it, by omega, ?_⟩
      have vb : NumText.digitsVal (tl x) ≤ 100000000000 := by
        have := dv3 ad (by omega)
        omega
      refine ⟨_, rfl, _, _, rfl, rfl, _, rfl, ite2 (fun e => ?_) (fun e => ?_)⟩
      · have z : (255 : Int) < ((NumText.digitsVal (tl x) : Nat) : Int) := of_decide_eq_true e
        rw [wv_bad (fun g => by have := (gw_parts.mp g).2.2.1; omega)] at q
        exact q
      have e3 : ¬ (255 : Int) < ((NumText.digitsVal (tl x) : Nat) : Int) := fun z => e (decide_eq_true z)
      refine ⟨_, rfl, _, rfl, log_small vb, _, rfl, rfl, _, rfl, ?_⟩
      by_cases hw : numL (NumText.digitsVal (tl x)) = tl x
      · rw [decide_eq_true (congrArg V.str ((str_eq _ x).mpr hw))]
        rw [wv_good (gw_parts.mpr ⟨ne, ad, by omega, hw⟩)] at q
        exact ⟨_, rfl, q⟩
      · rw [decide_eq_false (fun z => hw ((str_eq _ x).mp (V.str.inj z)))]
        rw [wv_bad (fun g => hw (gw_parts.mp g).2.2.2)] at q
        exact q
end
def pl (a : Int) : Bool := if 1 ≤ a / 16777216 then (if a / 16777216 ≤ 223 then !decide (a / 16777216 = 127) else false) else false
def spPlain : Sp := fun vs H Q _ => ∃ a : Int, vs = [.int a] ∧ Q (.bl (pl a)) H
def spNum (K : PySem.W.Frag) : Sp := fun vs H Q _ => ∃ (a : Addr) (ns : List Int), vs = [.ref a] ∧ SqL K H a (ns.map V.int) ∧ Q (.int (ns.foldl (fun t x => t * 256 + x) 0)) H
def spTwo : Sp := fun vs H Q _ => ∃ n : Int, vs = [.int n] ∧ ∀ p, H p = none → Q (.ref p) (upd H p (.lst [.int (n / 256), .int (n % 256)]))
def spFour : Sp := fun vs H Q _ => ∃ n : Int, vs = [.int n] ∧ 0 ≤ n ∧ n ≤ 4294967295 ∧ ∀ (t : Addr) (H' : Hp), Same H H' → H' t = some (.lst [.int (n / 16777216), .int (n / 65536 % 256), .int (n / 256 % 256), .int (n % 256)]) → Q (.ref t) H'
/-- the four numbers of an address, as texts -/
def sA (a : Int) : List Str := [toString (a / 16777216), toString (a / 65536 % 256), toString (a / 256 % 256), toString (a % 256)]
def spShow : Sp := fun vs H Q _ => ∃ a : Int, vs = [.int a] ∧ 0 ≤ a ∧ a ≤ 4294967295 ∧ ∀ H', Same H H' → Q (.str (Txt.join (Str.ofString ".") (sA a))) H'
def spParse : Sp := fun vs H Q _ => ∃ x : Str, vs = [.str x] ∧ x.length ≤ 500 ∧ ∀ H', Same H H' → Q (pf (Txt.split x (Str.ofString "."))) H'
def spIn (K : PySem.W.Frag) : Sp := fun vs H Q _ => ∃ (t : Addr) (b l o : Int), vs = [.ref t, .int o] ∧ SqT K H t [.int b, .int l] ∧ 1 ≤ l ∧ l ≤ 32 ∧ Q (.bl (decide (b / 2 ^ (32 - l).toNat = o / 2 ^ (32 - l).toNat))) H
theorem at_int {l : List Int} {i : Nat} {x : V} (h : (l.map V.int)[i]? = some x) : ∃ z, l[i]? = some z ∧ x = V.int z := by
  rw [List.getElem?_map] at h
  cases e : l[i]? with
  | none => rw [e] at h; cases h
  | some z => rw [e] at h; exact ⟨z, rfl, (Option.some.inj h).symm⟩
theorem log4 {i : Int} (h0 : 0 ≤ i) (h1 : i ≤ 100000000000) : i.natAbs.log2 < 1920 := by
  obtain ⟨n, rfl⟩ := Int.eq_ofNat_of_zero_le h0
  exact log_small (by omega)
open TL in
theorem str_len {i : Int} (h0 : 0 ≤ i) (h1 : i ≤ 255) : (toString i : Str).length ≤ 3 := by
  obtain ⟨n, rfl⟩ := Int.eq_ofNat_of_zero_le h0
  rw [len_tl, tl_str]
  exact numL_len (by decide) (by omega)
theorem fold_take {α : Type} (f : Int → α → Int) (l : List α) (i : Nat) (x : α) (b : Int) (h : l[i]? = some x) : (l.take (i + 1)).foldl f b = f ((l.take i).foldl f b) x := by
  rw [List.take_add_one, h, List.foldl_append]
  rfl
section
variable {P : Program} {w : World} {K : PySem.W.Frag} {mg : Str → Option Value} {base : Heap}
theorem ok_is_plain (T : Tx K mg) : FnOk P w K mg base CX0 1 T.ad_is_plain T.fd_is_plain ["address"] spPlain := by
  refine T.d_is_plain.F.ok x_is_plain (fun vs H Q E h => ?_) (fun cdv A outer s H vs Q E hr h => ?_)
  · obtain ⟨a, rfl, _⟩ := h
    rfl
  · obtain ⟨a, rfl, q⟩ := h
    have nd := x_is_plain.nd
    refine ⟨_, (pss_cons (ps_set (i := 1) nd rfl (Or.inl rfl) (pe_op op_shr (pv 0) pe_int))
        (pss_one (ps_ret (pe_and (pe_chain op_le op_le pe_int (pv 1) pe_int) (pe_one (pe_cmpR op_ne (pv 1) pe_int (nomark _))))))), ?_⟩
    unfold pl at q
    refine ⟨_, rfl, _, _, rfl, rfl, (by show (0 : Int) ≤ 24; decide), ?_⟩
    refine ⟨_, rfl, _, _, rfl, rfl, _, rfl, ite2 (fun e => ?_) (fun e => ?_)⟩
    · have e1 : 1 ≤ a / 16777216 := of_decide_eq_true e
      rw [if_pos e1] at q
      refine ⟨_, _, rfl, rfl, _, rfl, ite2 (fun e2 => ?_) (fun e2 => ?_)⟩
      · have e3 : a / 16777216 ≤ 223 := of_decide_eq_true e2
        rw [if_pos e3] at q
        refine ⟨_, rfl, rfl, ?_⟩
        have e4 : decide (V.int (a / 16777216) = V.int 127) = decide (a / 16777216 = 127) := by
          by_cases z : a / 16777216 = 127
          · rw [decide_eq_true z, decide_eq_true (congrArg V.int z)]
          · rw [decide_eq_false z, decide_eq_false (fun y => z (V.int.inj y))]
        rw [← e4] at q
        exact q
      · have e3 : ¬ a / 16777216 ≤ 223 := fun z => e2 (decide_eq_true z)
        rw [if_neg e3] at q
        exact q
    · have e1 : ¬ 1 ≤ a / 16777216 := fun z => e (decide_eq_true z)
      rw [if_neg e1] at q
      exact ⟨_, rfl, q⟩
theorem ok_number_of (T : Tx K mg) : FnOk P w K mg base CX0 1 T.ad_number_of T.fd_number_of ["octets"] (spNum K) := by
  refine T.d_number_of.F.ok x_number_of (fun vs H Q E h => ?_) (fun cdv A outer s H vs Q E hr h => ?_)
  · obtain ⟨a, ns, rfl, _⟩ := h
    rfl
  · obtain ⟨a, ns, rfl, hS, q⟩ := h
    have nd := x_number_of.nd
    refine ⟨_, (pss_cons (ps_set (i := 1) nd rfl (Or.inl rfl) pe_int)
        (pss_cons (ps_for PassesOwn.never rfl (pi_list (pv 0)) (pg_name (i := 2) nd rfl (Or.inl rfl)) (pss_one (ps_set (i := 1) nd rfl (Or.inl rfl) (pe_op op_add (pe_op op_mul (pv 1) pe_int) (pv 2)))))
        (pss_one (ps_ret (pv 1))))), ?_⟩
    refine ⟨_, rfl, a, rfl, ⟨_, hS⟩, for_list (K := K) (a := a) (xs := ns.map V.int) (fun i σ H' => ∃ v2 : Option V, σ = [some (.ref a), some (.int ((ns.take i).foldl (fun t x => t * 256 + x) 0)), v2] ∧ H' = H)
      ⟨none, rfl, rfl⟩ (fun i σ H' _ ⟨_, _, e⟩ => e ▸ hS) ?_ ?_⟩
    · rintro i x σ H' hx ⟨v2, rfl, rfl⟩
      obtain ⟨z, hz, rfl⟩ := at_int hx
      have ft := fold_take (fun t x => t * 256 + x) ns i z 0 hz
      refine ⟨_, rfl, _, _, rfl, rfl, .inr ⟨by decide, by decide⟩, _, rfl, _, _, rfl, rfl, some (.int z), ?_, rfl⟩
      rw [ft]
      rfl
    · rintro σ H' ⟨v2, rfl, rfl⟩
      rw [List.length_map, List.take_length]
      exact ⟨_, rfl, q⟩
theorem ok_two (T : Tx K mg) : FnOk P w K mg base CX0 1 T.ad_two T.fd_two ["number"] spTwo := by
  refine T.d_two.F.ok x_two (fun vs H Q E h => ?_) (fun cdv A outer s H vs Q E hr h => ?_)
  · obtain ⟨n, rfl, _⟩ := h
    rfl
  · obtain ⟨n, rfl, q⟩ := h
    have nd := x_two.nd
    refine ⟨_, (pss_one (ps_ret (pe_lst (pa_cons (pe_op op_fdiv (pv 0) pe_int) (pa_cons (pe_op op_mod (pv 0) pe_int) pa_nil))))), ?_⟩
    exact ⟨_, rfl, _, _, rfl, rfl, ⟨by decide, by decide⟩, _, rfl, _, _, rfl, rfl, (by show (0 : Int) < 256; decide), by show 2 ≤ sizeLine; decide, fun p hp => q p hp⟩
theorem ok_four (T : Tx K mg) : FnOk P w K mg base CX0 2 T.ad_four T.fd_four ["number"] spFour := by
  refine T.d_four.F.ok x_four (fun vs H Q E h => ?_) (fun cdv A outer s H vs Q E hr h => ?_)
  · obtain ⟨n, rfl, _⟩ := h
    rfl
  · obtain ⟨n, rfl, h0, h1, q⟩ := h
    have nd := x_four.nd
    refine ⟨_, (pss_one (ps_ret (pe_op op_cat (pe_call (ok_two T) hr (by rfl) T.d_two.g T.d_two.F.kp T.d_two.b .nil pass0 (pa_cons (pe_op op_fdiv (pv 0) pe_int) pa_nil)) (pe_call (ok_two T) hr (by rfl) T.d_two.g T.d_two.F.kp T.d_two.b .nil pass0 (pa_cons (pe_op op_mod (pv 0) pe_int) pa_nil))))), ?_⟩
    refine ⟨_, rfl, _, _, rfl, rfl, ⟨by decide, by decide⟩, _, rfl, fun a ha => ?_⟩
    have s1 := same_upd (o := .lst [.int (n / 65536 / 256), .int (n / 65536 % 256)]) ha
    refine ⟨_, rfl, _, _, rfl, rfl, (by show (0 : Int) < 65536; decide), _, rfl, fun b hb => ?_⟩
    have s2 := same_upd (o := .lst [.int (n % 65536 / 256), .int (n % 65536 % 256)]) hb
    refine ⟨a, b, _, _, rfl, rfl, s2 _ _ upd_same, upd_same, (by show 2 + 2 ≤ sizeLine; decide), fun c hc => ?_⟩
    refine q c _ (s1.trans (s2.trans (same_upd hc))) ?_
    rw [upd_same]
    show some (HO.lst [.int (n / 65536 / 256), .int (n / 65536 % 256), .int (n % 65536 / 256), .int (n % 65536 % 256)]) = _
    rw [show n / 65536 / 256 = n / 16777216 by omega, show n % 65536 / 256 = n / 256 % 256 by omega, show n % 65536 % 256 = n % 256 by omega]
theorem ok_show_address (T : Tx K mg) : FnOk P w K mg base CX0 3 T.ad_show_address T.fd_show_address ["address"] spShow := by
  refine T.d_show_address.F.ok x_show_address (fun vs H Q E h => ?_) (fun cdv A outer s H vs Q E hr h => ?_)
  · obtain ⟨a, rfl, _⟩ := h
    rfl
  · obtain ⟨a, rfl, h0, h1, q⟩ := h
    have nd := x_show_address.nd
    refine ⟨_, (pss_one (ps_ret (pe_join pe_str (pe_lc (own := [("octet", 1)]) (g := gName 1) rfl nd (pi_list (pe_call (ok_four T) hr (by rfl) T.d_four.g T.d_four.F.kp T.d_four.b .nil pass0 (pa_cons (pv 0) pa_nil))) (blkOk_by (own := [("octet", 1)]) (N := Ns_show_address) (sc := defScope s_show_address) (by decide +kernel)) (fun _ _ _ _ _ => (pg_name (i := 1) nd rfl (Or.inl rfl))) (fun _ _ _ _ _ => pts_nil) (fun _ _ _ _ _ => (pe_callTy call_str_int (by rfl) T.b_str (by decide +kernel) (pa_cons (pv 1) pa_nil))))))), ?_⟩
    refine ⟨⟨_, rfl⟩, _, rfl, a, rfl, h0, h1, fun t H1 s1 gt => ⟨t, rfl, ⟨_, SqL.of gt⟩, fun D hD => ?_⟩⟩
    have hns : ∀ x ∈ [a / 16777216, a / 65536 % 256, a / 256 % 256, a % 256], 0 ≤ x ∧ x ≤ 255 := by
      intro x hx
      simp only [List.mem_cons, List.not_mem_nil, or_false] at hx
      rcases hx with rfl | rfl | rfl | rfl <;> omega
    refine lc_list (K := K) (a := t) (xs := [a / 16777216, a / 65536 % 256, a / 256 % 256, a % 256].map V.int) (fun i H' => Same H1 H' ∧ H' D = some (.lst ((([a / 16777216, a / 65536 % 256, a / 256 % 256, a % 256].take i).map fun i => (toString i : Str)).map V.str))) ⟨same_upd hD, upd_same⟩ (fun _ _ _ z => SqL.of (z.1 _ _ gt)) ?_ ?_
    · rintro i x H' hx ⟨s', g'⟩
      obtain ⟨z, hz, rfl⟩ := at_int hx
      have hi := (List.getElem?_eq_some_iff.mp hz).1
      have hb := hns z (List.mem_of_getElem? hz)
      refine ⟨rfl, _, rfl, z, rfl, log4 hb.1 (by omega), _, g', ?_, fun b o e => by rw [upd_ne (ne_of_none e hD)]; exact s' _ _ e, ?_⟩
      · rw [List.length_map, List.length_map, List.length_take]
        exact small1000 (by simp only [List.length_cons, List.length_nil]; omega)
      · rw [upd_same, List.take_add_one, hz]
        simp
    · rintro H' ⟨s', g'⟩
      have e : (([a / 16777216, a / 65536 % 256, a / 256 % 256, a % 256].take ([a / 16777216, a / 65536 % 256, a / 256 % 256, a % 256].map V.int).length).map fun i => (toString i : Str)) = sA a := rfl
      rw [e] at g'
      refine ⟨_, D, sA a, rfl, rfl, .inl (SqL.of g'), ?_, q H' (s1.trans s')⟩
      have l1 := str_len (hns (a / 16777216) (by simp)).1 (hns (a / 16777216) (by simp)).2
      have l2 := str_len (hns (a / 65536 % 256) (by simp)).1 (hns (a / 65536 % 256) (by simp)).2
      have l3 := str_len (hns (a / 256 % 256) (by simp)).1 (hns (a / 256 % 256) (by simp)).2
      have l4 := str_len (hns (a % 256) (by simp)).1 (hns (a % 256) (by simp)).2
      have ld : (Str.ofString ".").length = 1 := by decide
      unfold sA
      simp only [List.map_cons, List.map_nil, List.sum_cons, List.sum_nil, List.length_cons, List.length_nil, ld]
      omega
theorem ok_in_prefix (T : Tx K mg) : FnOk P w K mg base CX0 1 T.ad_in_prefix T.fd_in_prefix ["prefix", "address"] (spIn K) := by
  refine T.d_in_prefix.F.ok x_in_prefix (fun vs H Q E h => ?_) (fun cdv A outer s H vs Q E hr h => ?_)
  · obtain ⟨t, b, l, o, rfl, _⟩ := h
    rfl
  · obtain ⟨t, b, l, o, rfl, hT, h0, h1, q⟩ := h
    have nd := x_in_prefix.nd
    refine ⟨_, (pss_cons (ps_asg (pv 0) (pg_tup rfl (pgs_cons (pg_name (i := 2) nd rfl (Or.inl rfl)) (pgs_cons (pg_name (i := 3) nd rfl (Or.inl rfl)) pgs_nil))))
        (pss_cons (ps_set (i := 4) nd rfl (Or.inl rfl) (pe_callB (call_max2 rfl) (by rfl) T.b_max (by decide +kernel) (pa_cons (pe_op op_sub pe_int (pv 3)) (pa_cons pe_int pa_nil))))
        (pss_one (ps_ret (pe_cmpR op_eq (pe_op op_shr (pv 2) (pv 4)) (pe_op op_shr (pv 1) (pv 4)) (nomark _)))))), ?_⟩
    refine ⟨_, rfl, t, _, rfl, hT, rfl, _, _, rfl, _, _, rfl, rfl, ?_⟩
    refine ⟨_, rfl, _, _, rfl, rfl, _, _, rfl, ?_⟩
    rw [if_neg (by omega : ¬ (0 : Int) > 32 - l)]
    refine ⟨_, rfl, _, rfl, _, _, rfl, rfl, (by omega : 0 ≤ 32 - l), _, rfl, _, rfl, _, _, rfl, rfl, (by omega : 0 ≤ 32 - l), rfl, ?_⟩
    have e4 : decide (V.int (b / 2 ^ (32 - l).toNat) = V.int (o / 2 ^ (32 - l).toNat)) = decide (b / 2 ^ (32 - l).toNat = o / 2 ^ (32 - l).toNat) := by
      by_cases z : b / 2 ^ (32 - l).toNat = o / 2 ^ (32 - l).toNat
      · rw [decide_eq_true z, decide_eq_true (congrArg V.int z)]
      · rw [decide_eq_false z, decide_eq_false (fun y => z (V.int.inj y))]
    rw [← e4] at q
    exact q
end
theorem at_str {l : List Str} {i : Nat} {x : V} (h : (l.map V.str)[i]? = some x) : ∃ z, l[i]? = some z ∧ x = V.str z := by
  rw [List.getElem?_map] at h
  cases e : l[i]? with
  | none => rw [e] at h; cases h
  | some z => rw [e] at h; exact ⟨z, rfl, (Option.some.inj h).symm⟩
open TL in
theorem in_none : ∀ ws : List Str, inV .non (ws.map wv) = !(ws.all fun x => gw (tl x))
  | [] => rfl
  | x :: r => by
    have ih := in_none r
    show (eqV (wv x) .non || inV .non (r.map wv)) = !(gw (tl x) && r.all fun x => gw (tl x))
    rw [ih]
    by_cases g : gw (tl x) = true
    · rw [wv_good g, g]
      rfl
    · rw [wv_bad g, Bool.eq_false_iff.mpr g]
      rfl
open TL in
theorem good_ints : ∀ ws : List Str, (ws.all fun x => gw (tl x)) = true → ws.map wv = (ws.map fun x => ((NumText.digitsVal (tl x) : Nat) : Int)).map V.int
  | [], _ => rfl
  | x :: r, h => by
    rw [List.all_cons, Bool.and_eq_true] at h
    show wv x :: r.map wv = _
    rw [good_ints r h.2, wv_good h.1]
    rfl
theorem wv_flat (x : Str) : flatV (wv x) = true := by
  unfold wv
  split <;> rfl
section
variable {P : Program} {w : World} {K : PySem.W.Frag} {mg : Str → Option Value} {base : Heap}
open TL in
theorem ok_parse_address (T : Tx K mg) : FnOk P w K mg base CX0 2 T.ad_parse_address T.fd_parse_address ["text"] spParse := by
  refine T.d_parse_address.F.ok x_parse_address (fun vs H Q E h => ?_) (fun cdv A outer s H vs Q E hr h => ?_)
  · obtain ⟨x, rfl, _⟩ := h
    rfl
  · obtain ⟨x, rfl, hx, q⟩ := h
    have nd := x_parse_address.nd
    refine ⟨_, (pss_cons (ps_setLc (i := 1) (own := [("word", 2)]) (g := gName 2) rfl nd rfl rfl (sw_true rfl rfl rfl (by decide +kernel)) (pi_list (pe_split (pv 0) pe_str)) (blkOk_by (own := [("word", 2)]) (N := Ns_parse_address) (sc := defScope s_parse_address) (by decide +kernel)) (fun _ _ _ _ _ => (pg_name (i := 2) nd rfl (Or.inl rfl))) (fun _ _ _ _ _ => pts_nil) (fun _ _ _ _ _ => (pe_call (ok_octet_of T) hr (by rfl) T.d_octet_of.g T.d_octet_of.F.kp T.d_octet_of.b .nil pass0 (pa_cons (pv 2) pa_nil))))
        (pss_cons (ps_if (PW.pt (pw_or (pt_cmpR op_ne (pe_callB call_len_seq (by rfl) T.b_len (by decide +kernel) (pa_cons (pv 1) pa_nil)) pe_int (nomark _)) (pw_or1 (pt_cmpR op_in_seq pe_non (pv 1) (by rfl))))) (pss_one (ps_ret pe_non)) pss_nil)
        (pss_one (ps_ret (pe_call (ok_number_of T) hr (by rfl) T.d_number_of.g T.d_number_of.F.kp T.d_number_of.b .nil pass0 (pa_cons (pv 1) pa_nil)))))), ?_⟩
    obtain ⟨ws, ok⟩ := OkW.all (tl x)
    rw [ok.split] at q
    have lx : x.length = (tl x).length := len_tl x
    have lw := ok.many
    have lm : ∀ y ∈ ws, y.length ≤ 1000 := fun y hy => by
      have := ok.len hy
      omega
    refine ⟨_, rfl, ⟨_, rfl⟩, x, _, rfl, rfl, by decide, Nat.le_trans (m := 1000) (by omega) (by decide), fun p hp => ?_⟩
    rw [ok.split]
    have s1 := same_upd (o := .lst (ws.map V.str)) hp
    have g1 := upd_same (H := H) (a := p) (o := .lst (ws.map V.str))
    generalize upd H p (.lst (ws.map V.str)) = H1 at s1 g1 ⊢
    refine ⟨p, rfl, ⟨_, SqL.of g1⟩, fun D hD => ?_⟩
    refine lc_list (K := K) (a := p) (xs := ws.map V.str) (fun i H' => Same H1 H' ∧ H' D = some (.lst ((ws.take i).map wv))) ⟨same_upd hD, upd_same⟩ (fun _ _ _ z => SqL.of (z.1 _ _ g1)) ?_ ?_
    · rintro i y H' hy ⟨s', g'⟩
      obtain ⟨z, hz, rfl⟩ := at_str hy
      have hi := (List.getElem?_eq_some_iff.mp hz).1
      refine ⟨rfl, _, rfl, z, rfl, lm z (List.mem_of_getElem? hz), _, g', ?_, fun b o e => by rw [upd_ne (ne_of_none e hD)]; exact s' _ _ e, ?_⟩
      · rw [List.length_map, List.length_take]
        exact small1000 (by omega)
      · rw [upd_same, List.take_add_one, hz]
        simp
    · rintro H2 ⟨s2, g2⟩
      rw [List.length_map, List.take_length] at g2
      have qq := q H2 (s1.trans s2)
      unfold pf at qq
      refine ⟨_, rfl, D, _, rfl, .inl (SqL.of g2), rfl, _, rfl, ?_⟩
      by_cases h4 : ws.length = 4
      · rw [decide_eq_true (congrArg V.int (by rw [List.length_map, h4]; rfl) : V.int ((ws.map wv).length : Int) = V.int 4)]
        refine ⟨_, rfl, D, _, rfl, .inl (SqL.of g2), rfl, ?_, ?_⟩
        · rw [List.all_map, List.all_eq_true]
          exact fun y _ => wv_flat y
        rw [in_none]
        by_cases ha : (ws.all fun x => gw (tl x)) = true
        · rw [ha]
          rw [if_pos ⟨h4, ha⟩] at qq
          rw [good_ints ws ha] at g2
          refine ⟨_, rfl, _, rfl, D, _, rfl, SqL.of g2, ?_⟩
          rw [List.foldl_map]
          exact qq
        · rw [Bool.eq_false_iff.mpr ha]
          rw [if_neg (fun z => ha z.2)] at qq
          exact ⟨_, rfl, qq⟩
      · rw [decide_eq_false (fun z => h4 (by have := V.int.inj z; rw [List.length_map] at this; omega) : ¬ V.int ((ws.map wv).length : Int) = V.int 4)]
        rw [if_neg (fun z => h4 z.1)] at qq
        exact qq
end
def spRead : Sp := spParse
open TL in
theorem take_snoc {l : List Nat} {i c : Nat} (h : l[i]? = some c) : l.take (i + 1) = l.take i ++ [c] := by
  rw [List.take_add_one, h]
  rfl
theorem ixN_last (n : Nat) : ixN (n + 1) (-1) = some n := by
  unfold ixN
  rw [if_neg (by omega), if_pos (by omega)]
  exact congrArg some (by omega)
open TL in
theorem digit_in (c : Nat) : inV (.str ⟨#[c]⟩) [.str (Str.ofString "0"), .str (Str.ofString "1"), .str (Str.ofString "2"), .str (Str.ofString "3"), .str (Str.ofString "4"), .str (Str.ofString "5"), .str (Str.ofString "6"), .str (Str.ofString "7"), .str (Str.ofString "8"), .str (Str.ofString "9")] = (decide (48 ≤ c) && decide (c ≤ 57)) := by
  have e : ∀ (d : Nat) (z : String), tl (Str.ofString z) = [d] → eqV (.str (Str.ofString z)) (.str ⟨#[c]⟩) = decide (c = d) := by
    intro d z hz
    show (Str.ofString z == (⟨#[c]⟩ : Str)) = _
    by_cases h : c = d
    · subst h
      rw [decide_eq_true rfl]
      exact beq_iff_eq.mpr (ext_tl hz)
    · rw [decide_eq_false h]
      refine beq_eq_false_iff_ne.mpr fun q => h ?_
      have := congrArg tl q
      rw [hz] at this
      exact (List.cons.inj this).1.symm
  unfold inV
  simp only [List.any_cons, List.any_nil]
  rw [e 48 "0" (by decide), e 49 "1" (by decide), e 50 "2" (by decide), e 51 "3" (by decide), e 52 "4" (by decide), e 53 "5" (by decide), e 54 "6" (by decide), e 55 "7" (by decide), e 56 "8" (by decide), e 57 "9" (by decide)]
  by_cases h : 48 ≤ c ∧ c ≤ 57
  · have : c = 48 ∨ c = 49 ∨ c = 50 ∨ c = 51 ∨ c = 52 ∨ c = 53 ∨ c = 54 ∨ c = 55 ∨ c = 56 ∨ c = 57 := by omega
    rcases this with rfl | rfl | rfl | rfl | rfl | rfl | rfl | rfl | rfl | rfl <;> decide
  · have n : ∀ d : Nat, 48 ≤ d → d ≤ 57 → decide (c = d) = false := fun d h1 h2 => decide_eq_false (fun q => h (by omega))
    rw [n 48 (by decide) (by decide), n 49 (by decide) (by decide), n 50 (by decide) (by decide), n 51 (by decide) (by decide), n 52 (by decide) (by decide), n 53 (by decide) (by decide), n 54 (by decide) (by decide), n 55 (by decide) (by decide), n 56 (by decide) (by decide), n 57 (by decide) (by decide)]
    by_cases h1 : 48 ≤ c
    · rw [decide_eq_true h1, decide_eq_false (fun q => h ⟨h1, q⟩)]
      rfl
    · rw [decide_eq_false h1]
      rfl
section
variable {P : Program} {w : World} {K : PySem.W.Frag} {mg : Str → Option Value} {base : Heap}
theorem ok_law_text (T : Tx K mg) : FnOk P w K mg base CX0 1 T.ad_law_text T.fd_law_text ["address"] spShow := by
  refine T.d_law_text.F.ok x_law_text (fun vs H Q E h => ?_) (fun cdv A outer s H vs Q E hr h => ?_)
  · obtain ⟨a, rfl, _⟩ := h
    rfl
  · obtain ⟨a, rfl, h0, h1, q⟩ := h
    have nd := x_law_text.nd
    refine ⟨_, (pss_cons (ps_set (i := 1) nd rfl (Or.inl rfl) (pe_lst (pa_cons (pe_callTy call_str_int (by rfl) T.b_str (by decide +kernel) (pa_cons (pe_op op_fdiv (pv 0) pe_int) pa_nil)) (pa_cons (pe_callTy call_str_int (by rfl) T.b_str (by decide +kernel) (pa_cons (pe_op op_mod (pe_callTy call_int1 (by rfl) T.b_int (by decide +kernel) (pa_cons (pe_op op_fdiv (pv 0) pe_int) pa_nil)) pe_int) pa_nil)) (pa_cons (pe_callTy call_str_int (by rfl) T.b_str (by decide +kernel) (pa_cons (pe_op op_mod (pe_callTy call_int1 (by rfl) T.b_int (by decide +kernel) (pa_cons (pe_op op_fdiv (pv 0) pe_int) pa_nil)) pe_int) pa_nil)) pa_nil)))))
        (pss_one (ps_ret (pe_join pe_str (pe_op op_cat (pv 1) (pe_lst (pa_cons (pe_callTy call_str_int (by rfl) T.b_str (by decide +kernel) (pa_cons (pe_op op_mod (pe_callTy call_int1 (by rfl) T.b_int (by decide +kernel) (pa_cons (pv 0) pa_nil)) pe_int) pa_nil)) pa_nil))))))), ?_⟩
    refine ⟨_, rfl, _, _, rfl, rfl, ⟨by decide, by decide⟩, a / 16777216, rfl, log4 (by omega) (by omega), ?_⟩
    refine ⟨_, rfl, _, _, rfl, rfl, ⟨by decide, by decide⟩, .inl ⟨_, rfl, _, _, rfl, rfl, (by show (0 : Int) < 256; decide), a / 65536 % 256, rfl, log4 (by omega) (by omega), ?_⟩⟩
    refine ⟨_, rfl, _, _, rfl, rfl, ⟨by decide, by decide⟩, .inl ⟨_, rfl, _, _, rfl, rfl, (by show (0 : Int) < 256; decide), a / 256 % 256, rfl, log4 (by omega) (by omega), ?_⟩⟩
    refine ⟨by show 3 ≤ sizeLine; decide, fun x1 n1 => ?_⟩
    have s1 := same_upd (o := .lst [.str (toString (a / 16777216)), .str (toString (a / 65536 % 256)), .str (toString (a / 256 % 256))]) n1
    refine ⟨⟨_, rfl⟩, _, rfl, _, rfl, .inl ⟨_, rfl, _, _, rfl, rfl, (by show (0 : Int) < 256; decide), a % 256, rfl, log4 (by omega) (by omega), ?_⟩⟩
    refine ⟨by show 1 ≤ sizeLine; decide, fun x2 n2 => ?_⟩
    have s2 := same_upd (o := .lst [.str (toString (a % 256))]) n2
    refine ⟨x1, x2, _, _, rfl, rfl, s2 _ _ upd_same, upd_same, (by show 3 + 1 ≤ sizeLine; decide), fun x3 n3 => ?_⟩
    refine ⟨_, x3, sA a, rfl, rfl, .inl (SqL.of upd_same), ?_, q _ (s1.trans (s2.trans (same_upd n3)))⟩
    have l1 := str_len (i := a / 16777216) (by omega) (by omega)
    have l2 := str_len (i := a / 65536 % 256) (by omega) (by omega)
    have l3 := str_len (i := a / 256 % 256) (by omega) (by omega)
    have l4 := str_len (i := a % 256) (by omega) (by omega)
    have ld : (Str.ofString ".").length = 1 := by decide
    unfold sA
    simp only [List.map_cons, List.map_nil, List.sum_cons, List.sum_nil, List.length_cons, List.length_nil, ld]
    omega
open TL in
theorem ok_law_read (T : Tx K mg) : FnOk P w K mg base CX0 1 T.ad_law_read T.fd_law_read ["text"] spRead := by
  refine T.d_law_read.F.ok x_law_read (fun vs H Q E h => ?_) (fun cdv A outer s H vs Q E hr h => ?_)
  · obtain ⟨x, rfl, _⟩ := h
    rfl
  · obtain ⟨x, rfl, hx, q⟩ := h
    have nd := x_law_read.nd
    refine ⟨_, (pss_cons (ps_set (i := 1) nd rfl (Or.inl rfl) (pe_lst (pa_cons pe_str pa_nil)))
        (pss_cons (ps_for PassesOwn.never rfl (pi_str (pv 0)) (pg_name (i := 2) nd rfl (Or.inl rfl)) (pss_one (ps_if (pt_cmpR op_eq (pv 2) pe_str (nomark _)) (pss_one (ps_expr (pe_bm PySem.F.plainAttrs_list PySem.F.slot_list_append PySem.F.type_list_append mt_append (pv 1) (pa_cons pe_str pa_nil)))) (pss_one (ps_asg (pe_op op_add_str (pe_ix ix_list (pv 1) (pe_un un_neg pe_int) (fun _ _ => rfl)) (pv 2)) (pg_sub (pv 1) (pe_un un_neg pe_int) set_list))))))
        (pss_cons (ps_if (pt_cmpR op_ne (pe_callB call_len_seq (by rfl) T.b_len (by decide +kernel) (pa_cons (pv 1) pa_nil)) pe_int (nomark _)) (pss_one (ps_ret pe_non)) pss_nil)
        (pss_cons (ps_set (i := 3) nd rfl (Or.inl rfl) pe_int)
        (pss_cons (ps_for PassesOwn.never rfl (pi_list (pv 1)) (pg_name (i := 4) nd rfl (Or.inl rfl)) (pss_cons (ps_set (i := 5) nd rfl (Or.inl rfl) pe_int)
        (pss_cons (ps_for PassesOwn.never rfl (pi_str (pv 4)) (pg_name (i := 2) nd rfl (Or.inl rfl)) (pss_cons (ps_if (pt_cmpR op_notIn_seq (pv 2) (pe_lst (pa_cons pe_str (pa_cons pe_str (pa_cons pe_str (pa_cons pe_str (pa_cons pe_str (pa_cons pe_str (pa_cons pe_str (pa_cons pe_str (pa_cons pe_str (pa_cons pe_str pa_nil))))))))))) (by rfl)) (pss_one (ps_ret pe_non)) pss_nil)
        (pss_one (ps_set (i := 5) nd rfl (Or.inl rfl) (pe_op op_add (pe_op op_mul (pv 5) pe_int) (pe_callTy call_int_str (by rfl) T.b_int (by decide +kernel) (pa_cons (pv 2) pa_nil)))))))
        (pss_cons (ps_if (PW.pt (pw_or (pt_cmpR op_eq (pv 4) pe_str (nomark _)) (pw_or (pt_cmpR op_gt (pv 5) pe_int (nomark _)) (pw_or1 (pt_cmpR op_ne (pe_callTy call_str_int (by rfl) T.b_str (by decide +kernel) (pa_cons (pv 5) pa_nil)) (pv 4) (nomark _)))))) (pss_one (ps_ret pe_non)) pss_nil)
        (pss_one (ps_set (i := 3) nd rfl (Or.inl rfl) (pe_op op_add (pe_op op_mul (pv 3) pe_int) (pv 5))))))))
        (pss_one (ps_ret (pv 3)))))))), ?_⟩
    have lx : x.length = (tl x).length := len_tl x
    refine ⟨by show 1 ≤ sizeLine; decide, fun p hp => ?_⟩
    refine ⟨_, rfl, x, rfl, for_str (x := x) (fun i σ H' => ∃ (v2 : Option V) (ws : List Str), σ = [some (.str x), some (.ref p), v2, none, none, none] ∧ Same H H' ∧ H' p = some (.lst (ws.map V.str)) ∧ OkW ws ((tl x).take i)) ⟨none, _, rfl, same_upd hp, upd_same, OkW.start⟩ ?_ ?_⟩
    · rintro i c σ H1 hc ⟨v2, ws, rfl, s1, g1, ok⟩
      have hil := (List.getElem?_eq_some_iff.mp hc).1
      have lw := ok.many
      rw [List.length_take] at lw
      have fr : ∀ (o : HO), Same H (upd H1 p o) := fun o b u e => by
        rw [upd_ne (ne_of_none e hp)]
        exact s1 _ _ e
      refine ⟨_, rfl, rfl, _, rfl, ?_⟩
      have hm : (V.str ⟨#[c]⟩ = V.str (Str.ofString ".")) ↔ c = 46 := by
        constructor
        · intro e
          have := congrArg tl (V.str.inj e)
          exact (List.cons.inj this).1
        · intro e
          subst e
          exact congrArg V.str (ext_tl (by decide))
      by_cases h46 : c = 46
      · rw [decide_eq_true (hm.mpr h46)]
        refine ⟨_, rfl, .inl ⟨rfl, _, SqL.of g1⟩, p, _, _, rfl, rfl, g1, ?_, ?_⟩
        · rw [List.length_map]
          exact small1000 (by omega)
        · refine ⟨_, ws ++ [Str.ofString ""], rfl, fr _, by rw [upd_same, List.map_append]; rfl, ?_⟩
          rw [take_snoc hc, h46]
          exact ok.dot
      · rw [decide_eq_false (fun z => h46 (hm.mp z))]
        obtain ⟨vs, y, rfl⟩ : ∃ vs y, ws = vs ++ [y] := ⟨ws.dropLast, ws.getLast ok.ne, (List.dropLast_concat_getLast ok.ne).symm⟩
        have ly := ok.len (x := y) (by simp)
        rw [List.length_take] at ly
        rw [List.map_append] at g1
        refine ⟨_, rfl, 1, rfl, p, _, _, .str y, rfl, rfl, SqL.of g1, atI_last _ _, _, rfl, _, _, rfl, rfl, ?_, ?_⟩
        · have l1 : (⟨#[c]⟩ : Str).length = 1 := rfl
          rw [l1]
          exact Nat.le_trans (m := 1000) (by omega) (by decide)
        refine ⟨_, rfl, 1, rfl, p, _, _, vs.length, rfl, rfl, g1, ?_, ?_⟩
        · show ixN (vs.map V.str ++ [V.str y]).length (-1) = _
          rw [List.length_append, List.length_map]
          exact ixN_last _
        · refine ⟨_, vs ++ [y ++ ⟨#[c]⟩], rfl, fr _, ?_, ?_⟩
          · rw [upd_same, List.map_append]
            have : (vs.map V.str ++ [V.str y]).set vs.length (V.str (y ++ ⟨#[c]⟩)) = vs.map V.str ++ [V.str (y ++ ⟨#[c]⟩)] := by
              rw [List.set_append_right _ _ (by rw [List.length_map]; exact Nat.le_refl _), List.length_map, Nat.sub_self]
              rfl
            exact congrArg (fun z => some (HO.lst z)) this
          · rw [take_snoc hc]
            exact ok.sign h46
    · rintro σ H1 ⟨v2, ws, rfl, s1, g1, ok⟩
      rw [List.take_length] at ok
      rw [ok.split] at q
      unfold pf at q
      have lm : ∀ y ∈ ws, y.length ≤ 500 := fun y hy => by
        have := ok.len hy
        omega
      refine ⟨_, rfl, p, _, rfl, .inl (SqL.of g1), rfl, _, rfl, ?_⟩
      by_cases h4 : ws.length = 4
      · rw [decide_eq_true (congrArg V.int (by rw [List.length_map, h4]; rfl) : V.int ((ws.map V.str).length : Int) = V.int 4)]
        refine ⟨_, rfl, p, rfl, ⟨_, SqL.of g1⟩, ?_⟩
        refine for_list (K := K) (a := p) (xs := ws.map V.str) (fun i σ H' => ∃ v2 v4 v5 : Option V, σ = [some (.str x), some (.ref p), v2, some (.int ((ws.take i).foldl (fun (t : Int) x => t * 256 + (NumText.digitsVal (tl x) : Nat)) 0)), v4, v5] ∧ Same H1 H' ∧ ((ws.take i).all fun x => gw (tl x)) = true)
          ⟨_, none, none, rfl, Same.refl _, rfl⟩ (fun i σ H' _ ⟨_, _, _, _, z, _⟩ => SqL.of (z _ _ g1)) ?_ ?_
        · rintro i y σ H2 hy ⟨v2, v4, v5, rfl, s2, hall⟩
          obtain ⟨z, hz, rfl⟩ := at_str hy
          have hzm := List.mem_of_getElem? hz
          have lz := lm z hzm
          have lz2 : z.length = (tl z).length := len_tl z
          have bad : ¬ gw (tl z) = true → Q .non H2 ∧ ∀ H3, Same H2 H3 → Q .non H3 := fun g => by
            have n : ¬ (ws.length = 4 ∧ (ws.all fun x => gw (tl x)) = true) := fun a => g (List.all_eq_true.mp a.2 z hzm)
            rw [if_neg n] at q
            exact ⟨q H2 (s1.trans s2), fun H3 s3 => q H3 (s1.trans (s2.trans s3))⟩
          refine ⟨_, rfl, z, rfl, for_str (x := z) (fun k σ H' => ∃ v2 : Option V, σ = [some (.str x), some (.ref p), v2, some (.int ((ws.take i).foldl (fun (t : Int) x => t * 256 + (NumText.digitsVal (tl x) : Nat)) 0)), some (.str z), some (.int (NumText.digitsVal ((tl z).take k) : Nat))] ∧ Same H2 H' ∧ dg ((tl z).take k) = true) ⟨_, rfl, Same.refl _, rfl⟩ ?_ ?_⟩
          · rintro k c σ H3 hc ⟨v2', rfl, s3, hd⟩
            refine ⟨_, rfl, by show 10 ≤ sizeLine; decide, fun l hl => ?_⟩
            have s4 := same_upd (o := .lst [.str (Str.ofString "0"), .str (Str.ofString "1"), .str (Str.ofString "2"), .str (Str.ofString "3"), .str (Str.ofString "4"), .str (Str.ofString "5"), .str (Str.ofString "6"), .str (Str.ofString "7"), .str (Str.ofString "8"), .str (Str.ofString "9")]) hl
            refine ⟨l, _, rfl, .inl (SqL.of upd_same), rfl, rfl, !(decide (48 ≤ c) && decide (c ≤ 57)), congrArg V.bl (congrArg (fun b => !b) (digit_in c)), ?_⟩
            by_cases hcd : 48 ≤ c ∧ c ≤ 57
            · rw [decide_eq_true hcd.1, decide_eq_true hcd.2]
              have ad : NumText.AllDigits (tl (⟨#[c]⟩ : Str)) := fun d hd => by
                rw [List.mem_singleton.mp hd]
                exact hcd
              have it : intText? (⟨#[c]⟩ : Str) = some ((NumText.digitsVal [c] : Nat) : Int) := intText_digits (x := ⟨#[c]⟩) ad (by intro q; cases q) (by show 1 ≤ 4300; decide)
              refine ⟨_, rfl, _, _, rfl, rfl, .inr ⟨by decide, by decide⟩, _, rfl, _, _, rfl, it, (by show 1 ≤ 640; decide), _, _, rfl, rfl, some (.str ⟨#[c]⟩), ?_, s3.trans s4, ?_⟩
              · have e1 : NumText.digitsVal ((tl z).take (k + 1)) = NumText.digitsVal ((tl z).take k) * 10 + (c - 48) := by
                  rw [take_snoc hc]
                  unfold NumText.digitsVal
                  rw [List.foldl_append]
                  rfl
                have e2 : NumText.digitsVal [c] = c - 48 := by
                  show 0 * 10 + (c - 48) = c - 48
                  omega
                rw [e1, e2, show (((NumText.digitsVal ((tl z).take k) * 10 + (c - 48) : Nat)) : Int) = ((NumText.digitsVal ((tl z).take k) : Nat) : Int) * 10 + ((c - 48 : Nat) : Int) by omega]
                rfl
              · rw [take_snoc hc]
                unfold dg at hd ⊢
                rw [List.all_append, hd]
                simp [hcd.1, hcd.2]
            · have b := (bad fun g => hcd ((gw_parts.mp g).2.1 c (List.mem_of_getElem? hc))).2 _ (s3.trans s4)
              have e : (decide (48 ≤ c) && decide (c ≤ 57)) = false := by
                by_cases h1 : 48 ≤ c
                · rw [decide_eq_true h1, decide_eq_false (fun q => hcd ⟨h1, q⟩)]
                  rfl
                · rw [decide_eq_false h1]
                  rfl
              rw [e]
              exact b
          · rintro σ H3 ⟨v2', rfl, s3, hd⟩
            rw [List.take_length] at hd ⊢
            have ad := dg_all.mp hd
            refine ⟨_, rfl, rfl, _, rfl, ?_⟩
            by_cases he : tl z = []
            · have ez : z = Str.ofString "" := ext_tl (by rw [he]; decide)
              rw [decide_eq_true (congrArg V.str ez)]
              exact (bad fun g => (gw_parts.mp g).1 he).2 _ s3
            rw [decide_eq_false (fun q => he (by rw [V.str.inj q]; decide))]
            refine ⟨_, rfl, _, _, rfl, rfl, _, rfl, ite2 (fun e => ?_) (fun e => ?_)⟩
            · have hv : (255 : Int) < ((NumText.digitsVal (tl z) : Nat) : Int) := of_decide_eq_true e
              exact (bad fun g => by have := (gw_parts.mp g).2.2.1; omega).2 _ s3
            have hv : ¬ (255 : Int) < ((NumText.digitsVal (tl z) : Nat) : Int) := fun q => e (decide_eq_true q)
            refine ⟨_, rfl, _, rfl, log_small (by omega), _, rfl, rfl, _, rfl, ?_⟩
            by_cases hw : numL (NumText.digitsVal (tl z)) = tl z
            · rw [decide_eq_true (congrArg V.str ((str_eq _ z).mpr hw))]
              have gz : gw (tl z) = true := gw_parts.mpr ⟨he, ad, by omega, hw⟩
              refine ⟨_, rfl, _, _, rfl, rfl, .inr ⟨by decide, by decide⟩, _, rfl, _, _, rfl, rfl, v2', some (.str z), some (.int (NumText.digitsVal (tl z) : Nat)), ?_, s2.trans s3, ?_⟩
              · rw [fold_take (fun (t : Int) x => t * 256 + (NumText.digitsVal (tl x) : Nat)) ws i z 0 hz]
                rfl
              · rw [List.take_add_one, hz, List.all_append, hall]
                simp [gz]
            · rw [decide_eq_false (fun q => hw ((str_eq _ z).mp (V.str.inj q)))]
              exact (bad fun g => hw (gw_parts.mp g).2.2.2).2 _ s3
        · rintro σ H2 ⟨v2, v4, v5, rfl, s2, hall⟩
          rw [List.length_map, List.take_length] at hall ⊢
          rw [if_pos ⟨h4, hall⟩] at q
          exact ⟨_, rfl, q H2 (s1.trans s2)⟩
      · rw [decide_eq_false (fun z => h4 (by have := V.int.inj z; rw [List.length_map] at this; omega) : ¬ V.int ((ws.map V.str).length : Int) = V.int 4)]
        rw [if_neg (fun z => h4 z.1)] at q
        exact q H1 s1
end
/-- written numbers in a display -/
def tcs : List Int → TA
  | [] => tNil
  | x :: r => tCons (tC (.int x)) (tcs r)
theorem tcs_eq (σ : L2.St) (H : Hp) : ∀ (xs : List Int) (Q : List V → Hp → Prop), Q (xs.map V.int) H → tcs xs σ H Q
  | [], _, q => q
  | x :: r, Q, q => tcs_eq σ H r (fun vs H1 => Q (.int x :: vs) H1) q
theorem rd_pick {K : PySem.W.Frag} {i : Nat} {p c : Addr} {σ : L2.St} {H : Hp} {Q : VK} {E : XK} (xs : List Int) (hσ : σ[i]? = some (some (.ref p))) (hL : LS H p c) (hx : xs ≠ []) (hl : xs.length ≤ 1000)
    (k : ∀ (x : Int) (H' : Hp), x ∈ xs → LS H' p c → Kp p c H H' → Q (.int x) H') : tCall (spPick K) [] E (tCons (tVar i) (tCons (tLst (tcs xs)) tNil)) σ H Q := by
  refine ⟨_, hσ, tcs_eq σ H xs _ ⟨Nat.le_trans (by rw [List.length_map]; exact hl) (by decide : 1000 ≤ sizeLine), fun l hl2 => ?_⟩⟩
  refine ⟨p, c, l, _, rfl, hL.new hl2, hL.ne1 hl2, hL.ne2 hl2, upd_same, (fun z => hx (List.map_eq_nil_iff.mp z)), Nat.lt_of_le_of_lt (by rw [List.length_map]; exact hl) (by decide : 1000 < 1073741824), fun v H2 hv hL2 k2 => ?_⟩
  obtain ⟨x, hx2, rfl⟩ := List.mem_map.mp hv
  exact k x H2 hx2 hL2 ((kp_same (same_upd hl2)).trans k2)

/-- what follows, shown once -/
theorem seq_key {a r : TS} {D : Ends} {σ : L2.St} {H : Hp} (Good : L2.St → Hp → Prop) (key : ∀ σ' H', Good σ' H' → r D σ' H') (h : (∀ σ' H', Good σ' H' → r D σ' H') → tSeq a r D σ H) : tSeq a r D σ H := h key
theorem seq_if {c : TT} {t u r : TS} {D : Ends} {σ : L2.St} {H : Hp} (Good : L2.St → Hp → Prop) (key : ∀ σ' H', Good σ' H' → r D σ' H') (h : (∀ σ' H', Good σ' H' → r D σ' H') → tSeq (tIfS c t u) r D σ H) : tSeq (tIfS c t u) r D σ H := h key
theorem gn {i : Nat} {v : V} {σ : L2.St} {H : Hp} {Q : L2.St → Hp → Prop} (h : Q (σ.set i (some v)) H) : gName i v σ H Q := h
theorem nx_go {f : L2.St → Hp → Prop} {rt : V → Hp → Prop} {bk ct : L2.St → Hp → Prop} {σ : L2.St} {H : Hp} (h : f σ H) : Ends.nx ⟨f, rt, bk, ct⟩ σ H := h

theorem cutS_len (z : Str) (lo hi : Option Int) : (cutS z lo hi).length ≤ z.length := by
  have e : z.length = z.cps.toList.length := by simp [Str.length]
  show (cutS z lo hi).cps.size ≤ _
  unfold cutS
  rw [List.size_toArray, List.length_take, List.length_drop, e]
  omega
theorem app_len (a b : Str) : (a ++ b).length = a.length + b.length := by
  rw [TL.len_tl, TL.tl_append, List.length_append, TL.len_tl, TL.len_tl]
def spBad : Sp := fun vs H Q _ => ∃ (p c : Addr) (x : Str), vs = [.ref p, .str x] ∧ LS H p c ∧ x.length ≤ 50 ∧ ∀ (z : Str) (H' : Hp), z.length ≤ 200 → LS H' p c → Kp p c H H' → Q (.str z) H'
def spLaw (K : PySem.W.Frag) : Sp := fun vs H Q _ => ∃ (a : Addr) (ns : List Int), vs = [.ref a] ∧ SqL K H a (ns.map V.int) ∧ ns.length ≤ 63 ∧ ∀ H', Q (.bl true) H'
open TL in
section
theorem tl_sA {a : Int} (h0 : 0 ≤ a) (h1 : a ≤ 4294967295) : ∃ n1 n2 n3 n4 : Nat, n1 ≤ 255 ∧ n2 ≤ 255 ∧ n3 ≤ 255 ∧ n4 ≤ 255 ∧ a = (((n1 : Int) * 256 + n2) * 256 + n3) * 256 + n4 ∧ sA a = ([toString ((n1 : Nat) : Int), toString ((n2 : Nat) : Int), toString ((n3 : Nat) : Int), toString ((n4 : Nat) : Int)] : List Str) := by
  refine ⟨(a / 16777216).toNat, (a / 65536 % 256).toNat, (a / 256 % 256).toNat, (a % 256).toNat, by omega, by omega, by omega, by omega, by omega, ?_⟩
  unfold sA
  rw [Int.toNat_of_nonneg (by omega), Int.toNat_of_nonneg (by omega), Int.toNat_of_nonneg (by omega), Int.toNat_of_nonneg (by omega)]
theorem text_split {a : Int} (h0 : 0 ≤ a) (h1 : a ≤ 4294967295) : Txt.split (Txt.join (Str.ofString ".") (sA a)) (Str.ofString ".") = sA a := by
  obtain ⟨n1, n2, n3, n4, _, _, _, _, _, e⟩ := tl_sA h0 h1
  rw [e]
  refine split_join (s := 46) (S := []) (by decide) (by decide +kernel) (by simp) fun x hx => ?_
  simp only [List.mem_cons, List.not_mem_nil, or_false] at hx
  rcases hx with rfl | rfl | rfl | rfl <;> rw [tl_str] <;> exact numL_free (by decide)
theorem text_pf {a : Int} (h0 : 0 ≤ a) (h1 : a ≤ 4294967295) : pf (sA a) = .int a := by
  obtain ⟨n1, n2, n3, n4, b1, b2, b3, b4, ea, e⟩ := tl_sA h0 h1
  rw [e]
  unfold pf
  rw [if_pos ⟨rfl, by simp only [List.all_cons, List.all_nil, tl_str, gw_num b1, gw_num b2, gw_num b3, gw_num b4]; rfl⟩]
  simp only [List.foldl_cons, List.foldl_nil, tl_str, numL_val]
  rw [ea]
  exact congrArg V.int (by omega)
theorem text_tl {a : Int} (h0 : 0 ≤ a) (h1 : a ≤ 4294967295) : ∃ n1 n2 n3 n4 : Nat, n1 ≤ 255 ∧ n2 ≤ 255 ∧ n3 ≤ 255 ∧ n4 ≤ 255 ∧ tl (Txt.join (Str.ofString ".") (sA a)) = numL n1 ++ ([46] ++ (numL n2 ++ ([46] ++ (numL n3 ++ ([46] ++ numL n4))))) := by
  obtain ⟨n1, n2, n3, n4, b1, b2, b3, b4, ea, e⟩ := tl_sA h0 h1
  refine ⟨n1, n2, n3, n4, b1, b2, b3, b4, ?_⟩
  rw [join_eq, tl_join, e, show tl (Str.ofString ".") = [46] by decide]
  show joinL [46] [tl _, tl _, tl _, tl _] = _
  rw [tl_str, tl_str, tl_str, tl_str]
  rfl
theorem text_len {a : Int} (h0 : 0 ≤ a) (h1 : a ≤ 4294967295) : (Txt.join (Str.ofString ".") (sA a)).length ≤ 50 := by
  obtain ⟨n1, n2, n3, n4, b1, b2, b3, b4, e⟩ := text_tl h0 h1
  rw [len_tl, e]
  have l1 := numL_len (n := n1) (k := 3) (by decide) (by omega)
  have l2 := numL_len (n := n2) (k := 3) (by decide) (by omega)
  have l3 := numL_len (n := n3) (k := 3) (by decide) (by omega)
  have l4 := numL_len (n := n4) (k := 3) (by decide) (by omega)
  simp only [List.length_append, List.length_cons, List.length_nil]
  omega
theorem text_ok {a : Int} (h0 : 0 ≤ a) (h1 : a ≤ 4294967295) : flt1 (.str (Txt.join (Str.ofString ".") (sA a))) = true := by
  obtain ⟨n1, n2, n3, n4, b1, b2, b3, b4, e⟩ := text_tl h0 h1
  show PyData.strOk _ = true
  unfold PyData.strOk
  rw [← Array.all_toList, show (Txt.join (Str.ofString ".") (sA a)).cps.toList = tl (Txt.join (Str.ofString ".") (sA a)) from rfl, e, List.all_eq_true]
  have d : ∀ n c, c ∈ numL n → c < 1114112 := fun n c hc => by
    have := numL_digits n c hc
    omega
  intro c hc
  refine decide_eq_true ?_
  simp only [List.mem_append, List.mem_cons, List.not_mem_nil, or_false] at hc
  rcases hc with h | h | h | h | h | h | h
  · exact d _ _ h
  · rw [h]; decide
  · exact d _ _ h
  · rw [h]; decide
  · exact d _ _ h
  · rw [h]; decide
  · exact d _ _ h
end
section
variable {P : Program} {w : World} {K : PySem.W.Frag} {mg : Str → Option Value} {base : Heap}
theorem ok_law_bad (T : Tx K mg) : FnOk P w K mg base CX0 3 T.ad_law_bad T.fd_law_bad ["state", "text"] spBad := by
  refine T.d_law_bad.F.ok x_law_bad (fun vs H Q E h => ?_) (fun cdv A outer s H vs Q E hr h => ?_)
  · obtain ⟨p, c, x, rfl, _⟩ := h
    rfl
  · obtain ⟨p, c, x, rfl, hL, hx, q⟩ := h
    have nd := x_law_bad.nd
    refine ⟨_, (pss_cons (ps_set (i := 2) nd rfl (Or.inl rfl) (pe_call (ok_law_take T) (hr.mono (by decide)) (by rfl) T.d_law_take.g T.d_law_take.F.kp T.d_law_take.b .nil pass0 (pa_cons (pv 0) (pa_cons (pe_op op_add (pe_callB call_len_str (by rfl) T.b_len (by decide +kernel) (pa_cons (pv 1) pa_nil)) pe_int) pa_nil))))
        (pss_cons (ps_set (i := 3) nd rfl (Or.inl rfl) (pe_call (ok_law_pick T) hr (by rfl) T.d_law_pick.g T.d_law_pick.F.kp T.d_law_pick.b .nil pass0 (pa_cons (pv 0) (pa_cons (pe_lst (pa_cons pe_str (pa_cons pe_str (pa_cons pe_str (pa_cons pe_str (pa_cons pe_str (pa_cons pe_str (pa_cons pe_str (pa_cons pe_str (pa_cons pe_str (pa_cons pe_str (pa_cons pe_str (pa_cons pe_str pa_nil))))))))))))) pa_nil))))
        (pss_cons (ps_set (i := 4) nd rfl (Or.inl rfl) (pe_call (ok_law_take T) (hr.mono (by decide)) (by rfl) T.d_law_take.g T.d_law_take.F.kp T.d_law_take.b .nil pass0 (pa_cons (pv 0) (pa_cons pe_int pa_nil))))
        (pss_cons (ps_if (pt_cmpR op_eq (pv 4) pe_int (nomark _)) (pss_one (ps_ret (pe_op op_add_str (pe_slice sl_str (pv 1) po_none (po_some (pv 2))) (pe_slice sl_str (pv 1) (po_some (pe_op op_add (pv 2) pe_int)) po_none)))) pss_nil)
        (pss_cons (ps_if (pt_cmpR op_eq (pv 4) pe_int (nomark _)) (pss_one (ps_ret (pe_op op_add_str (pe_op op_add_str (pe_slice sl_str (pv 1) po_none (po_some (pv 2))) (pv 3)) (pe_slice sl_str (pv 1) (po_some (pe_op op_add (pv 2) pe_int)) po_none)))) pss_nil)
        (pss_one (ps_ret (pe_ifExp (pt_cmpR op_eq (pv 4) pe_int (nomark _)) (pe_op op_add_str (pe_op op_add_str (pe_slice sl_str (pv 1) po_none (po_some (pv 2))) (pv 3)) (pe_slice sl_str (pv 1) (po_some (pv 2)) po_none)) (pe_call (ok_law_pick T) hr (by rfl) T.d_law_pick.g T.d_law_pick.F.kp T.d_law_pick.b .nil pass0 (pa_cons (pv 0) (pa_cons (pe_lst (pa_cons pe_str (pa_cons pe_str (pa_cons pe_str (pa_cons pe_str (pa_cons (pe_op op_add_str (pv 1) pe_str) (pa_cons (pe_op op_add_str pe_str (pv 1)) pa_nil))))))) pa_nil))))))))))), ?_⟩
    have big : x.length ≤ sizeLine := Nat.le_trans (m := 1000) (by omega) (by decide)
    have sm : ∀ n : Nat, n ≤ 1000 → n ≤ sizeLine := fun n h => Nat.le_trans h (by decide)
    refine ⟨_, rfl, _, rfl, x, rfl, big, _, _, rfl, rfl, p, c, _, rfl, hL, by omega, fun r H1 r0 r1 hL1 k1 => ?_⟩
    refine ⟨_, rfl, by show 12 ≤ sizeLine; decide, fun l hl => ?_⟩
    refine ⟨p, c, l, _, rfl, hL1.new hl, hL1.ne1 hl, hL1.ne2 hl, upd_same, List.cons_ne_nil _ _, (by show 12 < 1073741824; decide), fun v H2 hv hL2 k2 => ?_⟩
    have hv2 : ∃ y : Str, v = .str y ∧ y.length ≤ 2 := by
      simp only [List.mem_cons, List.not_mem_nil, or_false] at hv
      rcases hv with rfl | rfl | rfl | rfl | rfl | rfl | rfl | rfl | rfl | rfl | rfl | rfl
      all_goals exact ⟨_, rfl, by decide +kernel⟩
    obtain ⟨y, rfl, hy⟩ := hv2
    have k12 : Kp p c H H2 := k1.trans ((kp_same (same_upd hl)).trans k2)
    refine ⟨_, rfl, p, c, 4, rfl, hL2, by decide, fun kd H3 _ _ hL3 k3 => ?_⟩
    have k13 := k12.trans k3
    refine ⟨_, rfl, rfl, _, rfl, ite2 (fun _ => ?_) (fun _ => ?_)⟩
    · have a1 := cutS_len x none (some r)
      have a2 := cutS_len x (some (r + 1)) none
      refine ⟨_, rfl, _, rfl, _, rfl, x, rfl, big, _, rfl, _, rfl, _, _, rfl, rfl, _, rfl, x, rfl, big, _, _, rfl, rfl, sm _ (by omega), ?_⟩
      exact q _ _ (by rw [app_len]; omega) hL3 k13
    refine ⟨_, rfl, rfl, _, rfl, ite2 (fun _ => ?_) (fun _ => ?_)⟩
    · have a1 := cutS_len x none (some r)
      have a2 := cutS_len x (some (r + 1)) none
      refine ⟨_, rfl, _, rfl, _, rfl, x, rfl, big, _, rfl, _, _, rfl, rfl, sm _ (by omega), _, rfl, _, rfl, _, _, rfl, rfl, _, rfl, x, rfl, big, _, _, rfl, rfl, sm _ (by rw [app_len]; omega), ?_⟩
      exact q _ _ (by rw [app_len, app_len]; omega) hL3 k13
    refine ⟨_, rfl, rfl, _, rfl, ite2 (fun _ => ?_) (fun _ => ?_)⟩
    · have a1 := cutS_len x none (some r)
      have a2 := cutS_len x (some r) none
      refine ⟨_, rfl, _, rfl, _, rfl, x, rfl, big, _, rfl, _, _, rfl, rfl, sm _ (by omega), _, rfl, _, rfl, _, rfl, x, rfl, big, _, _, rfl, rfl, sm _ (by rw [app_len]; omega), ?_⟩
      exact q _ _ (by rw [app_len, app_len]; omega) hL3 k13
    · have l1 : (Str.ofString ".").length = 1 := by decide
      refine ⟨_, rfl, _, rfl, _, _, rfl, rfl, sm _ (by rw [l1]; omega), _, rfl, _, _, rfl, rfl, sm _ (by rw [l1]; omega), by show 6 ≤ sizeLine; decide, fun l2 hl2 => ?_⟩
      refine ⟨p, c, l2, _, rfl, hL3.new hl2, hL3.ne1 hl2, hL3.ne2 hl2, upd_same, List.cons_ne_nil _ _, (by show 6 < 1073741824; decide), fun v H4 hv hL4 k4 => ?_⟩
      have hv2 : ∃ y : Str, v = .str y ∧ y.length ≤ 200 := by
        simp only [List.mem_cons, List.not_mem_nil, or_false] at hv
        rcases hv with rfl | rfl | rfl | rfl | rfl | rfl
        · exact ⟨_, rfl, by decide +kernel⟩
        · exact ⟨_, rfl, by decide +kernel⟩
        · exact ⟨_, rfl, by decide +kernel⟩
        · exact ⟨_, rfl, by decide +kernel⟩
        · exact ⟨_, rfl, by rw [app_len, l1]; omega⟩
        · exact ⟨_, rfl, by rw [app_len, l1]; omega⟩
      obtain ⟨y2, rfl, hy2⟩ := hv2
      exact q _ _ hy2 hL4 (k13.trans ((kp_same (same_upd hl2)).trans k4))
end
theorem two_pow (n : Nat) : ((2 : Int) ^ (n + 1)) = 2 ^ n * 2 := by rw [Int.pow_succ]
theorem pow_pos2 (n : Nat) : (0 : Int) < 2 ^ n := Int.pow_pos (by decide)
section
variable {P : Program} {w : World} {K : PySem.W.Frag} {mg : Str → Option Value} {base : Heap}
theorem ok_law (T : Tx K mg) : FnOk P w K mg base CX0 4 T.ad_law T.fd_law ["script"] (spLaw K) := by
  refine T.d_law.F.ok x_law (fun vs H Q E h => ?_) (fun cdv A outer s H vs Q E hr h => ?_)
  · obtain ⟨a, ns, rfl, _⟩ := h
    rfl
  · obtain ⟨a0, ns, rfl, hS, hlen, q⟩ := h
    have nd := x_law.nd
    refine ⟨_, (pss_cons (ps_set (i := 1) nd rfl (Or.inl rfl) (pe_call (ok_law_state T) (hr.mono (by decide)) (by rfl) T.d_law_state.g T.d_law_state.F.kp T.d_law_state.b .nil pass0 (pa_cons (pv 0) pa_nil)))
        (pss_cons (ps_for PassesOwn.never rfl (pi_range1 (by rfl) T.b_range (pa_cons pe_int pa_nil)) (pg_name (i := 2) nd rfl (Or.inl rfl)) (pss_cons (ps_set (i := 3) nd rfl (Or.inl rfl) (pe_call (ok_law_number T) (hr.mono (by decide)) (by rfl) T.d_law_number.g T.d_law_number.F.kp T.d_law_number.b .nil pass0 (pa_cons (pv 1) (pa_cons pe_int (pa_cons pe_int pa_nil)))))
        (pss_cons (ps_if (pt_cmpR op_eq (pe_call (ok_law_take T) (hr.mono (by decide)) (by rfl) T.d_law_take.g T.d_law_take.F.kp T.d_law_take.b .nil pass0 (pa_cons (pv 1) (pa_cons pe_int pa_nil))) pe_int (nomark _)) (pss_one (ps_set (i := 3) nd rfl (Or.inl rfl) (pe_op op_add (pe_op op_mul (pe_call (ok_law_pick T) (hr.mono (by decide)) (by rfl) T.d_law_pick.g T.d_law_pick.F.kp T.d_law_pick.b .nil pass0 (pa_cons (pv 1) (pa_cons (pe_lst (pa_cons pe_int (pa_cons pe_int (pa_cons pe_int (pa_cons pe_int (pa_cons pe_int (pa_cons pe_int (pa_cons pe_int (pa_cons pe_int pa_nil))))))))) pa_nil))) pe_int) (pe_call (ok_law_number T) (hr.mono (by decide)) (by rfl) T.d_law_number.g T.d_law_number.F.kp T.d_law_number.b .nil pass0 (pa_cons (pv 1) (pa_cons pe_int (pa_cons pe_int pa_nil))))))) pss_nil)
        (pss_cons (ps_set (i := 4) nd rfl (Or.inl rfl) (pe_op op_fdiv (pv 3) pe_int))
        (pss_cons (ps_if (pt_not (pt_val (pe_call (ok_same T 0) (hr.mono (by decide)) (by rfl) T.d_law_same.g T.d_law_same.F.kp T.d_law_same.b .nil pass0 (pa_cons (pe_call (ok_is_plain T) (hr.mono (by decide)) (by rfl) T.d_is_plain.g T.d_is_plain.F.kp T.d_is_plain.b .nil pass0 (pa_cons (pv 3) pa_nil)) (pa_cons (pe_and (pe_cmpR op_gt (pv 4) pe_int (nomark _)) (pe_and (pe_cmpR op_lt (pv 4) pe_int (nomark _)) (pe_one (pe_cmpR op_ne (pv 4) pe_int (nomark _))))) pa_nil))))) (pss_one (ps_ret pe_bl)) pss_nil)
        (pss_cons (ps_set (i := 5) nd rfl (Or.inl rfl) (pe_call (ok_law_text T) (hr.mono (by decide)) (by rfl) T.d_law_text.g T.d_law_text.F.kp T.d_law_text.b .nil pass0 (pa_cons (pv 3) pa_nil)))
        (pss_cons (ps_set (i := 6) nd rfl (Or.inl rfl) (pe_call (ok_law_bad T) hr (by rfl) T.d_law_bad.g T.d_law_bad.F.kp T.d_law_bad.b .nil pass0 (pa_cons (pv 1) (pa_cons (pv 5) pa_nil))))
        (pss_cons (ps_if (pt_not (pt_val (pe_call (ok_same T 0) (hr.mono (by decide)) (by rfl) T.d_law_same.g T.d_law_same.F.kp T.d_law_same.b .nil pass0 (pa_cons (pe_call (ok_parse_address T) (hr.mono (by decide)) (by rfl) T.d_parse_address.g T.d_parse_address.F.kp T.d_parse_address.b .nil pass0 (pa_cons (pv 6) pa_nil)) (pa_cons (pe_call (ok_law_read T) (hr.mono (by decide)) (by rfl) T.d_law_read.g T.d_law_read.F.kp T.d_law_read.b .nil pass0 (pa_cons (pv 6) pa_nil)) pa_nil))))) (pss_one (ps_ret pe_bl)) pss_nil)
        (pss_cons (ps_if (PW.pt (pw_or (pt_not (pt_val (pe_call (ok_same T 0) (hr.mono (by decide)) (by rfl) T.d_law_same.g T.d_law_same.F.kp T.d_law_same.b .nil pass0 (pa_cons (pe_call (ok_show_address T) hr (by rfl) T.d_show_address.g T.d_show_address.F.kp T.d_show_address.b .nil pass0 (pa_cons (pv 3) pa_nil)) (pa_cons (pv 5) pa_nil))))) (pw_or1 (pt_not (pt_val (pe_call (ok_same T 0) (hr.mono (by decide)) (by rfl) T.d_law_same.g T.d_law_same.F.kp T.d_law_same.b .nil pass0 (pa_cons (pe_call (ok_parse_address T) (hr.mono (by decide)) (by rfl) T.d_parse_address.g T.d_parse_address.F.kp T.d_parse_address.b .nil pass0 (pa_cons (pv 5) pa_nil)) (pa_cons (pv 3) pa_nil)))))))) (pss_one (ps_ret pe_bl)) pss_nil)
        (pss_cons (ps_set (i := 7) nd rfl (Or.inl rfl) (pe_op op_add pe_int (pe_call (ok_law_take T) (hr.mono (by decide)) (by rfl) T.d_law_take.g T.d_law_take.F.kp T.d_law_take.b .nil pass0 (pa_cons (pv 1) (pa_cons pe_int pa_nil)))))
        (pss_cons (ps_set (i := 8) nd rfl (Or.inl rfl) pe_int)
        (pss_cons (ps_for PassesOwn.never rfl (pi_range1 (by rfl) T.b_range (pa_cons (pe_op op_sub pe_int (pv 7)) pa_nil)) (pg_name (i := 9) nd rfl (Or.inl rfl)) (pss_one (ps_set (i := 8) nd rfl (Or.inl rfl) (pe_op op_mul (pv 8) pe_int))))
        (pss_cons (ps_set (i := 10) nd rfl (Or.inl rfl) (pe_op op_mul (pe_op op_fdivW (pv 3) (pv 8)) (pv 8)))
        (pss_one (ps_for PassesOwn.never rfl (pi_list (pe_lst (pa_cons (pv 10) (pa_cons (pe_op op_sub (pe_op op_add (pv 10) (pv 8)) pe_int) (pa_cons (pv 3) (pa_cons (pe_callB (call_max2 rfl) (by rfl) T.b_max (by decide +kernel) (pa_cons pe_int (pa_cons (pe_op op_sub (pv 10) pe_int) pa_nil))) (pa_cons (pe_callB (call_min2 rfl) (by rfl) T.b_min (by decide +kernel) (pa_cons pe_int (pa_cons (pe_op op_add (pv 10) (pv 8)) pa_nil))) (pa_cons (pe_call (ok_law_number T) (hr.mono (by decide)) (by rfl) T.d_law_number.g T.d_law_number.F.kp T.d_law_number.b .nil pass0 (pa_cons (pv 1) (pa_cons pe_int (pa_cons pe_int pa_nil)))) pa_nil)))))))) (pg_name (i := 11) nd rfl (Or.inl rfl)) (pss_one (ps_if (pt_not (pt_val (pe_call (ok_same T 0) (hr.mono (by decide)) (by rfl) T.d_law_same.g T.d_law_same.F.kp T.d_law_same.b .nil pass0 (pa_cons (pe_call (ok_in_prefix T) (hr.mono (by decide)) (by rfl) T.d_in_prefix.g T.d_in_prefix.F.kp T.d_in_prefix.b .nil pass0 (pa_cons (pe_tup (pa_cons (pv 10) (pa_cons (pv 7) pa_nil))) (pa_cons (pv 11) pa_nil))) (pa_cons (pe_cmpR op_eq (pe_op op_fdivW (pv 11) (pv 8)) (pe_op op_fdivW (pv 10) (pv 8)) (nomark _)) pa_nil))))) (pss_one (ps_ret pe_bl)) pss_nil)))))))))))))))))
        (pss_one (ps_ret pe_bl)))), ?_⟩
    refine ⟨_, rfl, a0, ns, rfl, hS, hlen, fun p c H1 hL1 s1 np nc => ?_⟩
    refine ⟨6, rfl, by decide, by decide, for_range (n := 6) (fun i σ H' => ∃ v2 v3 v4 v5 v6 v7 v8 v9 v10 v11 : Option V, σ = [some (.ref a0), some (.ref p), v2, v3, v4, v5, v6, v7, v8, v9, v10, v11] ∧ LS H' p c)
      ⟨_, _, _, _, _, _, _, _, _, _, rfl, hL1⟩ ?_ ?_⟩
    · rintro i σ H2 hi ⟨v2, v3, v4, v5, v6, v7, v8, v9, v10, v11, rfl, hL2⟩
      refine ⟨_, rfl, p, c, 0, 4294967295, rfl, hL2, by decide, fun a H3 b0 b1 hL3 k3 => ?_⟩
      refine gn (nx_go ?_)
      refine seq_if (fun σ' H' => ∃ a : Int, σ' = [some (.ref a0), some (.ref p), some (.int (0 + (i : Int))), some (.int a), v4, v5, v6, v7, v8, v9, v10, v11] ∧ LS H' p c ∧ 0 ≤ a ∧ a ≤ 4294967295) ?rest (fun key => ?_)
      rotate_left
      · refine ⟨_, rfl, p, c, 2, rfl, hL3, by decide, fun r H4 _ _ hL4 k4 => ?_⟩
        refine ⟨rfl, _, rfl, ite2 (fun _ => ?_) (fun _ => ?_)⟩
        · refine rd_pick [0, 1, 126, 127, 128, 223, 224, 255] rfl hL4 (by decide) (by decide) fun f H5 hf hL5 k5 => ?_
          have hfb : 0 ≤ f ∧ f ≤ 255 := by
            simp only [List.mem_cons, List.not_mem_nil, or_false] at hf
            omega
          refine ⟨_, _, rfl, rfl, .inr ⟨by decide, by decide⟩, _, rfl, p, c, 0, 16777215, rfl, hL5, by decide, fun g H6 g0 g1 hL6 k6 => ⟨_, _, rfl, rfl, ?_⟩⟩
          exact key _ _ ⟨f * 16777216 + g, rfl, hL6, by omega, by omega⟩
        · exact key _ _ ⟨a, rfl, hL4, b0, b1⟩
      clear b0 b1
      rintro σ' H4 ⟨a, rfl, hL4, b0, b1⟩
      refine ⟨_, rfl, _, _, rfl, rfl, ⟨by decide, by decide⟩, ?_⟩
      refine gn (nx_go ?_)
      refine seq_if (fun σ' H' => σ' = [some (.ref a0), some (.ref p), some (.int (0 + (i : Int))), some (.int a), some (.int (a / 16777216)), v5, v6, v7, v8, v9, v10, v11] ∧ LS H' p c) ?rest2 (fun key => ?_)
      rotate_left
      · refine ⟨_, rfl, a, rfl, ?_⟩
        have hpl : pl a = if 1 ≤ a / 16777216 then (if a / 16777216 ≤ 223 then !decide (a / 16777216 = 127) else false) else false := rfl
        have d127 : decide (V.int (a / 16777216) = V.int 127) = decide (a / 16777216 = 127) := by
          by_cases z : a / 16777216 = 127
          · rw [decide_eq_true z, decide_eq_true (congrArg V.int z)]
          · rw [decide_eq_false z, decide_eq_false (fun y => z (V.int.inj y))]
        refine ⟨_, rfl, _, _, rfl, rfl, _, rfl, ite2 (fun e => ?_) (fun e => ?_)⟩
        · have e1 : 0 < a / 16777216 := of_decide_eq_true e
          rw [if_pos (by omega)] at hpl
          refine ⟨_, rfl, _, _, rfl, rfl, _, rfl, ite2 (fun e2 => ?_) (fun e2 => ?_)⟩
          · have e3 : a / 16777216 < 224 := of_decide_eq_true e2
            rw [if_pos (by omega), ← d127] at hpl
            refine ⟨_, rfl, rfl, ?_⟩
            exact ⟨_, _, rfl, Sm.eq (congrArg V.bl hpl) rfl, fun H5 s5 => ⟨_, rfl, key _ _ ⟨rfl, hL4.same s5⟩⟩⟩
          · have e3 : ¬ a / 16777216 < 224 := fun z => e2 (decide_eq_true z)
            rw [if_neg (by omega)] at hpl
            exact ⟨_, _, rfl, Sm.eq (congrArg V.bl hpl) rfl, fun H5 s5 => ⟨_, rfl, key _ _ ⟨rfl, hL4.same s5⟩⟩⟩
        · have e1 : ¬ 0 < a / 16777216 := fun z => e (decide_eq_true z)
          rw [if_neg (by omega)] at hpl
          exact ⟨_, _, rfl, Sm.eq (congrArg V.bl hpl) rfl, fun H5 s5 => ⟨_, rfl, key _ _ ⟨rfl, hL4.same s5⟩⟩⟩
      rintro σ' H5 ⟨rfl, hL5⟩
      have tlen := text_len b0 b1
      have tflt := text_ok b0 b1
      have tsp := text_split b0 b1
      have tpf := text_pf b0 b1
      refine ⟨_, rfl, a, rfl, b0, b1, fun H6 s6 => ?_⟩
      generalize hX : Txt.join (Str.ofString ".") (sA a) = X at tlen tflt tsp
      refine ⟨_, rfl, _, rfl, p, c, X, rfl, hL5.same s6, tlen, fun z H7 hz hL7 k7 => ?_⟩
      refine ⟨_, rfl, z, rfl, by omega, fun H8 s8 => ⟨_, rfl, z, rfl, by omega, fun H9 s9 => ⟨_, _, rfl, Sm.flat (pf_flat _), fun Ha sa => ⟨_, rfl, ?_⟩⟩⟩⟩
      refine ⟨_, rfl, a, rfl, b0, b1, fun Hb sb => ⟨_, rfl, _, _, rfl, Sm.eq (congrArg V.str hX) (by rw [hX]; exact tflt), fun Hc sc => ⟨_, rfl, ?_⟩⟩⟩
      refine ⟨_, rfl, X, rfl, by omega, fun Hd sd => ⟨_, rfl, _, _, rfl, Sm.eq (by rw [tsp, tpf]) (by rw [tsp]; exact pf_flat _), fun He se => ⟨_, rfl, ?_⟩⟩⟩
      have hLe := hL7.same (s8.trans (s9.trans (sa.trans (sb.trans (sc.trans (sd.trans se))))))
      refine ⟨_, rfl, p, c, 32, rfl, hLe, by decide, fun r Hf r0 r1 hLf kf => ⟨_, _, rfl, rfl, ?_⟩⟩
      refine ⟨_, rfl, _, _, rfl, rfl, _, rfl, by omega, by omega, ?_⟩
      refine for_range (n := (32 - (1 + r)).toNat) (fun i2 σ' H' => ∃ v9 : Option V, σ' = [some (.ref a0), some (.ref p), some (.int (0 + (i : Int))), some (.int a), some (.int (a / 16777216)), some (.str X), some (.str z), some (.int (1 + r)), some (.int (2 ^ i2)), v9, v10, v11] ∧ H' = Hf)
        ⟨v9, rfl, rfl⟩ ?_ ?_
      · rintro i2 σ' H' hi2 ⟨v9', rfl, rfl⟩
        refine ⟨_, rfl, _, _, rfl, rfl, .inr ⟨by decide, by decide⟩, some (.int (0 + (i2 : Int))), ?_, rfl⟩
        rw [two_pow]
        rfl
      rintro σ' H' ⟨v9', rfl, rfl⟩
      have hS0 : (0 : Int) < 2 ^ (32 - (1 + r)).toNat := pow_pos2 _
      have hSn : (2 : Int) ^ (32 - (1 + r)).toNat = ((2 ^ (32 - (1 + r)).toNat : Nat) : Int) := by rw [Int.natCast_pow]; rfl
      have hSl : (2 ^ (32 - (1 + r)).toNat : Nat) ≤ 2 ^ 31 := Nat.pow_le_pow_right (by decide) (by omega)
      have hwd : ∀ x : Int, CDivW x (2 ^ (32 - (1 + r)).toNat) := fun x => wide_div (b := 40) hS0 (by rw [hSn, Int.natAbs_natCast]; exact Nat.lt_of_le_of_lt hSl (by decide)) (by decide) (by decide)
      have hin : ∀ b o : Int, decide (b / 2 ^ (32 - (1 + r)).toNat = o / 2 ^ (32 - (1 + r)).toNat) = decide (V.int (o / 2 ^ (32 - (1 + r)).toNat) = V.int (b / 2 ^ (32 - (1 + r)).toNat)) := fun b o => by
        by_cases z : b / 2 ^ (32 - (1 + r)).toNat = o / 2 ^ (32 - (1 + r)).toNat
        · rw [decide_eq_true z, decide_eq_true (congrArg V.int z.symm)]
        · rw [decide_eq_false z, decide_eq_false (fun y => z (V.int.inj y).symm)]
      have ha2 : 0 ≤ a / 2 ^ (32 - (1 + r)).toNat ∧ a / 2 ^ (32 - (1 + r)).toNat ≤ 4294967295 := ⟨Int.ediv_nonneg b0 (Int.le_of_lt hS0), Int.le_trans (Int.ediv_le_self _ b0) b1⟩
      generalize hS : (2 : Int) ^ (32 - (1 + r)).toNat = S at hwd ha2 hin
      refine ⟨_, rfl, _, rfl, _, _, rfl, rfl, hwd a, _, rfl, _, _, rfl, rfl, .inl ⟨by omega, by omega⟩, ?_⟩
      refine ⟨_, rfl, _, rfl, _, rfl, _, _, rfl, rfl, _, _, rfl, rfl, _, rfl, _, rfl, _, _, rfl, rfl, _, _, rfl, _, rfl, _, rfl, _, _, rfl, rfl, _, _, rfl, ?_⟩
      refine ⟨_, rfl, p, c, 0, 4294967295, rfl, hLf, by decide, fun w2 Hg _ _ hLg kg => ⟨by show 6 ≤ sizeLine; decide, fun L nL => ?_⟩⟩
      have g1 : (upd Hg L (.lst (([(a / S * S), (a / S * S) + S - 1, a, if (a / S * S) - 1 > 0 then (a / S * S) - 1 else 0, if (a / S * S) + S < 4294967295 then (a / S * S) + S else 4294967295, w2] : List Int).map V.int))) L = some (.lst (([(a / S * S), (a / S * S) + S - 1, a, if (a / S * S) - 1 > 0 then (a / S * S) - 1 else 0, if (a / S * S) + S < 4294967295 then (a / S * S) + S else 4294967295, w2] : List Int).map V.int)) := upd_same
      have hLh : LS (upd Hg L (.lst (([(a / S * S), (a / S * S) + S - 1, a, if (a / S * S) - 1 > 0 then (a / S * S) - 1 else 0, if (a / S * S) + S < 4294967295 then (a / S * S) + S else 4294967295, w2] : List Int).map V.int))) p c := hLg.new nL
      refine ⟨L, rfl, ⟨_, SqL.of g1⟩, for_list (K := K) (a := L) (xs := ([(a / S * S), (a / S * S) + S - 1, a, if (a / S * S) - 1 > 0 then (a / S * S) - 1 else 0, if (a / S * S) + S < 4294967295 then (a / S * S) + S else 4294967295, w2] : List Int).map V.int) (fun i2 σ' H' => ∃ v11 : Option V, σ' = [some (.ref a0), some (.ref p), some (.int (0 + (i : Int))), some (.int a), some (.int (a / 16777216)), some (.str X), some (.str z), some (.int (1 + r)), some (.int S), v9', some (.int (a / S * S)), v11] ∧ Same (upd Hg L (.lst (([(a / S * S), (a / S * S) + S - 1, a, if (a / S * S) - 1 > 0 then (a / S * S) - 1 else 0, if (a / S * S) + S < 4294967295 then (a / S * S) + S else 4294967295, w2] : List Int).map V.int))) H')
        ⟨v11, ?_, Same.refl _⟩ (fun _ _ _ _ ⟨_, _, z⟩ => SqL.of (z _ _ g1)) ?_ ?_⟩
      · rfl
      · rintro i2 x σ' H' hx ⟨v11', rfl, s'⟩
        obtain ⟨o, ho, rfl⟩ := at_int hx
        refine ⟨_, rfl, _, rfl, by show 2 ≤ sizeLine; decide, fun t nt => ?_⟩
        have s2 := same_upd (o := .tup [.int (a / S * S), .int (1 + r)]) nt
        refine ⟨_, rfl, t, (a / S * S), 1 + r, o, rfl, SqT.of upd_same, by omega, by omega, ?_⟩
        rw [hS]
        refine ⟨_, rfl, _, rfl, _, _, rfl, rfl, hwd o, _, rfl, _, rfl, _, _, rfl, rfl, hwd (a / S * S), rfl, ?_⟩
        exact ⟨_, _, rfl, Sm.eq (congrArg V.bl (hin (a / S * S) o)) rfl, fun H4 s4 => ⟨_, rfl, ⟨_, rfl, s'.trans (s2.trans s4)⟩⟩⟩
      · rintro σ' H' ⟨v11', rfl, s'⟩
        exact ⟨_, _, _, _, _, _, _, _, _, _, rfl, hLh.same s'⟩
    · rintro σ H2 ⟨v2, v3, v4, v5, v6, v7, v8, v9, v10, v11, rfl, hL2⟩
      exact q _
end
theorem all_mk {l : PySem.W.OpenLaw} {w : World} {K : PySem.W.Frag} {h : Heap} {mg : Str → Option Value} {fa f0 f1 f2 f3 f4 f5 f6 f7 f8 f9 f10 f11 f12 f13 f14 f15 f16 : Addr} (X : K.In h) (G : h.Ns mainGlobals mg) (hfa : mg "law" = some (.ref fa))
    {od0 an0 od1 an1 od2 an2 od3 an3 od4 an4 od5 an5 od6 an6 od7 an7 od8 an8 od9 an9 od10 an10 od11 an11 od12 an12 od13 an13 od14 an14 od15 an15 od16 an16 : Option Addr} {sl0 sl1 sl2 sl3 sl4 sl5 sl6 sl7 sl8 sl9 sl10 sl11 sl12 sl13 sl14 sl15 sl16 : Array (Option Value)} {oc0 kV0 dc0 pm0 cd0 ct0 oc1 kV1 dc1 pm1 cd1 ct1 oc2 kV2 dc2 pm2 cd2 ct2 oc3 kV3 dc3 pm3 cd3 ct3 oc4 kV4 dc4 pm4 cd4 ct4 oc5 kV5 dc5 pm5 cd5 ct5 oc6 kV6 dc6 pm6 cd6 ct6 oc7 kV7 dc7 pm7 cd7 ct7 oc8 kV8 dc8 pm8 cd8 ct8 oc9 kV9 dc9 pm9 cd9 ct9 oc10 kV10 dc10 pm10 cd10 ct10 oc11 kV11 dc11 pm11 cd11 ct11 oc12 kV12 dc12 pm12 cd12 ct12 oc13 kV13 dc13 pm13 cd13 ct13 oc14 kV14 dc14 pm14 cd14 ct14 oc15 kV15 dc15 pm15 cd15 ct15 oc16 kV16 dc16 pm16 cd16 ct16 : Value} 
    (a0 : PySem.W.nsIn K mainGlobals "two" = some (some (.ref f0))) (l0 : K.lookup f0 = some ⟨oc0, od0, .func (PySem.W.fnOf "two" "two" (defArgs s_two) (defBody s_two) (defScope s_two) .none kV0 dc0 pm0 an0 cd0 ct0), sl0⟩) (c0 : PySem.W.codeIn K cd0 "two" = true) (k0 : PySem.W.keepIn K (.ref f0) = true)
    (a1 : PySem.W.nsIn K mainGlobals "four" = some (some (.ref f1))) (l1 : K.lookup f1 = some ⟨oc1, od1, .func (PySem.W.fnOf "four" "four" (defArgs s_four) (defBody s_four) (defScope s_four) .none kV1 dc1 pm1 an1 cd1 ct1), sl1⟩) (c1 : PySem.W.codeIn K cd1 "four" = true) (k1 : PySem.W.keepIn K (.ref f1) = true)
    (a2 : PySem.W.nsIn K mainGlobals "number_of" = some (some (.ref f2))) (l2 : K.lookup f2 = some ⟨oc2, od2, .func (PySem.W.fnOf "number_of" "number_of" (defArgs s_number_of) (defBody s_number_of) (defScope s_number_of) .none kV2 dc2 pm2 an2 cd2 ct2), sl2⟩) (c2 : PySem.W.codeIn K cd2 "number_of" = true) (k2 : PySem.W.keepIn K (.ref f2) = true)
    (a3 : PySem.W.nsIn K mainGlobals "is_plain" = some (some (.ref f3))) (l3 : K.lookup f3 = some ⟨oc3, od3, .func (PySem.W.fnOf "is_plain" "is_plain" (defArgs s_is_plain) (defBody s_is_plain) (defScope s_is_plain) .none kV3 dc3 pm3 an3 cd3 ct3), sl3⟩) (c3 : PySem.W.codeIn K cd3 "is_plain" = true) (k3 : PySem.W.keepIn K (.ref f3) = true)
    (a4 : PySem.W.nsIn K mainGlobals "show_address" = some (some (.ref f4))) (l4 : K.lookup f4 = some ⟨oc4, od4, .func (PySem.W.fnOf "show_address" "show_address" (defArgs s_show_address) (defBody s_show_address) (defScope s_show_address) .none kV4 dc4 pm4 an4 cd4 ct4), sl4⟩) (c4 : PySem.W.codeIn K cd4 "show_address" = true) (k4 : PySem.W.keepIn K (.ref f4) = true)
    (a5 : PySem.W.nsIn K mainGlobals "parse_address" = some (some (.ref f5))) (l5 : K.lookup f5 = some ⟨oc5, od5, .func (PySem.W.fnOf "parse_address" "parse_address" (defArgs s_parse_address) (defBody s_parse_address) (defScope s_parse_address) .none kV5 dc5 pm5 an5 cd5 ct5), sl5⟩) (c5 : PySem.W.codeIn K cd5 "parse_address" = true) (k5 : PySem.W.keepIn K (.ref f5) = true)
    (a6 : PySem.W.nsIn K mainGlobals "_octet_of" = some (some (.ref f6))) (l6 : K.lookup f6 = some ⟨oc6, od6, .func (PySem.W.fnOf "_octet_of" "_octet_of" (defArgs s_octet_of) (defBody s_octet_of) (defScope s_octet_of) .none kV6 dc6 pm6 an6 cd6 ct6), sl6⟩) (c6 : PySem.W.codeIn K cd6 "_octet_of" = true) (k6 : PySem.W.keepIn K (.ref f6) = true)
    (a7 : PySem.W.nsIn K mainGlobals "in_prefix" = some (some (.ref f7))) (l7 : K.lookup f7 = some ⟨oc7, od7, .func (PySem.W.fnOf "in_prefix" "in_prefix" (defArgs s_in_prefix) (defBody s_in_prefix) (defScope s_in_prefix) .none kV7 dc7 pm7 an7 cd7 ct7), sl7⟩) (c7 : PySem.W.codeIn K cd7 "in_prefix" = true) (k7 : PySem.W.keepIn K (.ref f7) = true)
    (a8 : PySem.W.nsIn K mainGlobals "_law_state" = some (some (.ref f8))) (l8 : K.lookup f8 = some ⟨oc8, od8, .func (PySem.W.fnOf "_law_state" "_law_state" (defArgs s_law_state) (defBody s_law_state) (defScope s_law_state) .none kV8 dc8 pm8 an8 cd8 ct8), sl8⟩) (c8 : PySem.W.codeIn K cd8 "_law_state" = true) (k8 : PySem.W.keepIn K (.ref f8) = true)
    (a9 : PySem.W.nsIn K mainGlobals "_law_take" = some (some (.ref f9))) (l9 : K.lookup f9 = some ⟨oc9, od9, .func (PySem.W.fnOf "_law_take" "_law_take" (defArgs s_law_take) (defBody s_law_take) (defScope s_law_take) .none kV9 dc9 pm9 an9 cd9 ct9), sl9⟩) (c9 : PySem.W.codeIn K cd9 "_law_take" = true) (k9 : PySem.W.keepIn K (.ref f9) = true)
    (a10 : PySem.W.nsIn K mainGlobals "_law_pick" = some (some (.ref f10))) (l10 : K.lookup f10 = some ⟨oc10, od10, .func (PySem.W.fnOf "_law_pick" "_law_pick" (defArgs s_law_pick) (defBody s_law_pick) (defScope s_law_pick) .none kV10 dc10 pm10 an10 cd10 ct10), sl10⟩) (c10 : PySem.W.codeIn K cd10 "_law_pick" = true) (k10 : PySem.W.keepIn K (.ref f10) = true)
    (a11 : PySem.W.nsIn K mainGlobals "_law_same" = some (some (.ref f11))) (l11 : K.lookup f11 = some ⟨oc11, od11, .func (PySem.W.fnOf "_law_same" "_law_same" (defArgs s_law_same) (defBody s_law_same) (defScope s_law_same) .none kV11 dc11 pm11 an11 cd11 ct11), sl11⟩) (c11 : PySem.W.codeIn K cd11 "_law_same" = true) (k11 : PySem.W.keepIn K (.ref f11) = true)
    (a12 : PySem.W.nsIn K mainGlobals "_law_number" = some (some (.ref f12))) (l12 : K.lookup f12 = some ⟨oc12, od12, .func (PySem.W.fnOf "_law_number" "_law_number" (defArgs s_law_number) (defBody s_law_number) (defScope s_law_number) .none kV12 dc12 pm12 an12 cd12 ct12), sl12⟩) (c12 : PySem.W.codeIn K cd12 "_law_number" = true) (k12 : PySem.W.keepIn K (.ref f12) = true)
    (a13 : PySem.W.nsIn K mainGlobals "_law_text" = some (some (.ref f13))) (l13 : K.lookup f13 = some ⟨oc13, od13, .func (PySem.W.fnOf "_law_text" "_law_text" (defArgs s_law_text) (defBody s_law_text) (defScope s_law_text) .none kV13 dc13 pm13 an13 cd13 ct13), sl13⟩) (c13 : PySem.W.codeIn K cd13 "_law_text" = true) (k13 : PySem.W.keepIn K (.ref f13) = true)
    (a14 : PySem.W.nsIn K mainGlobals "_law_read" = some (some (.ref f14))) (l14 : K.lookup f14 = some ⟨oc14, od14, .func (PySem.W.fnOf "_law_read" "_law_read" (defArgs s_law_read) (defBody s_law_read) (defScope s_law_read) .none kV14 dc14 pm14 an14 cd14 ct14), sl14⟩) (c14 : PySem.W.codeIn K cd14 "_law_read" = true) (k14 : PySem.W.keepIn K (.ref f14) = true)
    (a15 : PySem.W.nsIn K mainGlobals "_law_bad" = some (some (.ref f15))) (l15 : K.lookup f15 = some ⟨oc15, od15, .func (PySem.W.fnOf "_law_bad" "_law_bad" (defArgs s_law_bad) (defBody s_law_bad) (defScope s_law_bad) .none kV15 dc15 pm15 an15 cd15 ct15), sl15⟩) (c15 : PySem.W.codeIn K cd15 "_law_bad" = true) (k15 : PySem.W.keepIn K (.ref f15) = true)
    (a16 : PySem.W.nsIn K mainGlobals "law" = some (some (.ref f16))) (l16 : K.lookup f16 = some ⟨oc16, od16, .func (PySem.W.fnOf "law" "law" (defArgs s_law) (defBody s_law) (defScope s_law) .none kV16 dc16 pm16 an16 cd16 ct16), sl16⟩) (c16 : PySem.W.codeIn K cd16 "law" = true) (k16 : PySem.W.keepIn K (.ref f16) = true)
    (z_str : PySem.W.nsIn K mainGlobals "str" = some none)
    (z_len : PySem.W.nsIn K mainGlobals "len" = some none)
    (z_int : PySem.W.nsIn K mainGlobals "int" = some none)
    (z_max : PySem.W.nsIn K mainGlobals "max" = some none)
    (z_abs : PySem.W.nsIn K mainGlobals "abs" = some none)
    (z_isinstance : PySem.W.nsIn K mainGlobals "isinstance" = some none)
    (z_dict : PySem.W.nsIn K mainGlobals "dict" = some none)
    (z_all : PySem.W.nsIn K mainGlobals "all" = some none)
    (z_bool : PySem.W.nsIn K mainGlobals "bool" = some none)
    (z_tuple : PySem.W.nsIn K mainGlobals "tuple" = some none)
    (z_list : PySem.W.nsIn K mainGlobals "list" = some none)
    (z_range : PySem.W.nsIn K mainGlobals "range" = some none)
    (z_min : PySem.W.nsIn K mainGlobals "min" = some none)
    : ∃ fd : FuncData, (∀ (s : Shared) (v : Value), BindsTo s fd ⟨[v], []⟩ [("script", v)]) ∧ ∀ base : Heap, K.In base → base.Ns mainGlobals mg → FnOk l.prog w K mg base CX0 4 fa fd ["script"] (spLaw K) := by
  have e := hfa.symm.trans (PySem.W.mg_of X G a16)
  cases e
  have F0 := fun_mk (st := s_two) l0 c0 k0
  have b0 := F0.binds (ps := ["number"]) fun _ _ _ _ _ _ us hl => match us, hl with | [_], _ => rfl
  have F1 := fun_mk (st := s_four) l1 c1 k1
  have b1 := F1.binds (ps := ["number"]) fun _ _ _ _ _ _ us hl => match us, hl with | [_], _ => rfl
  have F2 := fun_mk (st := s_number_of) l2 c2 k2
  have b2 := F2.binds (ps := ["octets"]) fun _ _ _ _ _ _ us hl => match us, hl with | [_], _ => rfl
  have F3 := fun_mk (st := s_is_plain) l3 c3 k3
  have b3 := F3.binds (ps := ["address"]) fun _ _ _ _ _ _ us hl => match us, hl with | [_], _ => rfl
  have F4 := fun_mk (st := s_show_address) l4 c4 k4
  have b4 := F4.binds (ps := ["address"]) fun _ _ _ _ _ _ us hl => match us, hl with | [_], _ => rfl
  have F5 := fun_mk (st := s_parse_address) l5 c5 k5
  have b5 := F5.binds (ps := ["text"]) fun _ _ _ _ _ _ us hl => match us, hl with | [_], _ => rfl
  have F6 := fun_mk (st := s_octet_of) l6 c6 k6
  have b6 := F6.binds (ps := ["word"]) fun _ _ _ _ _ _ us hl => match us, hl with | [_], _ => rfl
  have F7 := fun_mk (st := s_in_prefix) l7 c7 k7
  have b7 := F7.binds (ps := ["prefix", "address"]) fun _ _ _ _ _ _ us hl => match us, hl with | [_, _], _ => rfl
  have F8 := fun_mk (st := s_law_state) l8 c8 k8
  have b8 := F8.binds (ps := ["script"]) fun _ _ _ _ _ _ us hl => match us, hl with | [_], _ => rfl
  have F9 := fun_mk (st := s_law_take) l9 c9 k9
  have b9 := F9.binds (ps := ["state", "most"]) fun _ _ _ _ _ _ us hl => match us, hl with | [_, _], _ => rfl
  have F10 := fun_mk (st := s_law_pick) l10 c10 k10
  have b10 := F10.binds (ps := ["state", "row"]) fun _ _ _ _ _ _ us hl => match us, hl with | [_, _], _ => rfl
  have F11 := fun_mk (st := s_law_same) l11 c11 k11
  have b11 := F11.binds (ps := ["told", "due"]) fun _ _ _ _ _ _ us hl => match us, hl with | [_, _], _ => rfl
  have F12 := fun_mk (st := s_law_number) l12 c12 k12
  have b12 := F12.binds (ps := ["state", "low", "high"]) fun _ _ _ _ _ _ us hl => match us, hl with | [_, _, _], _ => rfl
  have F13 := fun_mk (st := s_law_text) l13 c13 k13
  have b13 := F13.binds (ps := ["address"]) fun _ _ _ _ _ _ us hl => match us, hl with | [_], _ => rfl
  have F14 := fun_mk (st := s_law_read) l14 c14 k14
  have b14 := F14.binds (ps := ["text"]) fun _ _ _ _ _ _ us hl => match us, hl with | [_], _ => rfl
  have F15 := fun_mk (st := s_law_bad) l15 c15 k15
  have b15 := F15.binds (ps := ["state", "text"]) fun _ _ _ _ _ _ us hl => match us, hl with | [_, _], _ => rfl
  have F16 := fun_mk (st := s_law) l16 c16 k16
  have b16 := F16.binds (ps := ["script"]) fun _ _ _ _ _ _ us hl => match us, hl with | [_], _ => rfl
  let T : Tx K mg := { ad_two := _, fd_two := _, d_two := ⟨F0, b0, PySem.W.mg_of X G a0⟩, ad_four := _, fd_four := _, d_four := ⟨F1, b1, PySem.W.mg_of X G a1⟩, ad_number_of := _, fd_number_of := _, d_number_of := ⟨F2, b2, PySem.W.mg_of X G a2⟩, ad_is_plain := _, fd_is_plain := _, d_is_plain := ⟨F3, b3, PySem.W.mg_of X G a3⟩, ad_show_address := _, fd_show_address := _, d_show_address := ⟨F4, b4, PySem.W.mg_of X G a4⟩, ad_parse_address := _, fd_parse_address := _, d_parse_address := ⟨F5, b5, PySem.W.mg_of X G a5⟩, ad_octet_of := _, fd_octet_of := _, d_octet_of := ⟨F6, b6, PySem.W.mg_of X G a6⟩, ad_in_prefix := _, fd_in_prefix := _, d_in_prefix := ⟨F7, b7, PySem.W.mg_of X G a7⟩, ad_law_state := _, fd_law_state := _, d_law_state := ⟨F8, b8, PySem.W.mg_of X G a8⟩, ad_law_take := _, fd_law_take := _, d_law_take := ⟨F9, b9, PySem.W.mg_of X G a9⟩, ad_law_pick := _, fd_law_pick := _, d_law_pick := ⟨F10, b10, PySem.W.mg_of X G a10⟩, ad_law_same := _, fd_law_same := _, d_law_same := ⟨F11, b11, PySem.W.mg_of X G a11⟩, ad_law_number := _, fd_law_number := _, d_law_number := ⟨F12, b12, PySem.W.mg_of X G a12⟩, ad_law_text := _, fd_law_text := _, d_law_text := ⟨F13, b13, PySem.W.mg_of X G a13⟩, ad_law_read := _, fd_law_read := _, d_law_read := ⟨F14, b14, PySem.W.mg_of X G a14⟩, ad_law_bad := _, fd_law_bad := _, d_law_bad := ⟨F15, b15, PySem.W.mg_of X G a15⟩, ad_law := _, fd_law := _, d_law := ⟨F16, b16, PySem.W.mg_of X G a16⟩, b_str := PySem.W.mg_none_of X G z_str, b_len := PySem.W.mg_none_of X G z_len, b_int := PySem.W.mg_none_of X G z_int, b_max := PySem.W.mg_none_of X G z_max, b_abs := PySem.W.mg_none_of X G z_abs, b_isinstance := PySem.W.mg_none_of X G z_isinstance, b_dict := PySem.W.mg_none_of X G z_dict, b_all := PySem.W.mg_none_of X G z_all, b_bool := PySem.W.mg_none_of X G z_bool, b_tuple := PySem.W.mg_none_of X G z_tuple, b_list := PySem.W.mg_none_of X G z_list, b_range := PySem.W.mg_none_of X G z_range, b_min := PySem.W.mg_none_of X G z_min }
  exact ⟨T.fd_law, fun s v => .of_eq rfl, fun base _ _ => ok_law T⟩
theorem walk {l : PySem.W.OpenLaw} {q : Program} {loose : List Str} {XP : (Str → Option Value) → Heap → Prop} {YP : World → Heap → Prop} {d : DefRec} {K : Params → PySem.W.Frag} (hn : l.most = some 63) (hdf : d.params.defaults = [])
    (hY : ∀ (w : World) (h : Heap), YP w h → (K w.params).In h)
    (F : ∀ (w : World) (mg : Str → Option Value) (fa : Addr) (h : Heap), (K w.params).In h → h.Ns mainGlobals mg → mg d.name = some (.ref fa) →
      ∃ fd : FuncData, (∀ (s : Shared) (u : Value), BindsTo s fd ⟨[u], []⟩ [("script", u)]) ∧ ∀ base : Heap, (K w.params).In base → base.Ns mainGlobals mg → FnOk l.prog w (K w.params) mg base CX0 4 fa fd ["script"] (spLaw (K w.params))) :
    PySem.W.WalkO q loose XP YP l.row.toRowW d [] (fun f vs => PySem.call f vs) :=
  L2.walk_of (n := 63) (k := 4) (x := "script") (CX := fun _ => CX0) (sp := fun w => spLaw (K w.params)) hn (by decide) hdf ⟨rfl, by decide, by decide⟩ hY F (fun _ _ a ns hl _ hS => ⟨a, ns, rfl, hS, hl, fun _ => rfl⟩) fun _ _ _ _ _ z => z
end Toy
open PySem PySem.W PyProof.Rows
set_option maxRecDepth 100000 in
set_option maxHeartbeats 0 in
theorem PySem.Challenge.cw_onepolicy_k07_addresses_and_prefixes_holds : PySem.Challenge.rw_onepolicy_k07_addresses_and_prefixes.Holds := by
  w_on; o_law; k_head; (case hw => w_witness2)
  k_fill
  refine Toy.walk (l := PySem.Challenge.rw_onepolicy_k07_addresses_and_prefixes) rfl rfl (fun w h Y => PySem.W.kIn_of Y) ?F
  case F =>
    intro w mg fa h KX G hmg
    refine' Toy.all_mk KX G hmg ?a0 ?l0 ?c0 ?k0 ?a1 ?l1 ?c1 ?k1 ?a2 ?l2 ?c2 ?k2 ?a3 ?l3 ?c3 ?k3 ?a4 ?l4 ?c4 ?k4 ?a5 ?l5 ?c5 ?k5 ?a6 ?l6 ?c6 ?k6 ?a7 ?l7 ?c7 ?k7 ?a8 ?l8 ?c8 ?k8 ?a9 ?l9 ?c9 ?k9 ?a10 ?l10 ?c10 ?k10 ?a11 ?l11 ?c11 ?k11 ?a12 ?l12 ?c12 ?k12 ?a13 ?l13 ?c13 ?k13 ?a14 ?l14 ?c14 ?k14 ?a15 ?l15 ?c15 ?k15 ?a16 ?l16 ?c16 ?k16 ?z_str ?z_len ?z_int ?z_max ?z_abs ?z_isinstance ?z_dict ?z_all ?z_bool ?z_tuple ?z_list ?z_range ?z_min
    (case a0 => k_is)
    (case l0 => k_is)
    (case c0 => k_is)
    (case k0 => k_is)
    (case a1 => k_is)
    (case l1 => k_is)
    (case c1 => k_is)
    (case k1 => k_is)
    (case a2 => k_is)
    (case l2 => k_is)
    (case c2 => k_is)
    (case k2 => k_is)
    (case a3 => k_is)
    (case l3 => k_is)
    (case c3 => k_is)
    (case k3 => k_is)
    (case a4 => k_is)
    (case l4 => k_is)
    (case c4 => k_is)
    (case k4 => k_is)
    (case a5 => k_is)
    (case l5 => k_is)
    (case c5 => k_is)
    (case k5 => k_is)
    (case a6 => k_is)
    (case l6 => k_is)
    (case c6 => k_is)
    (case k6 => k_is)
    (case a7 => k_is)
    (case l7 => k_is)
    (case c7 => k_is)
    (case k7 => k_is)
    (case a8 => k_is)
    (case l8 => k_is)
    (case c8 => k_is)
    (case k8 => k_is)
    (case a9 => k_is)
    (case l9 => k_is)
    (case c9 => k_is)
    (case k9 => k_is)
    (case a10 => k_is)
    (case l10 => k_is)
    (case c10 => k_is)
    (case k10 => k_is)
    (case a11 => k_is)
    (case l11 => k_is)
    (case c11 => k_is)
    (case k11 => k_is)
    (case a12 => k_is)
    (case l12 => k_is)
    (case c12 => k_is)
    (case k12 => k_is)
    (case a13 => k_is)
    (case l13 => k_is)
    (case c13 => k_is)
    (case k13 => k_is)
    (case a14 => k_is)
    (case l14 => k_is)
    (case c14 => k_is)
    (case k14 => k_is)
    (case a15 => k_is)
    (case l15 => k_is)
    (case c15 => k_is)
    (case k15 => k_is)
    (case a16 => k_is)
    (case l16 => k_is)
    (case c16 => k_is)
    (case k16 => k_is)
    (case z_str => k_is)
    (case z_len => k_is)
    (case z_int => k_is)
    (case z_max => k_is)
    (case z_abs => k_is)
    (case z_isinstance => k_is)
    (case z_dict => k_is)
    (case z_all => k_is)
    (case z_bool => k_is)
    (case z_tuple => k_is)
    (case z_list => k_is)
    (case z_range => k_is)
    (case z_min => k_is)
