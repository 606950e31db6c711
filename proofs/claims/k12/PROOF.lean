import PyProof.Rows.All
import Wide.All
import OpenK.AllK
import Wide.FinOn
import HandS.Base
import HandS.Call
import HandS.List
import HandS.Comp
import HandS.Ends
import HandS.Words
import HandS.WordsList
import HandS.IsInst
import HandS.TupMul
import HandS.Wide
import HandS.TupAny
import PySem.Challenge.RW_onepolicy_k12_ways_and_moved_packets
set_option Elab.async false
set_option linter.all false
set_option maxRecDepth 100000
set_option maxHeartbeats 4000000
namespace Toy
open PySem PySem.Spec PyProof.Rows L2
def topS (i : Nat) : Stmt := PySem.Challenge.pw_onepolicy_k12_ways_and_moved_packets.main.body.getD i (.Pass ⟨0, 0, 0, 0⟩)
abbrev s_moved_sum : Stmt := topS 1
abbrev Ns_moved_sum : List Str := ["number", "olds", "news", "rest"]
theorem x_moved_sum : FnScope Ns_moved_sum ["number", "olds", "news"] (defScope s_moved_sum) := ⟨rfl, rfl, rfl, by decide +kernel, rfl, by decide +kernel, by decide +kernel⟩
abbrev s_way_of : Stmt := topS 3
abbrev Ns_way_of : List Str := ["packet", "body"]
theorem x_way_of : FnScope Ns_way_of ["packet"] (defScope s_way_of) := ⟨rfl, rfl, rfl, by decide +kernel, rfl, by decide +kernel, by decide +kernel⟩
abbrev s_way_of_stub : Stmt := topS 4
abbrev Ns_way_of_stub : List Str := ["stub"]
theorem x_way_of_stub : FnScope Ns_way_of_stub ["stub"] (defScope s_way_of_stub) := ⟨rfl, rfl, rfl, by decide +kernel, rfl, by decide +kernel, by decide +kernel⟩
abbrev s_way_between : Stmt := topS 5
abbrev Ns_way_between : List Str := ["source", "target", "part"]
theorem x_way_between : FnScope Ns_way_between ["source", "target", "part"] (defScope s_way_between) := ⟨rfl, rfl, rfl, by decide +kernel, rfl, by decide +kernel, by decide +kernel⟩
abbrev s_turned : Stmt := topS 6
abbrev Ns_turned : List Str := ["way", "kind", "source", "source_port", "target", "target_port"]
theorem x_turned : FnScope Ns_turned ["way"] (defScope s_turned) := ⟨rfl, rfl, rfl, by decide +kernel, rfl, by decide +kernel, by decide +kernel⟩
abbrev s_moved : Stmt := topS 7
abbrev Ns_moved : List Str := ["packet", "way", "body"]
theorem x_moved : FnScope Ns_moved ["packet", "way"] (defScope s_moved) := ⟨rfl, rfl, rfl, by decide +kernel, rfl, by decide +kernel, by decide +kernel⟩
abbrev s_moved_stub : Stmt := topS 8
abbrev Ns_moved_stub : List Str := ["stub", "way", "part", "rest", "ident"]
theorem x_moved_stub : FnScope Ns_moved_stub ["stub", "way"] (defScope s_moved_stub) := ⟨rfl, rfl, rfl, by decide +kernel, rfl, by decide +kernel, by decide +kernel⟩
abbrev s_named : Stmt := topS 9
abbrev Ns_named : List Str := ["part", "way", "_", "source", "source_port", "target", "target_port"]
theorem x_named : FnScope Ns_named ["part", "way"] (defScope s_named) := ⟨rfl, rfl, rfl, by decide +kernel, rfl, by decide +kernel, by decide +kernel⟩
abbrev s_moved_udp_sum : Stmt := topS 10
abbrev Ns_moved_udp_sum : List Str := ["stub", "way", "total", "found"]
theorem x_moved_udp_sum : FnScope Ns_moved_udp_sum ["stub", "way"] (defScope s_moved_udp_sum) := ⟨rfl, rfl, rfl, by decide +kernel, rfl, by decide +kernel, by decide +kernel⟩
abbrev s_pairs_of_way : Stmt := topS 11
abbrev Ns_pairs_of_way : List Str := ["way", "_", "source", "source_port", "target", "target_port"]
theorem x_pairs_of_way : FnScope Ns_pairs_of_way ["way"] (defScope s_pairs_of_way) := ⟨rfl, rfl, rfl, by decide +kernel, rfl, by decide +kernel, by decide +kernel⟩
abbrev s_law_state : Stmt := topS 13
abbrev Ns_law_state : List Str := ["script", "cells", "cell"]
theorem x_law_state : FnScope Ns_law_state ["script"] (defScope s_law_state) := ⟨rfl, rfl, rfl, by decide +kernel, rfl, by decide +kernel, by decide +kernel⟩
abbrev s_law_take : Stmt := topS 14
abbrev Ns_law_take : List Str := ["state", "most", "cells", "at", "cell", "mixed"]
theorem x_law_take : FnScope Ns_law_take ["state", "most"] (defScope s_law_take) := ⟨rfl, rfl, rfl, by decide +kernel, rfl, by decide +kernel, by decide +kernel⟩
abbrev s_law_pick : Stmt := topS 15
abbrev Ns_law_pick : List Str := ["state", "row"]
theorem x_law_pick : FnScope Ns_law_pick ["state", "row"] (defScope s_law_pick) := ⟨rfl, rfl, rfl, by decide +kernel, rfl, by decide +kernel, by decide +kernel⟩
abbrev s_law_same : Stmt := topS 16
abbrev Ns_law_same : List Str := ["told", "due", "key", "k"]
theorem x_law_same : FnScope Ns_law_same ["told", "due"] (defScope s_law_same) := ⟨rfl, rfl, rfl, by decide +kernel, rfl, by decide +kernel, by decide +kernel⟩
abbrev s_law_two : Stmt := topS 17
abbrev Ns_law_two : List Str := ["number"]
theorem x_law_two : FnScope Ns_law_two ["number"] (defScope s_law_two) := ⟨rfl, rfl, rfl, by decide +kernel, rfl, by decide +kernel, by decide +kernel⟩
abbrev s_law_four : Stmt := topS 18
abbrev Ns_law_four : List Str := ["number"]
theorem x_law_four : FnScope Ns_law_four ["number"] (defScope s_law_four) := ⟨rfl, rfl, rfl, by decide +kernel, rfl, by decide +kernel, by decide +kernel⟩
abbrev s_law_sum : Stmt := topS 19
abbrev Ns_law_sum : List Str := ["octets", "total", "k", "turn"]
theorem x_law_sum : FnScope Ns_law_sum ["octets"] (defScope s_law_sum) := ⟨rfl, rfl, rfl, by decide +kernel, rfl, by decide +kernel, by decide +kernel⟩
abbrev s_law_header : Stmt := topS 20
abbrev Ns_law_header : List Str := ["fields", "size", "protocol", "source", "target", "hops", "name", "service", "whole", "first", "last"]
theorem x_law_header : FnScope Ns_law_header ["fields", "size", "protocol"] (defScope s_law_header) := ⟨rfl, rfl, rfl, by decide +kernel, rfl, by decide +kernel, by decide +kernel⟩
abbrev s_law_body : Stmt := topS 21
abbrev Ns_law_body : List Str := ["source", "target", "body", "first", "last", "front", "size", "due"]
theorem x_law_body : FnScope Ns_law_body ["source", "target", "body"] (defScope s_law_body) := ⟨rfl, rfl, rfl, by decide +kernel, rfl, by decide +kernel, by decide +kernel⟩
abbrev s_law_stub_octets : Stmt := topS 22
abbrev Ns_law_stub_octets : List Str := ["stub", "size", "part", "last"]
theorem x_law_stub_octets : FnScope Ns_law_stub_octets ["stub"] (defScope s_law_stub_octets) := ⟨rfl, rfl, rfl, by decide +kernel, rfl, by decide +kernel, by decide +kernel⟩
abbrev s_law_octets : Stmt := topS 23
abbrev Ns_law_octets : List Str := ["packet", "body", "first", "last", "octets", "protocol"]
theorem x_law_octets : FnScope Ns_law_octets ["packet"] (defScope s_law_octets) := ⟨rfl, rfl, rfl, by decide +kernel, rfl, by decide +kernel, by decide +kernel⟩
abbrev s_law_number : Stmt := topS 24
abbrev Ns_law_number : List Str := ["state", "low", "high", "kind", "span"]
theorem x_law_number : FnScope Ns_law_number ["state", "low", "high"] (defScope s_law_number) := ⟨rfl, rfl, rfl, by decide +kernel, rfl, by decide +kernel, by decide +kernel⟩
abbrev s_law_plain : Stmt := topS 25
abbrev Ns_law_plain : List Str := ["state", "kind", "first"]
theorem x_law_plain : FnScope Ns_law_plain ["state"] (defScope s_law_plain) := ⟨rfl, rfl, rfl, by decide +kernel, rfl, by decide +kernel, by decide +kernel⟩
abbrev s_law_data : Stmt := topS 26
abbrev Ns_law_data : List Str := ["state", "most", "size", "kind", "first", "step", "k"]
theorem x_law_data : FnScope Ns_law_data ["state", "most"] (defScope s_law_data) := ⟨rfl, rfl, rfl, by decide +kernel, rfl, by decide +kernel, by decide +kernel⟩
abbrev s_law_fields : Stmt := topS 27
abbrev Ns_law_fields : List Str := ["state", "hops", "name"]
theorem x_law_fields : FnScope Ns_law_fields ["state"] (defScope s_law_fields) := ⟨rfl, rfl, rfl, by decide +kernel, rfl, by decide +kernel, by decide +kernel⟩
abbrev s_law_part : Stmt := topS 28
abbrev Ns_law_part : List Str := ["state", "kind", "numbers", "way"]
theorem x_law_part : FnScope Ns_law_part ["state"] (defScope s_law_part) := ⟨rfl, rfl, rfl, by decide +kernel, rfl, by decide +kernel, by decide +kernel⟩
abbrev s_law_stub : Stmt := topS 29
abbrev Ns_law_stub : List Str := ["state", "part", "least", "fields"]
theorem x_law_stub : FnScope Ns_law_stub ["state"] (defScope s_law_stub) := ⟨rfl, rfl, rfl, by decide +kernel, rfl, by decide +kernel, by decide +kernel⟩
abbrev s_law_body_of : Stmt := topS 30
abbrev Ns_law_body_of : List Str := ["state", "kind", "most", "numbers", "options", "last", "first", "way", "code"]
theorem x_law_body_of : FnScope Ns_law_body_of ["state", "kind", "most"] (defScope s_law_body_of) := ⟨rfl, rfl, rfl, by decide +kernel, rfl, by decide +kernel, by decide +kernel⟩
abbrev s_law_value : Stmt := topS 31
abbrev Ns_law_value : List Str := ["octets", "number", "octet"]
theorem x_law_value : FnScope Ns_law_value ["octets"] (defScope s_law_value) := ⟨rfl, rfl, rfl, by decide +kernel, rfl, by decide +kernel, by decide +kernel⟩
abbrev s_law_way : Stmt := topS 32
abbrev Ns_law_way : List Str := ["source", "target", "body", "ident"]
theorem x_law_way : FnScope Ns_law_way ["source", "target", "body"] (defScope s_law_way) := ⟨rfl, rfl, rfl, by decide +kernel, rfl, by decide +kernel, by decide +kernel⟩
abbrev s_law_new_way : Stmt := topS 33
abbrev Ns_law_new_way : List Str := ["state", "packet", "body", "source", "target", "ports"]
theorem x_law_new_way : FnScope Ns_law_new_way ["state", "packet"] (defScope s_law_new_way) := ⟨rfl, rfl, rfl, by decide +kernel, rfl, by decide +kernel, by decide +kernel⟩
abbrev s_law_moved_body : Stmt := topS 34
abbrev Ns_law_moved_body : List Str := ["body", "way"]
theorem x_law_moved_body : FnScope Ns_law_moved_body ["body", "way"] (defScope s_law_moved_body) := ⟨rfl, rfl, rfl, by decide +kernel, rfl, by decide +kernel, by decide +kernel⟩
abbrev s_law_stub_of : Stmt := topS 35
abbrev Ns_law_stub_of : List Str := ["packet", "o", "body", "part"]
theorem x_law_stub_of : FnScope Ns_law_stub_of ["packet"] (defScope s_law_stub_of) := ⟨rfl, rfl, rfl, by decide +kernel, rfl, by decide +kernel, by decide +kernel⟩
abbrev s_law_zero_way : Stmt := topS 36
abbrev Ns_law_zero_way : List Str := ["packet", "way", "o", "step", "place", "port"]
theorem x_law_zero_way : FnScope Ns_law_zero_way ["packet", "way"] (defScope s_law_zero_way) := ⟨rfl, rfl, rfl, by decide +kernel, rfl, by decide +kernel, by decide +kernel⟩
abbrev s_law_any_sum_right : Stmt := topS 37
abbrev Ns_law_any_sum_right : List Str := ["state", "packet", "way", "stub", "part", "number", "due", "told", "found", "olds", "news"]
theorem x_law_any_sum_right : FnScope Ns_law_any_sum_right ["state", "packet", "way"] (defScope s_law_any_sum_right) := ⟨rfl, rfl, rfl, by decide +kernel, rfl, by decide +kernel, by decide +kernel⟩
abbrev s_law : Stmt := topS 38
abbrev Ns_law : List Str := ["script", "state", "kind", "turn", "packet", "way", "stub", "back", "failure", "other", "due"]
theorem x_law : FnScope Ns_law ["script"] (defScope s_law) := ⟨rfl, rfl, rfl, by decide +kernel, rfl, by decide +kernel, by decide +kernel⟩
/-- what the top has written -/
structure Df (K : PySem.W.Frag) (mg : Str → Option Value) (x : Str) (st : Stmt) (ps : List Str) (a : Addr) (fd : FuncData) : Prop where
  F : Fun K x x st a fd
  b : Binds K fd ps []
  g : mg x = some (.ref a)
structure Tx (K : PySem.W.Frag) (mg : Str → Option Value) where
  ad_moved_sum : Addr
  fd_moved_sum : FuncData
  d_moved_sum : Df K mg "moved_sum" s_moved_sum ["number", "olds", "news"] ad_moved_sum fd_moved_sum
  ad_way_of : Addr
  fd_way_of : FuncData
  d_way_of : Df K mg "way_of" s_way_of ["packet"] ad_way_of fd_way_of
  ad_way_of_stub : Addr
  fd_way_of_stub : FuncData
  d_way_of_stub : Df K mg "way_of_stub" s_way_of_stub ["stub"] ad_way_of_stub fd_way_of_stub
  ad_way_between : Addr
  fd_way_between : FuncData
  d_way_between : Df K mg "_way_between" s_way_between ["source", "target", "part"] ad_way_between fd_way_between
  ad_turned : Addr
  fd_turned : FuncData
  d_turned : Df K mg "turned" s_turned ["way"] ad_turned fd_turned
  ad_moved : Addr
  fd_moved : FuncData
  d_moved : Df K mg "moved" s_moved ["packet", "way"] ad_moved fd_moved
  ad_moved_stub : Addr
  fd_moved_stub : FuncData
  d_moved_stub : Df K mg "moved_stub" s_moved_stub ["stub", "way"] ad_moved_stub fd_moved_stub
  ad_named : Addr
  fd_named : FuncData
  d_named : Df K mg "_named" s_named ["part", "way"] ad_named fd_named
  ad_moved_udp_sum : Addr
  fd_moved_udp_sum : FuncData
  d_moved_udp_sum : Df K mg "_moved_udp_sum" s_moved_udp_sum ["stub", "way"] ad_moved_udp_sum fd_moved_udp_sum
  ad_pairs_of_way : Addr
  fd_pairs_of_way : FuncData
  d_pairs_of_way : Df K mg "_pairs_of_way" s_pairs_of_way ["way"] ad_pairs_of_way fd_pairs_of_way
  ad_law_state : Addr
  fd_law_state : FuncData
  d_law_state : Df K mg "_law_state" s_law_state ["script"] ad_law_state fd_law_state
  ad_law_take : Addr
  fd_law_take : FuncData
  d_law_take : Df K mg "_law_take" s_law_take ["state", "most"] ad_law_take fd_law_take
  ad_law_pick : Addr
  fd_law_pick : FuncData
  d_law_pick : Df K mg "_law_pick" s_law_pick ["state", "row"] ad_law_pick fd_law_pick
  ad_law_same : Addr
  fd_law_same : FuncData
  d_law_same : Df K mg "_law_same" s_law_same ["told", "due"] ad_law_same fd_law_same
  ad_law_two : Addr
  fd_law_two : FuncData
  d_law_two : Df K mg "_law_two" s_law_two ["number"] ad_law_two fd_law_two
  ad_law_four : Addr
  fd_law_four : FuncData
  d_law_four : Df K mg "_law_four" s_law_four ["number"] ad_law_four fd_law_four
  ad_law_sum : Addr
  fd_law_sum : FuncData
  d_law_sum : Df K mg "_law_sum" s_law_sum ["octets"] ad_law_sum fd_law_sum
  ad_law_header : Addr
  fd_law_header : FuncData
  d_law_header : Df K mg "_law_header" s_law_header ["fields", "size", "protocol"] ad_law_header fd_law_header
  ad_law_body : Addr
  fd_law_body : FuncData
  d_law_body : Df K mg "_law_body" s_law_body ["source", "target", "body"] ad_law_body fd_law_body
  ad_law_stub_octets : Addr
  fd_law_stub_octets : FuncData
  d_law_stub_octets : Df K mg "_law_stub_octets" s_law_stub_octets ["stub"] ad_law_stub_octets fd_law_stub_octets
  ad_law_octets : Addr
  fd_law_octets : FuncData
  d_law_octets : Df K mg "_law_octets" s_law_octets ["packet"] ad_law_octets fd_law_octets
  ad_law_number : Addr
  fd_law_number : FuncData
  d_law_number : Df K mg "_law_number" s_law_number ["state", "low", "high"] ad_law_number fd_law_number
  ad_law_plain : Addr
  fd_law_plain : FuncData
  d_law_plain : Df K mg "_law_plain" s_law_plain ["state"] ad_law_plain fd_law_plain
  ad_law_data : Addr
  fd_law_data : FuncData
  d_law_data : Df K mg "_law_data" s_law_data ["state", "most"] ad_law_data fd_law_data
  ad_law_fields : Addr
  fd_law_fields : FuncData
  d_law_fields : Df K mg "_law_fields" s_law_fields ["state"] ad_law_fields fd_law_fields
  ad_law_part : Addr
  fd_law_part : FuncData
  d_law_part : Df K mg "_law_part" s_law_part ["state"] ad_law_part fd_law_part
  ad_law_stub : Addr
  fd_law_stub : FuncData
  d_law_stub : Df K mg "_law_stub" s_law_stub ["state"] ad_law_stub fd_law_stub
  ad_law_body_of : Addr
  fd_law_body_of : FuncData
  d_law_body_of : Df K mg "_law_body_of" s_law_body_of ["state", "kind", "most"] ad_law_body_of fd_law_body_of
  ad_law_value : Addr
  fd_law_value : FuncData
  d_law_value : Df K mg "_law_value" s_law_value ["octets"] ad_law_value fd_law_value
  ad_law_way : Addr
  fd_law_way : FuncData
  d_law_way : Df K mg "_law_way" s_law_way ["source", "target", "body"] ad_law_way fd_law_way
  ad_law_new_way : Addr
  fd_law_new_way : FuncData
  d_law_new_way : Df K mg "_law_new_way" s_law_new_way ["state", "packet"] ad_law_new_way fd_law_new_way
  ad_law_moved_body : Addr
  fd_law_moved_body : FuncData
  d_law_moved_body : Df K mg "_law_moved_body" s_law_moved_body ["body", "way"] ad_law_moved_body fd_law_moved_body
  ad_law_stub_of : Addr
  fd_law_stub_of : FuncData
  d_law_stub_of : Df K mg "_law_stub_of" s_law_stub_of ["packet"] ad_law_stub_of fd_law_stub_of
  ad_law_zero_way : Addr
  fd_law_zero_way : FuncData
  d_law_zero_way : Df K mg "_law_zero_way" s_law_zero_way ["packet", "way"] ad_law_zero_way fd_law_zero_way
  ad_law_any_sum_right : Addr
  fd_law_any_sum_right : FuncData
  d_law_any_sum_right : Df K mg "_law_any_sum_right" s_law_any_sum_right ["state", "packet", "way"] ad_law_any_sum_right fd_law_any_sum_right
  ad_law : Addr
  fd_law : FuncData
  d_law : Df K mg "law" s_law ["script"] ad_law fd_law
  b_sum : mg "sum" = none
  b_abs : mg "abs" = none
  b_len : mg "len" = none
  b_int : mg "int" = none
  b_isinstance : mg "isinstance" = none
  b_dict : mg "dict" = none
  b_all : mg "all" = none
  b_bool : mg "bool" = none
  b_str : mg "str" = none
  b_tuple : mg "tuple" = none
  b_list : mg "list" = none
  b_range : mg "range" = none
  b_min : mg "min" = none
  b_max : mg "max" = none
abbrev rLenS (K : PySem.W.Frag) : List V → Hp → VK → Prop := fun xs H Q => ∃ p ys, xs = [.ref p] ∧ (SqL K H p ys ∨ SqT K H p ys) ∧ Q (.int ys.length) H
/-- the state of the law's own draws stands at p, its numbers at c -/
def LS (H : Hp) (p c : Addr) : Prop := ∃ (k : Int) (ns : List Int), H p = some (.lst [.int k, .ref c]) ∧ H c = some (.lst (ns.map V.int)) ∧ ns ≠ []
/-- all else stays as it stands -/
def Kp (p c : Addr) (H H' : Hp) : Prop := ∀ b o, H b = some o → b ≠ p → b ≠ c → H' b = some o
theorem Kp.refl (p c : Addr) (H : Hp) : Kp p c H H := fun _ _ h _ _ => h
theorem Kp.trans {p c : Addr} {H H1 H2 : Hp} (a : Kp p c H H1) (b : Kp p c H1 H2) : Kp p c H H2 := fun q o h h1 h2 => b q o (a q o h h1 h2) h1 h2
theorem LS.ne {H : Hp} {p c : Addr} (h : LS H p c) : p ≠ c := by
  obtain ⟨k, ns, h1, h2, h3⟩ := h
  intro e
  subst e
  rw [h1] at h2
  cases ns with
  | nil => exact h3 rfl
  | cons x r =>
    have z := congrArg (fun o => match o with | some (HO.lst [_, y]) => y | _ => V.non) h2
    cases r with
    | nil => cases h2
    | cons y r =>
      cases r with
      | nil => cases h2
      | cons _ _ => cases h2
theorem same_upd {H : Hp} {p : Addr} {o : HO} (h : H p = none) : Same H (upd H p o) := fun b x e => by
  rw [upd_ne (ne_of_none e h)]
  exact e
theorem kp_same {p c : Addr} {H H' : Hp} (s : Same H H') : Kp p c H H' := fun b o h _ _ => s b o h
theorem LS.same {H H' : Hp} {p c : Addr} (h : LS H p c) (s : Same H H') : LS H' p c := by
  obtain ⟨k, ns, h1, h2, h3⟩ := h
  exact ⟨k, ns, s _ _ h1, s _ _ h2, h3⟩
theorem LS.new {H : Hp} {p c q : Addr} {o : HO} (h : LS H p c) (n : H q = none) : LS (upd H q o) p c := h.same (same_upd n)
theorem LS.ne1 {H : Hp} {p c l : Addr} (h : LS H p c) (n : H l = none) : l ≠ p := by
  obtain ⟨k, ns, g1, g2, g3⟩ := h
  exact (ne_of_none g1 n).symm
theorem LS.ne2 {H : Hp} {p c l : Addr} (h : LS H p c) (n : H l = none) : l ≠ c := by
  obtain ⟨k, ns, g1, g2, g3⟩ := h
  exact (ne_of_none g2 n).symm
def spState (K : PySem.W.Frag) : Sp := fun vs H Q _ => ∃ (a : Addr) (ns : List Int), vs = [.ref a] ∧ SqL K H a (ns.map V.int) ∧ ns.length ≤ 63 ∧
  ∀ (p c : Addr) (H' : Hp), LS H' p c → Same H H' → H p = none → H c = none → Q (.ref p) H'
def spTake : Sp := fun vs H Q _ => ∃ (p c : Addr) (m : Int), vs = [.ref p, .int m] ∧ LS H p c ∧ m < 1073741824 ∧
  ∀ (r : Int) (H' : Hp), 0 ≤ r → (r < m ∨ r < 1) → LS H' p c → Kp p c H H' → Q (.int r) H'
def spPick (K : PySem.W.Frag) : Sp := fun vs H Q _ => ∃ (p c q : Addr) (xs : List V), vs = [.ref p, .ref q] ∧ LS H p c ∧ q ≠ p ∧ q ≠ c ∧ H q = some (.lst xs) ∧ xs ≠ [] ∧ xs.length < 1073741824 ∧
  ∀ (v : V) (H' : Hp), v ∈ xs → LS H' p c → Kp p c H H' → Q v H'
def spNumber : Sp := fun vs H Q _ => ∃ (p c : Addr) (lo hi : Int), vs = [.ref p, .int lo, .int hi] ∧ LS H p c ∧ lo ≤ hi ∧
  ∀ (r : Int) (H' : Hp), lo ≤ r → r ≤ hi → LS H' p c → Kp p c H H' → Q (.int r) H'
section
variable {P : Program} {w : World} {K : PySem.W.Frag} {mg : Str → Option Value} {base : Heap}
theorem emod_rng (x : Int) {m : Int} (h : 0 < m) : 0 ≤ x % m ∧ x % m < m := ⟨Int.emod_nonneg _ (by omega), Int.emod_lt_of_pos _ h⟩
theorem at_mod {α : Type} {xs : List α} (h : xs ≠ []) (k : Int) : ∃ (j : Nat) (v : α), k % (xs.length : Int) = (j : Int) ∧ j < xs.length ∧ xs[j]? = some v := by
  have hl : 0 < xs.length := by
    cases xs with
    | nil => exact absurd rfl h
    | cons _ _ => exact Nat.zero_lt_succ _
  have e := emod_rng k (m := (xs.length : Int)) (by omega)
  refine ⟨(k % (xs.length : Int)).toNat, xs[(k % (xs.length : Int)).toNat]'(by omega), by omega, by omega, List.getElem?_eq_getElem _⟩
theorem ok_law_take (T : Tx K mg) : FnOk P w K mg base CX0 1 T.ad_law_take T.fd_law_take ["state", "most"] spTake := by
  refine T.d_law_take.F.ok x_law_take (fun vs H Q E h => ?_) (fun cdv A outer s H vs Q E hr h => ?_)
  · obtain ⟨p, c, m, rfl, _⟩ := h
    rfl
  · obtain ⟨p, c, m, rfl, hL, hm, q⟩ := h
    have nd := x_law_take.nd
    have npc := hL.ne
    obtain ⟨k, ns, h1, h2, h3⟩ := id hL
    refine ⟨_, (pss_cons (ps_if (pt_cmpR op_lt (pv 1) pe_int (nomark _)) (pss_one (ps_ret pe_int)) pss_nil)
        (pss_cons (ps_set (i := 2) nd rfl (Or.inl rfl) (pe_ix ix_list (pv 0) pe_int (fun _ _ => rfl)))
        (pss_cons (ps_set (i := 3) nd rfl (Or.inl rfl) (pe_op op_mod (pe_callTy call_int1 (by rfl) T.b_int (by decide +kernel) (pa_cons (pe_ix ix_list (pv 0) pe_int (fun _ _ => rfl)) pa_nil)) (pe_callB call_len_seq (by rfl) T.b_len (by decide +kernel) (pa_cons (pv 2) pa_nil))))
        (pss_cons (ps_set (i := 4) nd rfl (Or.inl rfl) (pe_ix ix_list (pv 2) (pv 3) (fun _ _ => rfl)))
        (pss_cons (ps_if (pt_cmpR op_ge (pv 4) pe_int (nomark _)) (pss_cons (ps_asg (pe_op op_fdiv (pv 4) (pv 1)) (pg_sub (pv 2) (pv 3) set_list))
        (pss_one (ps_ret (pe_op op_mod (pe_callTy call_int1 (by rfl) T.b_int (by decide +kernel) (pa_cons (pv 4) pa_nil)) (pv 1))))) pss_nil)
        (pss_cons (ps_asg (pe_op op_add (pe_ix ix_list (pv 0) pe_int (fun _ _ => rfl)) pe_int) (pg_sub (pv 0) pe_int set_list))
        (pss_cons (ps_set (i := 5) nd rfl (Or.inl rfl) (pe_op op_mod (pe_callTy call_int1 (by rfl) T.b_int (by decide +kernel) (pa_cons (pe_op op_add (pe_op op_mul (pv 4) pe_int) (pe_op op_mul (pe_ix ix_list (pv 0) pe_int (fun _ _ => rfl)) pe_int)) pa_nil)) pe_int))
        (pss_cons (ps_set (i := 5) nd rfl (Or.inl rfl) (pe_op op_mod (pe_callTy call_int1 (by rfl) T.b_int (by decide +kernel) (pa_cons (pe_op op_add (pe_op op_mul (pv 5) pe_int) (pe_op op_mul (pe_ix ix_list (pv 0) pe_int (fun _ _ => rfl)) pe_int)) pa_nil)) pe_int))
        (pss_one (ps_ret (pe_op op_mod (pe_callTy call_int1 (by rfl) T.b_int (by decide +kernel) (pa_cons (pe_op op_fdiv (pv 5) pe_int) pa_nil)) (pv 1)))))))))))), ?_⟩
    refine ⟨_, rfl, _, _, rfl, rfl, _, rfl, ite2 (fun e => ?_) (fun e => ?_)⟩
    · exact q 0 H (by decide) (.inr (by decide)) hL (Kp.refl _ _ _)
    have e2 : ¬ m < 2 := of_decide_eq_false (Bool.not_eq_true _ ▸ e)
    have hl0 : (ns.map V.int) ≠ [] := by
      cases ns with
      | nil => exact absurd rfl h3
      | cons _ _ => intro z; cases z
    obtain ⟨j, v, ej, hj, hv⟩ := at_mod hl0 k
    have hjn : j < ns.length := by rw [List.length_map] at hj; exact hj
    obtain ⟨x, hx, rfl⟩ : ∃ x, ns[j]? = some x ∧ v = V.int x := by
      rw [List.getElem?_map] at hv
      cases e : ns[j]? with
      | none => rw [e] at hv; cases hv
      | some x => rw [e] at hv; exact ⟨x, rfl, (Option.some.inj hv).symm⟩
    have hpos : (0 : Int) < ((ns.map V.int).length : Int) := by omega
    refine ⟨_, rfl, _, _, _, _, rfl, rfl, SqL.of h1, atI_nat (j := 1) rfl, ?_⟩
    refine ⟨_, rfl, _, _, _, _, rfl, rfl, SqL.of h1, atI_nat (j := 0) rfl, .inl ⟨_, rfl, ?_⟩⟩
    refine ⟨_, rfl, _, _, rfl, .inl (SqL.of h2), _, _, rfl, rfl, hpos, ?_⟩
    refine ⟨_, rfl, _, rfl, _, _, _, _, rfl, rfl, SqL.of h2, at_of ej hv, ?_⟩
    refine ⟨_, rfl, _, _, rfl, rfl, _, rfl, ite2 (fun eb => ?_) (fun eb => ?_)⟩
    · -- cells[at] = cell // most
      refine ⟨_, rfl, _, rfl, _, _, rfl, rfl, ⟨by omega, by omega⟩, _, rfl, _, rfl, _, _, _, j, rfl, rfl, h2, ?_, ?_⟩
      · rw [ej]
        unfold ixN
        rw [if_pos (by omega), if_pos (by omega)]
        exact congrArg some (by omega)
      · refine ⟨_, rfl, .inl ⟨_, rfl, _, rfl, _, _, rfl, rfl, by omega, ?_⟩⟩
        have r := emod_rng x (m := m) (by omega)
        refine q _ _ r.1 (.inl r.2) ⟨k, ns.set j (x / m), by rw [upd_ne npc]; exact h1, by rw [upd_same, List.map_set], ?_⟩ fun b o e hb hc => by rw [upd_ne hc]; exact e
        intro z
        have zz := congrArg List.length z
        rw [List.length_set] at zz
        have : ns.length = 0 := zz
        omega
    · -- state[0] = state[0] + 1
      refine ⟨_, rfl, _, _, _, _, rfl, rfl, SqL.of h1, atI_nat (j := 0) rfl, _, _, rfl, rfl, _, rfl, _, _, _, 0, rfl, rfl, h1, rfl, ?_⟩
      have g1 : (upd H p (.lst ([V.int k, V.ref c].set 0 (.int (k + 1))))) p = some (.lst [V.int (k + 1), V.ref c]) := upd_same
      have hL' : LS (upd H p (.lst ([V.int k, V.ref c].set 0 (.int (k + 1))))) p c := ⟨k + 1, ns, g1, by rw [upd_ne npc.symm]; exact h2, h3⟩
      have hk : Kp p c H (upd H p (.lst ([V.int k, V.ref c].set 0 (.int (k + 1))))) := fun b o e hb hc => by rw [upd_ne hb]; exact e
      generalize upd H p (.lst ([V.int k, V.ref c].set 0 (.int (k + 1)))) = H1 at g1 hL' hk ⊢
      refine ⟨_, rfl, _, _, rfl, rfl, .inr ⟨by decide, by decide⟩, _, rfl, _, _, _, _, rfl, rfl, SqL.of g1, atI_nat (j := 0) rfl, _, _, rfl, rfl, .inr ⟨by decide, by decide⟩, _, _, rfl, rfl, .inl ⟨_, rfl, _, _, rfl, rfl, (by show (0 : Int) < 2147483647; decide), ?_⟩⟩
      refine ⟨_, rfl, _, _, rfl, rfl, .inr ⟨by decide, by decide⟩, _, rfl, _, _, _, _, rfl, rfl, SqL.of g1, atI_nat (j := 0) rfl, _, _, rfl, rfl, .inr ⟨by decide, by decide⟩, _, _, rfl, rfl, .inl ⟨_, rfl, _, _, rfl, rfl, (by show (0 : Int) < 1000000007; decide), ?_⟩⟩
      refine ⟨_, rfl, _, _, rfl, rfl, ⟨by decide, by decide⟩, .inl ⟨_, rfl, _, rfl, _, _, rfl, rfl, (by show 0 < m; omega), ?_⟩⟩
      have r := emod_rng ((((x * 48271 + (k + 1) * 69621) % 2147483647 * 16807 + (k + 1) * 7919) % 1000000007) / 7) (m := m) (by omega)
      exact q _ _ r.1 (.inl r.2) hL' hk
end

section
variable {P : Program} {w : World} {K : PySem.W.Frag} {mg : Str → Option Value} {base : Heap}
theorem cut63 (xs : List V) (h : xs.length ≤ 63) : cutV xs none (some 63) = xs := by
  unfold cutV
  rw [HT.sIx_none, show HT.sIx xs.length xs.length (some 63) = min 63 xs.length from HT.sIx_nat xs.length xs.length 63]
  rw [List.drop_zero, Nat.min_eq_right h, Nat.sub_zero, List.take_length]
theorem cut_lo (xs : List V) (j : Nat) (h : j ≤ xs.length) : cutV xs none (some (j : Int)) = xs.take j := by
  unfold cutV
  rw [HT.sIx_none, HT.sIx_nat, Nat.min_eq_left h, List.drop_zero, Nat.sub_zero]
theorem cut_any (xs : List V) (j : Nat) : cutV xs none (some (j : Int)) = xs.take j := by
  unfold cutV
  rw [HT.sIx_none, HT.sIx_nat, List.drop_zero, Nat.sub_zero]
  by_cases h : j ≤ xs.length
  · rw [Nat.min_eq_left h]
  · rw [Nat.min_eq_right (by omega), List.take_length, List.take_of_length_le (by omega)]
theorem cut_hi (xs : List V) (j : Nat) (h : j ≤ xs.length) : cutV xs (some (j : Int)) none = xs.drop j := by
  unfold cutV
  rw [HT.sIx_none, HT.sIx_nat, Nat.min_eq_left h]
  exact List.take_of_length_le (by rw [List.length_drop]; omega)
theorem ok_law_state (T : Tx K mg) : FnOk P w K mg base CX0 1 T.ad_law_state T.fd_law_state ["script"] (spState K) := by
  refine T.d_law_state.F.ok x_law_state (fun vs H Q E h => ?_) (fun cdv A outer s H vs Q E hr h => ?_)
  · obtain ⟨a, ns, rfl, _⟩ := h
    rfl
  · obtain ⟨a, ns, rfl, hS, hlen, q⟩ := h
    have nd := x_law_state.nd
    refine ⟨_, (pss_cons (ps_setLc (i := 1) (own := [("cell", 2)]) (g := gName 2) rfl nd rfl rfl (sw_true rfl rfl rfl (by decide +kernel)) (pi_list (pe_slice sl_list (pv 0) po_none (po_some pe_int))) (blkOk_by (own := [("cell", 2)]) (N := Ns_law_state) (sc := defScope s_law_state) (by decide +kernel)) (fun _ _ _ _ _ => (pg_name (i := 2) nd rfl (Or.inl rfl))) (fun _ _ _ _ _ => pts_nil) (fun _ _ _ _ _ => (pe_callB call_abs (by rfl) T.b_abs (by decide +kernel) (pa_cons (pv 2) pa_nil))))
        (pss_cons (ps_if (pt_cmpR op_eq (pe_callB call_len_seq (by rfl) T.b_len (by decide +kernel) (pa_cons (pv 1) pa_nil)) pe_int (nomark _)) (pss_one (ps_set (i := 1) nd rfl (Or.inl rfl) (pe_lst (pa_cons pe_int pa_nil)))) pss_nil)
        (pss_one (ps_ret (pe_lst (pa_cons pe_int (pa_cons (pv 1) pa_nil))))))), ?_⟩
    have hml : (ns.map V.int).length ≤ 63 := by rw [List.length_map]; exact hlen
    refine ⟨_, rfl, 63, rfl, a, _, rfl, hS, fun p np => ?_⟩
    rw [cut63 _ hml]
    have g0 : (upd H p (.lst (ns.map V.int))) p = some (.lst (ns.map V.int)) := upd_same
    have s0 : Same H (upd H p (.lst (ns.map V.int))) := same_upd np
    generalize upd H p (.lst (ns.map V.int)) = H0 at g0 s0 ⊢
    refine ⟨p, rfl, ⟨_, SqL.of g0⟩, fun D hD => lc_list (K := K) (a := p) (xs := ns.map V.int) (fun i H1 => Same H0 H1 ∧ H1 D = some (.lst (((ns.take i).map fun x => if x < 0 then -x else x).map V.int))) ⟨same_upd hD, upd_same⟩ (fun i H1 _ z => SqL.of (z.1 _ _ g0)) ?_ ?_⟩
    · rintro i x H1 hi ⟨s1, g1⟩
      obtain ⟨z, hz, rfl⟩ : ∃ z, ns[i]? = some z ∧ x = V.int z := by
        rw [List.getElem?_map] at hi
        cases e : ns[i]? with
        | none => rw [e] at hi; cases hi
        | some z => rw [e] at hi; exact ⟨z, rfl, (Option.some.inj hi).symm⟩
      have hil := (List.getElem?_eq_some_iff.mp hz).1
      refine ⟨rfl, ?_⟩
      refine ⟨_, rfl, z, rfl, _, g1, ?_, fun b o e => ?_, ?_⟩
      · rw [List.length_map, List.length_map, List.length_take]
        exact small1000 (by omega)
      · rw [upd_ne (ne_of_none e hD)]
        exact s1 _ _ e
      · rw [upd_same, List.take_add_one, hz]
        simp
    · rintro H1 ⟨s1, g1⟩
      rw [List.length_map, List.take_length] at g1
      have np2 : H D = none := s0.free hD
      refine ⟨_, rfl, D, _, rfl, .inl (SqL.of g1), rfl, _, rfl, ite2 (fun e => ?_) (fun e => ?_)⟩
      · refine ⟨by show 1 ≤ sizeLine; decide, fun c hc => ?_⟩
        refine ⟨_, rfl, by show 2 ≤ sizeLine; decide, fun r hr' => ?_⟩
        have s2 : Same H1 (upd H1 c (.lst [.int 0])) := same_upd hc
        have s3 : Same (upd H1 c (.lst [.int 0])) (upd (upd H1 c (.lst [.int 0])) r (.lst [.int 0, .ref c])) := same_upd hr'
        refine q r c _ ⟨0, [0], upd_same, s3 _ _ upd_same, by intro z; cases z⟩ (s0.trans (s1.trans (s2.trans s3))) ?_ ?_
        · exact s0.free (s1.free (s2.free hr'))
        · exact s0.free (s1.free hc)
      · refine ⟨_, rfl, by show 2 ≤ sizeLine; decide, fun r hr' => ?_⟩
        have s3 : Same H1 (upd H1 r (.lst [.int 0, .ref D])) := same_upd hr'
        refine q r D _ ⟨0, _, upd_same, s3 _ _ g1, ?_⟩ (s0.trans (s1.trans s3)) (s0.free (s1.free hr')) np2
        intro z
        refine e (decide_eq_true (congrArg V.int ?_))
        rw [List.length_map, z]
        rfl
theorem ok_law_pick (T : Tx K mg) : FnOk P w K mg base CX0 2 T.ad_law_pick T.fd_law_pick ["state", "row"] (spPick K) := by
  refine T.d_law_pick.F.ok x_law_pick (fun vs H Q E h => ?_) (fun cdv A outer s H vs Q E hr h => ?_)
  · obtain ⟨p, c, t, xs, rfl, _⟩ := h
    rfl
  · obtain ⟨p, c, t, xs, rfl, hL, n1, n2, ht, hx, hlx, q⟩ := h
    have nd := x_law_pick.nd
    refine ⟨_, (pss_one (ps_ret (pe_ix ix_list (pv 1) (pe_call (ok_law_take T) hr (by rfl) T.d_law_take.g T.d_law_take.F.kp T.d_law_take.b .nil pass0 (pa_cons (pv 0) (pa_cons (pe_callB call_len_seq (by rfl) T.b_len (by decide +kernel) (pa_cons (pv 1) pa_nil)) pa_nil))) (fun _ _ => rfl)))), ?_⟩
    refine ⟨_, rfl, _, rfl, _, rfl, t, xs, rfl, .inl (SqL.of ht), p, c, _, rfl, hL, by omega, fun r H' h0 h1 hL' hk => ?_⟩
    have hl : 0 < xs.length := by
      cases xs with
      | nil => exact absurd rfl hx
      | cons _ _ => exact Nat.zero_lt_succ _
    have ht' := hk t _ ht n1 n2
    have hi : r.toNat < xs.length := by omega
    refine ⟨t, xs, r, xs[r.toNat], rfl, rfl, SqL.of ht', at_of (j := r.toNat) (by omega) (List.getElem?_eq_getElem hi), ?_⟩
    exact q _ H' (List.getElem_mem hi) hL' hk
theorem ok_law_number (T : Tx K mg) : FnOk P w K mg base CX0 2 T.ad_law_number T.fd_law_number ["state", "low", "high"] spNumber := by
  refine T.d_law_number.F.ok x_law_number (fun vs H Q E h => ?_) (fun cdv A outer s H vs Q E hr h => ?_)
  · obtain ⟨p, c, lo, hi, rfl, _⟩ := h
    rfl
  · obtain ⟨p, c, lo, hi, rfl, hL, hlh, q⟩ := h
    have nd := x_law_number.nd
    refine ⟨_, (pss_cons (ps_set (i := 3) nd rfl (Or.inl rfl) (pe_call (ok_law_take T) hr (by rfl) T.d_law_take.g T.d_law_take.F.kp T.d_law_take.b .nil pass0 (pa_cons (pv 0) (pa_cons pe_int pa_nil))))
        (pss_cons (ps_if (pt_cmpR op_eq (pv 3) pe_int (nomark _)) (pss_one (ps_ret (pv 1))) pss_nil)
        (pss_cons (ps_if (pt_cmpR op_eq (pv 3) pe_int (nomark _)) (pss_one (ps_ret (pv 2))) pss_nil)
        (pss_cons (ps_if (pt_cmpR op_eq (pv 3) pe_int (nomark _)) (pss_one (ps_ret (pe_callB (call_min2 rfl) (by rfl) T.b_min (by decide +kernel) (pa_cons (pv 2) (pa_cons (pe_op op_add (pe_op op_add (pv 1) pe_int) (pe_call (ok_law_take T) hr (by rfl) T.d_law_take.g T.d_law_take.F.kp T.d_law_take.b .nil pass0 (pa_cons (pv 0) (pa_cons pe_int pa_nil)))) pa_nil))))) pss_nil)
        (pss_cons (ps_if (pt_cmpR op_eq (pv 3) pe_int (nomark _)) (pss_one (ps_ret (pe_callB (call_max2 rfl) (by rfl) T.b_max (by decide +kernel) (pa_cons (pv 1) (pa_cons (pe_op op_sub (pe_op op_sub (pv 2) pe_int) (pe_call (ok_law_take T) hr (by rfl) T.d_law_take.g T.d_law_take.F.kp T.d_law_take.b .nil pass0 (pa_cons (pv 0) (pa_cons pe_int pa_nil)))) pa_nil))))) pss_nil)
        (pss_cons (ps_set (i := 4) nd rfl (Or.inl rfl) (pe_op op_add (pe_op op_sub (pv 2) (pv 1)) pe_int))
        (pss_one (ps_ret (pe_op op_add (pv 1) (pe_op op_mod (pe_callTy call_int1 (by rfl) T.b_int (by decide +kernel) (pa_cons (pe_op op_add (pe_op op_mul (pe_call (ok_law_take T) hr (by rfl) T.d_law_take.g T.d_law_take.F.kp T.d_law_take.b .nil pass0 (pa_cons (pv 0) (pa_cons pe_int pa_nil))) pe_int) (pe_call (ok_law_take T) hr (by rfl) T.d_law_take.g T.d_law_take.F.kp T.d_law_take.b .nil pass0 (pa_cons (pv 0) (pa_cons pe_int pa_nil)))) pa_nil)) (pv 4))))))))))), ?_⟩
    refine ⟨_, rfl, p, c, 6, rfl, hL, by decide, fun r H1 h0 h1 hL1 k1 => ?_⟩
    refine ⟨_, rfl, rfl, _, rfl, ite2 (fun _ => ?_) (fun _ => ?_)⟩
    · exact ⟨_, rfl, q _ _ (Int.le_refl _) hlh hL1 k1⟩
    refine ⟨_, rfl, rfl, _, rfl, ite2 (fun _ => ?_) (fun _ => ?_)⟩
    · exact ⟨_, rfl, q _ _ hlh (Int.le_refl _) hL1 k1⟩
    refine ⟨_, rfl, rfl, _, rfl, ite2 (fun _ => ?_) (fun _ => ?_)⟩
    · refine ⟨_, rfl, _, rfl, _, _, rfl, rfl, _, rfl, p, c, 3, rfl, hL1, by decide, fun r2 H2 h02 h12 hL2 k2 => ?_⟩
      refine ⟨_, _, rfl, rfl, _, _, rfl, ?_⟩
      refine q _ _ ?_ ?_ hL2 (k1.trans k2)
      · split <;> omega
      · split <;> omega
    refine ⟨_, rfl, rfl, _, rfl, ite2 (fun _ => ?_) (fun _ => ?_)⟩
    · refine ⟨_, rfl, _, rfl, _, _, rfl, rfl, _, rfl, p, c, 3, rfl, hL1, by decide, fun r2 H2 h02 h12 hL2 k2 => ?_⟩
      refine ⟨_, _, rfl, rfl, _, _, rfl, ?_⟩
      refine q _ _ ?_ ?_ hL2 (k1.trans k2)
      · split <;> omega
      · split <;> omega
    refine ⟨_, rfl, _, rfl, _, _, rfl, rfl, _, _, rfl, rfl, ?_⟩
    refine ⟨_, rfl, _, rfl, p, c, 65536, rfl, hL1, by decide, fun r2 H2 h02 h12 hL2 k2 => ?_⟩
    refine ⟨_, _, rfl, rfl, .inr ⟨by decide, by decide⟩, _, rfl, p, c, 65536, rfl, hL2, by decide, fun r3 H3 h03 h13 hL3 k3 => ?_⟩
    refine ⟨_, _, rfl, rfl, .inl ⟨_, rfl, _, rfl, _, _, rfl, rfl, (by show 0 < hi - lo + 1; omega), _, _, rfl, rfl, ?_⟩⟩
    have e := emod_rng (r2 * 65536 + r3) (m := hi - lo + 1) (by omega)
    exact q _ _ (by omega) (by omega) hL3 (k1.trans (k2.trans k3))
end

/-- None, truths, numbers, texts -/
def flt1 : V → Bool
  | .non => true | .bl _ => true | .int _ => true | .str z => PyData.strOk z | _ => false
/-- x and y are the same data, at most n deep -/
def Sm (K : PySem.W.Frag) (H : Hp) : Nat → V → V → Prop
  | 0, x, y => x = y ∧ flt1 x = true
  | n + 1, x, y => (x = y ∧ flt1 x = true) ∨ ∃ (a b : Addr) (xs ys : List V), x = .ref a ∧ y = .ref b ∧ ((SqL K H a xs ∧ SqL K H b ys) ∨ (SqT K H a xs ∧ SqT K H b ys)) ∧ xs.length = ys.length ∧ xs.length ≤ 100000 ∧
      ∀ (i : Nat) (u v : V), xs[i]? = some u → ys[i]? = some v → Sm K H n u v
theorem sqT_same {K : PySem.W.Frag} {H H' : Hp} {a : Addr} {xs : List V} (e : Same H H') (h : SqT K H a xs) : SqT K H' a xs := by
  rcases h with (h | ⟨o, h⟩) | h
  · exact .inl (.inl (e _ _ h))
  · exact .inl (.inr ⟨o, e _ _ h⟩)
  · exact .inr h
theorem Sm.same {K : PySem.W.Frag} {H H' : Hp} (e : Same H H') : ∀ {n : Nat} {x y : V}, Sm K H n x y → Sm K H' n x y
  | 0, _, _, h => h
  | n + 1, _, _, .inl h => .inl h
  | n + 1, _, _, .inr ⟨a, b, xs, ys, h1, h2, h3, h4, h5, h6⟩ => .inr ⟨a, b, xs, ys, h1, h2, (match h3 with
      | .inl z => .inl ⟨e.seq z.1, e.seq z.2⟩
      | .inr z => .inr ⟨sqT_same e z.1, sqT_same e z.2⟩), h4, h5, fun i u v hu hv => Sm.same e (h6 i u v hu hv)⟩
theorem Sm.flat {K : PySem.W.Frag} {H : Hp} {n : Nat} {x : V} (h : flt1 x = true) : Sm K H n x x := by
  cases n with
  | zero => exact ⟨rfl, h⟩
  | succ n => exact .inl ⟨rfl, h⟩
theorem tyx_L {K : PySem.W.Frag} {H : Hp} {a : Addr} {xs : List V} (h : SqL K H a xs) : TyX K H (.ref a) (.type "list") := by
  rcases h with (h | ⟨o, h⟩) | ⟨o, its, n, h1, h2, h3⟩
  · exact .base (.lst h)
  · exact .base (.frz h)
  · exact .kList h1 h2
theorem tyx_T {K : PySem.W.Frag} {H : Hp} {a : Addr} {xs : List V} (h : SqT K H a xs) : TyX K H (.ref a) (.type "tuple") := by
  rcases h with (h | ⟨o, h⟩) | ⟨o, its, n, h1, h2, h3⟩
  · exact .base (.tup h)
  · exact .fTuple h
  · exact .kTuple h1 h2
theorem kt {K : PySem.W.Frag} (a b : String) {r : Bool} (h : kitB a b = some r) : PySem.W.kitOne K (.type a) (.type b) = some r := h
theorem k_ib {K : PySem.W.Frag} : PySem.W.kitOne K (.type "int") (.type "bool") = some false := kt _ _ (by decide +kernel)
theorem k_is {K : PySem.W.Frag} : PySem.W.kitOne K (.type "int") (.type "str") = some false := kt _ _ (by decide +kernel)
theorem k_ii {K : PySem.W.Frag} : PySem.W.kitOne K (.type "int") (.type "int") = some true := kt _ _ (by decide +kernel)
theorem k_bb {K : PySem.W.Frag} : PySem.W.kitOne K (.type "bool") (.type "bool") = some true := kt _ _ (by decide +kernel)
theorem k_bs {K : PySem.W.Frag} : PySem.W.kitOne K (.type "bool") (.type "str") = some false := kt _ _ (by decide +kernel)
theorem k_sb {K : PySem.W.Frag} : PySem.W.kitOne K (.type "str") (.type "bool") = some false := kt _ _ (by decide +kernel)
theorem k_ss {K : PySem.W.Frag} : PySem.W.kitOne K (.type "str") (.type "str") = some true := kt _ _ (by decide +kernel)
theorem k_lb {K : PySem.W.Frag} : PySem.W.kitOne K (.type "list") (.type "bool") = some false := kt _ _ (by decide +kernel)
theorem k_ls {K : PySem.W.Frag} : PySem.W.kitOne K (.type "list") (.type "str") = some false := kt _ _ (by decide +kernel)
theorem k_li {K : PySem.W.Frag} : PySem.W.kitOne K (.type "list") (.type "int") = some false := kt _ _ (by decide +kernel)
theorem k_ld {K : PySem.W.Frag} : PySem.W.kitOne K (.type "list") (.type "dict") = some false := kt _ _ (by decide +kernel)
theorem k_lt {K : PySem.W.Frag} : PySem.W.kitOne K (.type "list") (.type "tuple") = some false := kt _ _ (by decide +kernel)
theorem k_ll {K : PySem.W.Frag} : PySem.W.kitOne K (.type "list") (.type "list") = some true := kt _ _ (by decide +kernel)
theorem k_tb {K : PySem.W.Frag} : PySem.W.kitOne K (.type "tuple") (.type "bool") = some false := kt _ _ (by decide +kernel)
theorem k_ts {K : PySem.W.Frag} : PySem.W.kitOne K (.type "tuple") (.type "str") = some false := kt _ _ (by decide +kernel)
theorem k_ti {K : PySem.W.Frag} : PySem.W.kitOne K (.type "tuple") (.type "int") = some false := kt _ _ (by decide +kernel)
theorem k_td {K : PySem.W.Frag} : PySem.W.kitOne K (.type "tuple") (.type "dict") = some false := kt _ _ (by decide +kernel)
theorem k_tt {K : PySem.W.Frag} : PySem.W.kitOne K (.type "tuple") (.type "tuple") = some true := kt _ _ (by decide +kernel)
theorem k_tl {K : PySem.W.Frag} : PySem.W.kitOne K (.type "tuple") (.type "list") = some false := kt _ _ (by decide +kernel)
theorem ka2 {K : PySem.W.Frag} {t c d : Value} {x y : Bool} (h1 : PySem.W.kitOne K t c = some x) (h2 : PySem.W.kitOne K t d = some y) : PySem.W.kitAny K t [c, d] = some (x || y) := by
  unfold PySem.W.kitAny
  rw [h1]
  cases x with
  | true => rfl
  | false =>
    show PySem.W.kitAny K t [d] = _
    unfold PySem.W.kitAny
    rw [h2]
    cases y <;> rfl
def spSame (K : PySem.W.Frag) (n : Nat) : Sp := fun vs H Q _ => ∃ (x y : V), vs = [x, y] ∧ Sm K H n x y ∧ ∀ (H' : Hp), Same H H' → Q (.bl true) H'
theorem Sm.eq {K : PySem.W.Frag} {H : Hp} {n : Nat} {x y : V} (e : x = y) (h : flt1 x = true) : Sm K H n x y := e ▸ Sm.flat h
theorem Sm.lst {K : PySem.W.Frag} {H : Hp} {n : Nat} {a b : Addr} {xs : List V} (ha : SqL K H a xs) (hb : SqL K H b xs) (hf : ∀ x ∈ xs, flt1 x = true) (hl : xs.length ≤ 100000) : Sm K H (n + 1) (.ref a) (.ref b) :=
  .inr ⟨a, b, xs, xs, rfl, rfl, .inl ⟨ha, hb⟩, rfl, hl, fun i u v hu hv => by
    rw [hu] at hv
    cases hv
    exact Sm.flat (hf u (List.mem_of_getElem? hu))⟩
theorem Sm.tup {K : PySem.W.Frag} {H : Hp} {n : Nat} {a b : Addr} {xs : List V} (ha : SqT K H a xs) (hb : SqT K H b xs) (hf : ∀ x ∈ xs, flt1 x = true) (hl : xs.length ≤ 100000) : Sm K H (n + 1) (.ref a) (.ref b) :=
  .inr ⟨a, b, xs, xs, rfl, rfl, .inr ⟨ha, hb⟩, rfl, hl, fun i u v hu hv => by
    rw [hu] at hv
    cases hv
    exact Sm.flat (hf u (List.mem_of_getElem? hu))⟩
theorem ix_sq {K : PySem.W.Frag} {H : Hp} {a : Addr} {xs : List V} {i : Int} {v : V} {Q : VK} (h : SqL K H a xs ∨ SqT K H a xs) (hi : atI xs i = some v) (q : Q v H) : rIx K (.ref a) (.int i) H Q := by
  rcases h with h | h
  · exact .inl ⟨a, xs, i, v, rfl, rfl, h, hi, q⟩
  · exact .inr (.inl ⟨a, xs, i, v, rfl, rfl, h, hi, q⟩)
/-- two lists, or two tuples, of the same data -/
def spSeq (K : PySem.W.Frag) (n : Nat) : Sp := fun vs H Q _ => ∃ (a b : Addr) (xs ys : List V), vs = [.ref a, .ref b] ∧ ((SqL K H a xs ∧ SqL K H b ys) ∨ (SqT K H a xs ∧ SqT K H b ys)) ∧ xs.length = ys.length ∧ xs.length ≤ 100000 ∧
  (∀ (i : Nat) (u v : V), xs[i]? = some u → ys[i]? = some v → Sm K H n u v) ∧ ∀ (H' : Hp), Same H H' → Q (.bl true) H'
section
variable {P : Program} {w : World} {K : PySem.W.Frag} {mg : Str → Option Value} {base : Heap}
theorem ok_same0 (T : Tx K mg) : FnOk P w K mg base CX0 1 T.ad_law_same T.fd_law_same ["told", "due"] (spSame K 0) := by
  refine T.d_law_same.F.ok x_law_same (fun vs H Q E h => ?_) (fun cdv A outer s H vs Q E hr h => ?_)
  · obtain ⟨x, y, rfl, _⟩ := h
    rfl
  · obtain ⟨x, y, rfl, ⟨rfl, hf⟩, q⟩ := h
    have nd := x_law_same.nd
    refine ⟨_, (pss_cons (ps_if (pt_cmpR op_isN (pv 1) pe_non (nomark _)) (pss_one (ps_ret (pe_cmpR op_isN (pv 0) pe_non (nomark _)))) pss_nil)
        (pss_cons (ps_if (pt_val (pe_callB call_isiT (by rfl) T.b_isinstance (by decide +kernel) (pa_cons (pv 1) (pa_cons (pe_tup (pa_cons (pe_bltn (v := .ty "bool") (by rfl) T.b_bool (by decide +kernel) rfl) (pa_cons (pe_bltn (v := .ty "str") (by rfl) T.b_str (by decide +kernel) rfl) pa_nil))) pa_nil)))) (pss_one (ps_ret (pe_and (pe_cmpR op_eq (pe_callB call_isi (by rfl) T.b_isinstance (by decide +kernel) (pa_cons (pv 0) (pa_cons (pe_bltn (v := .ty "bool") (by rfl) T.b_bool (by decide +kernel) rfl) pa_nil))) (pe_callB call_isi (by rfl) T.b_isinstance (by decide +kernel) (pa_cons (pv 1) (pa_cons (pe_bltn (v := .ty "bool") (by rfl) T.b_bool (by decide +kernel) rfl) pa_nil))) (nomark _)) (pe_and (pe_cmpR op_eq (pe_callB call_isi (by rfl) T.b_isinstance (by decide +kernel) (pa_cons (pv 0) (pa_cons (pe_bltn (v := .ty "str") (by rfl) T.b_str (by decide +kernel) rfl) pa_nil))) (pe_callB call_isi (by rfl) T.b_isinstance (by decide +kernel) (pa_cons (pv 1) (pa_cons (pe_bltn (v := .ty "str") (by rfl) T.b_str (by decide +kernel) rfl) pa_nil))) (nomark _)) (pe_one (pe_cmpR op_eq (pv 0) (pv 1) (nomark _))))))) pss_nil)
        (pss_cons (ps_if (pt_val (pe_callB call_isi (by rfl) T.b_isinstance (by decide +kernel) (pa_cons (pv 1) (pa_cons (pe_bltn (v := .ty "int") (by rfl) T.b_int (by decide +kernel) rfl) pa_nil)))) (pss_one (ps_ret (pe_and (pe_callB call_isi (by rfl) T.b_isinstance (by decide +kernel) (pa_cons (pv 0) (pa_cons (pe_bltn (v := .ty "int") (by rfl) T.b_int (by decide +kernel) rfl) pa_nil))) (pe_and (pe_not (pe_callB call_isi (by rfl) T.b_isinstance (by decide +kernel) (pa_cons (pv 0) (pa_cons (pe_bltn (v := .ty "bool") (by rfl) T.b_bool (by decide +kernel) rfl) pa_nil)))) (pe_one (pe_cmpR op_eq (pv 0) (pv 1) (nomark _))))))) pss_nil)
        pss_never))), ?_⟩
    cases x with
    | non => exact ⟨_, rfl, rfl, _, rfl, _, rfl, rfl, q H (Same.refl H)⟩
    | int i =>
      refine ⟨_, rfl, rfl, _, rfl, _, rfl, by show 2 ≤ sizeLine; decide, fun t ht => ?_⟩
      have s1 := same_upd (o := .tup [.ty "bool", .ty "str"]) ht
      refine ⟨_, t, _, _, _, _, rfl, upd_same, .cons (.ty _) (.cons (.ty _) .nil), .base (.int i), ka2 k_ib k_is, _, rfl, ?_⟩
      refine ⟨_, rfl, _, _, _, _, _, rfl, .ty _, .base (.int i), k_ii, _, rfl, ?_⟩
      refine ⟨_, rfl, _, _, _, _, _, rfl, .ty _, .base (.int i), k_ii, _, rfl, ?_⟩
      refine ⟨_, rfl, _, _, _, _, _, rfl, .ty _, .base (.int i), k_ib, _, rfl, _, rfl, ?_⟩
      refine ⟨_, rfl, _, rfl, rfl, ?_⟩
      rw [decide_eq_true rfl]
      exact q _ s1
    | bl i =>
      refine ⟨_, rfl, rfl, _, rfl, _, rfl, by show 2 ≤ sizeLine; decide, fun t ht => ?_⟩
      have s1 := same_upd (o := .tup [.ty "bool", .ty "str"]) ht
      refine ⟨_, t, _, _, _, _, rfl, upd_same, .cons (.ty _) (.cons (.ty _) .nil), .base (.bl i), ka2 k_bb k_bs, _, rfl, ?_⟩
      refine ⟨_, rfl, _, _, _, _, _, rfl, .ty _, .base (.bl i), k_bb, _, rfl, _, _, _, _, _, rfl, .ty _, .base (.bl i), k_bb, rfl, _, rfl, ite2 (fun _ => ?_) (fun e => absurd (decide_eq_true rfl) e)⟩
      refine ⟨_, rfl, _, _, _, _, _, rfl, .ty _, .base (.bl i), k_bs, _, rfl, _, _, _, _, _, rfl, .ty _, .base (.bl i), k_bs, rfl, _, rfl, ite2 (fun _ => ?_) (fun e => absurd (decide_eq_true rfl) e)⟩
      refine ⟨_, rfl, _, rfl, rfl, ?_⟩
      rw [decide_eq_true rfl]
      exact q _ s1
    | str i =>
      refine ⟨_, rfl, rfl, _, rfl, _, rfl, by show 2 ≤ sizeLine; decide, fun t ht => ?_⟩
      have s1 := same_upd (o := .tup [.ty "bool", .ty "str"]) ht
      refine ⟨_, t, _, _, _, _, rfl, upd_same, .cons (.ty _) (.cons (.ty _) .nil), .base (.str i), ka2 k_sb k_ss, _, rfl, ?_⟩
      refine ⟨_, rfl, _, _, _, _, _, rfl, .ty _, .base (.str i), k_sb, _, rfl, _, _, _, _, _, rfl, .ty _, .base (.str i), k_sb, rfl, _, rfl, ite2 (fun _ => ?_) (fun e => absurd (decide_eq_true rfl) e)⟩
      refine ⟨_, rfl, _, _, _, _, _, rfl, .ty _, .base (.str i), k_ss, _, rfl, _, _, _, _, _, rfl, .ty _, .base (.str i), k_ss, rfl, _, rfl, ite2 (fun _ => ?_) (fun e => absurd (decide_eq_true rfl) e)⟩
      refine ⟨_, rfl, _, rfl, rfl, ?_⟩
      rw [decide_eq_true rfl]
      exact q _ s1
    | _ => cases hf
theorem ok_same1 (T : Tx K mg) {m : Nat} (G : FnOk P w K mg base CX0 (m + 1) T.ad_law_same T.fd_law_same ["told", "due"] (spSame K m)) :
    FnOk P w K mg base CX0 (m + 2) T.ad_law_same T.fd_law_same ["told", "due"] (spSeq K m) := by
  refine T.d_law_same.F.ok x_law_same (fun vs H Q E h => ?_) (fun cdv A outer s H vs Q E hr h => ?_)
  · obtain ⟨x, y, xs, ys, rfl, _⟩ := h
    rfl
  · obtain ⟨a, b, xs, ys, rfl, hS, hl, hle, hi, q⟩ := h
    have nd := x_law_same.nd
    have hrS := hr
    refine ⟨_, (pss_cons (ps_if (pt_cmpR op_isN (pv 1) pe_non (nomark _)) (pss_one (ps_ret (pe_cmpR op_isN (pv 0) pe_non (nomark _)))) pss_nil)
        (pss_cons (ps_if (pt_val (pe_callB call_isiT (by rfl) T.b_isinstance (by decide +kernel) (pa_cons (pv 1) (pa_cons (pe_tup (pa_cons (pe_bltn (v := .ty "bool") (by rfl) T.b_bool (by decide +kernel) rfl) (pa_cons (pe_bltn (v := .ty "str") (by rfl) T.b_str (by decide +kernel) rfl) pa_nil))) pa_nil)))) (pss_one (ps_ret (pe_and (pe_cmpR op_eq (pe_callB call_isi (by rfl) T.b_isinstance (by decide +kernel) (pa_cons (pv 0) (pa_cons (pe_bltn (v := .ty "bool") (by rfl) T.b_bool (by decide +kernel) rfl) pa_nil))) (pe_callB call_isi (by rfl) T.b_isinstance (by decide +kernel) (pa_cons (pv 1) (pa_cons (pe_bltn (v := .ty "bool") (by rfl) T.b_bool (by decide +kernel) rfl) pa_nil))) (nomark _)) (pe_and (pe_cmpR op_eq (pe_callB call_isi (by rfl) T.b_isinstance (by decide +kernel) (pa_cons (pv 0) (pa_cons (pe_bltn (v := .ty "str") (by rfl) T.b_str (by decide +kernel) rfl) pa_nil))) (pe_callB call_isi (by rfl) T.b_isinstance (by decide +kernel) (pa_cons (pv 1) (pa_cons (pe_bltn (v := .ty "str") (by rfl) T.b_str (by decide +kernel) rfl) pa_nil))) (nomark _)) (pe_one (pe_cmpR op_eq (pv 0) (pv 1) (nomark _))))))) pss_nil)
        (pss_cons (ps_if (pt_val (pe_callB call_isi (by rfl) T.b_isinstance (by decide +kernel) (pa_cons (pv 1) (pa_cons (pe_bltn (v := .ty "int") (by rfl) T.b_int (by decide +kernel) rfl) pa_nil)))) (pss_one (ps_ret (pe_and (pe_callB call_isi (by rfl) T.b_isinstance (by decide +kernel) (pa_cons (pv 0) (pa_cons (pe_bltn (v := .ty "int") (by rfl) T.b_int (by decide +kernel) rfl) pa_nil))) (pe_and (pe_not (pe_callB call_isi (by rfl) T.b_isinstance (by decide +kernel) (pa_cons (pv 0) (pa_cons (pe_bltn (v := .ty "bool") (by rfl) T.b_bool (by decide +kernel) rfl) pa_nil)))) (pe_one (pe_cmpR op_eq (pv 0) (pv 1) (nomark _))))))) pss_nil)
        (pss_cons (ps_if (pt_val (pe_callB call_isi (by rfl) T.b_isinstance (by decide +kernel) (pa_cons (pv 1) (pa_cons (pe_bltn (v := .ty "dict") (by rfl) T.b_dict (by decide +kernel) rfl) pa_nil)))) pss_never pss_nil)
        (pss_cons (ps_if (PW.pt (pw_or (pt_cmpR op_ne (pe_callB call_isi (by rfl) T.b_isinstance (by decide +kernel) (pa_cons (pv 0) (pa_cons (pe_bltn (v := .ty "tuple") (by rfl) T.b_tuple (by decide +kernel) rfl) pa_nil))) (pe_callB call_isi (by rfl) T.b_isinstance (by decide +kernel) (pa_cons (pv 1) (pa_cons (pe_bltn (v := .ty "tuple") (by rfl) T.b_tuple (by decide +kernel) rfl) pa_nil))) (nomark _)) (pw_or (pt_not (pt_val (pe_callB call_isiT (by rfl) T.b_isinstance (by decide +kernel) (pa_cons (pv 0) (pa_cons (pe_tup (pa_cons (pe_bltn (v := .ty "tuple") (by rfl) T.b_tuple (by decide +kernel) rfl) (pa_cons (pe_bltn (v := .ty "list") (by rfl) T.b_list (by decide +kernel) rfl) pa_nil))) pa_nil))))) (pw_or1 (pt_cmpR op_ne (pe_callB call_len_seq (by rfl) T.b_len (by decide +kernel) (pa_cons (pv 0) pa_nil)) (pe_callB call_len_seq (by rfl) T.b_len (by decide +kernel) (pa_cons (pv 1) pa_nil)) (nomark _)))))) (pss_one (ps_ret pe_bl)) pss_nil)
        (pss_one (ps_ret (pe_callB (cr_all rfl) (by rfl) T.b_all (by decide +kernel) (pa_cons (pe_lc (own := [("k", 3)]) (g := gName 3) rfl nd (pi_range1 (by rfl) T.b_range (pa_cons (pe_callB call_len_seq (by rfl) T.b_len (by decide +kernel) (pa_cons (pv 1) pa_nil)) pa_nil)) (blkOk_by (own := [("k", 3)]) (N := Ns_law_same) (sc := defScope s_law_same) (by decide +kernel)) (fun _ _ _ _ _ => (pg_name (i := 3) nd rfl (Or.inl rfl))) (fun _ _ _ _ _ => pts_nil) (fun _ _ _ _ _ => (pe_call G hrS (by rfl) T.d_law_same.g T.d_law_same.F.kp T.d_law_same.b .nil pass0 (pa_cons (pe_ix (r := rIx K) ix_seq (pv 0) (pv 3) (fun _ _ => rfl)) (pa_cons (pe_ix (r := rIx K) ix_seq (pv 1) (pv 3) (fun _ _ => rfl)) pa_nil))))) pa_nil))))))))), ?_⟩
    have hb : ∃ tn, (∀ H1, Same H H1 → TyX K H1 (.ref b) (.type tn) ∧ TyX K H1 (.ref a) (.type tn)) ∧ kitB tn "bool" = some false ∧ kitB tn "str" = some false ∧ kitB tn "int" = some false ∧ kitB tn "dict" = some false ∧ ∃ ip, kitB tn "tuple" = some ip ∧ ∃ il, kitB tn "list" = some il ∧ (ip || il) = true := by
      rcases hS with ⟨h1, h2⟩ | ⟨h1, h2⟩
      · exact ⟨"list", fun H1 s1 => ⟨tyx_L (s1.seq h2), tyx_L (s1.seq h1)⟩, by decide +kernel, by decide +kernel, by decide +kernel, by decide +kernel, false, by decide +kernel, true, by decide +kernel, rfl⟩
      · exact ⟨"tuple", fun H1 s1 => ⟨tyx_T (sqT_same s1 h2), tyx_T (sqT_same s1 h1)⟩, by decide +kernel, by decide +kernel, by decide +kernel, by decide +kernel, true, by decide +kernel, false, by decide +kernel, rfl⟩
    obtain ⟨tn, hT, e1, e2, e3, e4, ip, e5, il, e6, e7⟩ := hb
    have ea : ∀ H1, Same H H1 → (SqL K H1 a xs ∨ SqT K H1 a xs) := fun H1 s1 => by
      rcases hS with ⟨h1, h2⟩ | ⟨h1, h2⟩
      · exact .inl (s1.seq h1)
      · exact .inr (sqT_same s1 h1)
    have eb : ∀ H1, Same H H1 → (SqL K H1 b ys ∨ SqT K H1 b ys) := fun H1 s1 => by
      rcases hS with ⟨h1, h2⟩ | ⟨h1, h2⟩
      · exact .inl (s1.seq h2)
      · exact .inr (sqT_same s1 h2)
    have ek : PySem.W.kitAny K (.type tn) [.type "tuple", .type "list"] = some true := e7 ▸ ka2 (kt _ _ e5) (kt _ _ e6)
    refine ⟨_, rfl, rfl, _, rfl, _, rfl, by show 2 ≤ sizeLine; decide, fun t ht => ?_⟩
    have s1 := same_upd (o := .tup [.ty "bool", .ty "str"]) ht
    refine ⟨_, t, _, _, _, _, rfl, upd_same, .cons (.ty _) (.cons (.ty _) .nil), (hT _ s1).1, ka2 (kt _ _ e1) (kt _ _ e2), _, rfl, ?_⟩
    refine ⟨_, rfl, _, _, _, _, _, rfl, .ty _, (hT _ s1).1, kt _ _ e3, _, rfl, ?_⟩
    refine ⟨_, rfl, _, _, _, _, _, rfl, .ty _, (hT _ s1).1, kt _ _ e4, _, rfl, ?_⟩
    refine ⟨_, rfl, _, _, _, _, _, rfl, .ty _, (hT _ s1).2, kt _ _ e5, _, rfl, _, _, _, _, _, rfl, .ty _, (hT _ s1).1, kt _ _ e5, rfl, _, rfl, iteNS rfl ?_⟩
    refine ⟨_, rfl, by show 2 ≤ sizeLine; decide, fun t2 ht2 => ?_⟩
    have s2 := s1.trans (same_upd (o := .tup [.ty "tuple", .ty "list"]) ht2)
    refine ⟨_, t2, _, _, _, _, rfl, upd_same, .cons (.ty _) (.cons (.ty _) .nil), (hT _ s2).2, ek, _, rfl, ?_⟩
    refine ⟨_, rfl, a, xs, rfl, ea _ s2, _, rfl, b, ys, rfl, eb _ s2, rfl, _, rfl, iteNS (congrArg V.int (congrArg Nat.cast hl)) ?_⟩
    generalize upd (upd H t (.tup [.ty "bool", .ty "str"])) t2 (.tup [.ty "tuple", .ty "list"]) = H2 at s2 ⊢
    refine ⟨_, rfl, b, ys, rfl, eb _ s2, _, rfl, by omega, by omega, fun D hD => ?_⟩
    refine lc_range (lo := 0) (n := (ys.length : Int).toNat) (fun i H1 => Same H2 H1 ∧ H1 D = some (.lst ((List.replicate i true).map V.bl))) ⟨same_upd hD, upd_same⟩ ?_ ?_
    · rintro i H1 hin ⟨s3, g3⟩
      have h23 := s2.trans s3
      have hix : i < xs.length := by omega
      have hiy : i < ys.length := by omega
      refine ⟨rfl, _, rfl, _, rfl, ix_sq (ea _ h23) (at_of (j := i) (by omega) (List.getElem?_eq_getElem hix)) ?_⟩
      refine ⟨_, rfl, _, rfl, ix_sq (eb _ h23) (at_of (j := i) (by omega) (List.getElem?_eq_getElem hiy)) ?_⟩
      refine ⟨_, _, rfl, (hi i _ _ (List.getElem?_eq_getElem hix) (List.getElem?_eq_getElem hiy)).same h23, fun H4 s4 => ⟨_, s4 _ _ g3, ?_, fun c o e => ?_, ?_⟩⟩
      · rw [List.length_map, List.length_replicate]
        exact Nat.lt_of_le_of_lt (m := 100000) (by omega) (by decide)
      · rw [upd_ne (ne_of_none e hD)]
        exact s4 _ _ (s3 _ _ e)
      · rw [upd_same, List.replicate_succ', List.map_append]
        rfl
    · rintro H1 ⟨s3, g3⟩
      refine ⟨D, _, rfl, SqL.of g3, ?_⟩
      have ht : (List.replicate (ys.length : Int).toNat true).all id = true := by
        rw [List.all_eq_true]
        intro z hz
        exact (List.mem_replicate.mp hz).2
      rw [ht]
      exact q H1 (s2.trans s3)
theorem ok_same (T : Tx K mg) : ∀ n : Nat, FnOk P w K mg base CX0 (n + 1) T.ad_law_same T.fd_law_same ["told", "due"] (spSame K n)
  | 0 => ok_same0 T
  | n + 1 => by
    have F0 : FnOk P w K mg base CX0 (n + 2) T.ad_law_same T.fd_law_same ["told", "due"] (spSame K 0) := (ok_same0 T).mono (by omega)
    have F1 := ok_same1 (P := P) (w := w) (base := base) T (ok_same T n)
    refine ⟨fun vs H Q E h => ?_, fun A outer s H args us vs Q E hr he hb hv hs => ?_⟩
    · obtain ⟨x, y, rfl, _⟩ := h
      rfl
    · obtain ⟨x, y, rfl, h | ⟨a, b, xs, ys, rfl, rfl, h⟩, q⟩ := hs
      · exact F0.run A outer s H args us _ Q E hr he hb hv ⟨x, y, rfl, h, q⟩
      · obtain ⟨h1, h2, h3, h4⟩ := h
        exact F1.run A outer s H args us _ Q E hr he hb hv ⟨a, b, xs, ys, rfl, h1, h2, h3, h4, q⟩
end

/-- every second one, from the first on -/
def alt {α : Type} : List α → List α
  | [] => []
  | [x] => [x]
  | x :: _ :: r => x :: alt r
theorem alt_len {α : Type} : ∀ l : List α, (alt l).length = (l.length + 1) / 2
  | [] => by simp [alt]
  | [_] => by simp [alt]
  | _ :: _ :: r => by
    show (alt r).length + 1 = (r.length + 1 + 1 + 1) / 2
    rw [alt_len r]
    omega
theorem alt_vals : ∀ {xs : List V} {us : List Value}, Vals xs us → Vals (alt xs) (alt us)
  | _, _, .nil => .nil
  | _, _, .cons r .nil => .cons r .nil
  | _, _, .cons r (.cons _ t) => .cons r (alt_vals t)
theorem alt_map {α β : Type} (f : α → β) : ∀ l : List α, alt (l.map f) = (alt l).map f
  | [] => rfl
  | [_] => rfl
  | _ :: _ :: r => by
    show _ :: alt (r.map f) = _ :: (alt r).map f
    rw [alt_map f r]
theorem alt_pick {α : Type} : ∀ (l : List α) (m : Nat), m = (l.length + 1) / 2 → (List.range m).filterMap (fun i => l[2 * i]?) = alt l
  | [], m, h => by
    have e : m = 0 := by simp only [List.length_nil] at h; omega
    subst e
    rfl
  | [x], m, h => by
    have e : m = 1 := by simp only [List.length_cons, List.length_nil] at h; omega
    subst e
    rfl
  | x :: y :: r, m, h => by
    obtain ⟨m', rfl⟩ : ∃ m', m = m' + 1 := ⟨m - 1, by simp only [List.length_cons] at h; omega⟩
    rw [List.range_succ_eq_map, List.filterMap_cons]
    show x :: _ = x :: alt r
    rw [List.filterMap_map]
    have e : ((fun i => (x :: y :: r)[2 * i]?) ∘ Nat.succ) = fun i => r[2 * i]? := by
      funext i
      show (x :: y :: r)[2 * (i + 1)]? = r[2 * i]?
      rw [show 2 * (i + 1) = 2 * i + 1 + 1 by omega]
      rfl
    rw [e, alt_pick r m' (by simp only [List.length_cons] at h; omega)]
theorem pick2 (its : List Value) (k : Nat) : slicePick its.toArray (some (k : Int)) none (some 2) = (alt (its.drop k)).toArray := by
  unfold slicePick
  congr 1
  have hb : sliceBounds (some (k : Int)) none (some 2) its.toArray.size = (((min k its.length : Nat) : Int), ((its.length : Nat) : Int), 2) := by
    have h2 : (2 : Int) > 0 := by decide
    have h3 : ¬ ((k : Int) < 0) := by omega
    unfold sliceBounds
    simp only [Option.getD_some, List.size_toArray, h2, h3, if_true, if_false]
    refine Prod.ext ?_ rfl
    show max 0 (min (k : Int) (its.length : Int)) = ((min k its.length : Nat) : Int)
    omega
  rw [hb]
  show (sliceRange ((min k its.length : Nat) : Int) (its.length : Int) 2).filterMap _ = _
  unfold sliceRange
  rw [← alt_pick (its.drop k) ((its.length - k + 1) / 2) (by rw [List.length_drop]), List.filterMap_map]
  have h2 : (2 : Int) > 0 := by decide
  have hm : (if ((min k its.length : Nat) : Int) < (its.length : Int) then ((its.length : Int) - ((min k its.length : Nat) : Int) + 2 - 1) / 2 else 0).toNat = (its.length - k + 1) / 2 := by
    split <;> omega
  simp only [h2, if_true]
  rw [hm]
  by_cases hk : k ≤ its.length
  · congr 1
    funext i
    show its.toArray[(((min k its.length : Nat) : Int) + 2 * (i : Int)).toNat]? = (its.drop k)[2 * i]?
    rw [List.getElem?_toArray, List.getElem?_drop]
    congr 1
    omega
  · rw [show (its.length - k + 1) / 2 = 0 by omega]
    rfl
def tStep2 (K : PySem.W.Frag) (k : Nat) (te : TE) : TE := fun σ H Q => te σ H fun x H1 => ∃ a xs, x = .ref a ∧ SqL K H1 a xs ∧ ∀ p, H1 p = none → Q (.ref p) (upd H1 p (.lst (alt (xs.drop k))))
theorem pe_step2 {X : Cx} {e : Expr} {te : TE} {k : Nat} {ka kb : Nat} {p1 p2 p3 pos : Pos} (he : PE X e te) :
    PE X (.Subscript e (.Slice (some (.Constant (.int (k : Int)) ka p1)) none (some (.Constant (.int 2) kb p2)) p3) pos) (tStep2 X.K k te) := by
  refine ⟨fun pins s σ H Q I h => ?_⟩
  refine Subscript_ (thn (he.run pins s σ H _ I h) fun v s1 ⟨x, H1, I1, r1, q1⟩ => ?_)
  obtain ⟨a, xs, ex, hx, q⟩ := q1
  subst ex
  cases r1
  have hlo : PO X (some (.Constant (.int (k : Int)) ka p1)) (tPart (tC (.int (k : Int)))) := po_some pe_int
  have hst : PO X (some (.Constant (.int 2) kb p2)) (tPart (tC (.int 2))) := po_some pe_int
  refine wpAny_Slice (thn (hlo.run pins s1 σ H1 (fun o H2 => o = some (k : Int) ∧ H2 = H1) I1 ⟨_, rfl, rfl, rfl⟩) fun vl s2 ⟨l, H2, I2, pl, el, e2⟩ => ?_)
  subst el e2
  refine thn (po_none.run pins s2 σ H2 (fun o H3 => o = none ∧ H3 = H2) I2 ⟨rfl, rfl⟩) fun vu s3 ⟨u, H3, I3, pu, eu, e3⟩ => ?_
  subst eu e3
  refine thn (hst.run pins s3 σ H3 (fun o H4 => o = some 2 ∧ H4 = H3) I3 ⟨_, rfl, rfl, rfl⟩) fun vs s4 ⟨o, H4, I4, ps, eo, e4⟩ => ?_
  subst eo e4
  have I5 : Inv X pins σ H4 { s4 with heap := s4.heap.push { cls := .type "slice", data := .fields #[vl, vu, vs] } } := I4.kept (t' := s4.toks) fun b ob q => Heap.get?_push_of_some _ q
  obtain ⟨its, r, ht, hz⟩ := I5.list hx
  have hlen := r.length
  show wpAny (model X.prog X.w) X.A (subscriptTail e (.Slice (some (.Constant (.int (k : Int)) ka p1)) none (some (.Constant (.int 2) kb p2)) p3) (.ref a) (.ref s4.heap.objs.size)) (EP X pins σ Q) X.xe { s4 with heap := s4.heap.push { cls := .type "slice", data := .fields #[vl, vu, vs] } }
  refine tail_any (ops := [.ref a, .ref s4.heap.objs.size]) ht.isList.typeIs (PySem.slot_list_getitem.lookup) ?_ (by with_unfolding_all rfl)
  refine wpAny_getItem_list_slice ht.isList (Heap.IsSliceOf.new _ vl vu vs) pl pu ps (by decide) ?_ (by rw [List.size_toArray]; omega)
  rw [pick2]
  refine ⟨.ref _, _, I5.laid (t' := s4.toks) (o := .lst (alt (xs.drop k))) (fun b ob q => Heap.get?_push_of_some _ q) (Nat.le_refl _) ?_, rfl, q _ (I5.hok.fresh (Nat.le_refl _))⟩
  exact ⟨by rw [alt_len, List.length_drop]; omega, _, 0, alt_vals (r.drop k), Heap.get?_push_size _ rfl⟩

theorem tuple_mul1 (l : Addr) (items : Array Value) (n : Nat) (dd : Option Addr) (sl : Array (Option Value)) (u : Tok) :
    Meets (Builtin.«tuple.__mul__» ⟨[.ref l, .int 1 u], []⟩) (fun _ R s => s.heap.get? l = some { cls := .type "tuple", dict := dd, data := .seq items n, slots := sl } ∧ R (.ok (.ret (Value.ref l))) s) :=
  .of_wp fun prog w A R s h => by
    obtain ⟨hp, g, d, tk, os⟩ := s
    obtain ⟨hl, h⟩ := h
    have f1 := AutoSeq1.idx_int
    have c1 : (items.isEmpty || ((1 : Int) == 1)) = true := by cases items.isEmpty <;> rfl
    wp_walk using wpAny_loadPart' hl
    repeat (first
      | (refine wpAny_ite_true (decide_eq_true (by rw [c1])) ?_; wp_walk using wpAny_loadPart' hl)
      | (refine wpAny_ite_false (decide_eq_false (by decide)) ?_; wp_walk using wpAny_loadPart' hl))
    exact ⟨_, rfl, h⟩
theorem tuple_mul0 (l : Addr) (items : Array Value) (n : Nat) (dd : Option Addr) (sl : Array (Option Value)) (u : Tok) (hi : items.isEmpty = false) :
    Meets (Builtin.«tuple.__mul__» ⟨[.ref l, .int 0 u], []⟩) (fun _ R s => s.heap.get? l = some { cls := .type "tuple", dict := dd, data := .seq items n, slots := sl } ∧
      R (.ok (.ret (Value.ref s.heap.objs.size))) { s with heap := s.heap.push { cls := Value.type "tuple", data := Data.seq #[] }, toks := s.toks }) :=
  .of_wp fun prog w A R s h => by
    obtain ⟨hp, g, d, tk, os⟩ := s
    obtain ⟨hl, h⟩ := h
    have f1 := AutoSeq1.idx_int
    have c1 : (items.isEmpty || ((0 : Int) == 1)) = false := by rw [hi]; rfl
    wp_walk using wpAny_loadPart' hl
    exact ⟨_, rfl, h⟩
/-- t * k, any k up to 10000 -/
def rRep2 (K : PySem.W.Frag) : R2 := fun x y H Q => ∃ l k xs, x = .ref l ∧ y = .int k ∧ SqT K H l xs ∧ xs ≠ [] ∧ 0 ≤ k ∧ k ≤ 10000 ∧ xs.length ≤ 100 ∧
  ((k = 1 ∧ Q (.ref l) H) ∨ (k ≠ 1 ∧ ∀ p, H p = none → Q (.ref p) (upd H p (.tup (List.replicate k.toNat xs).flatten))))
theorem op_rep2 {X : Cx} : OpR X (binaryOp .Mult) (rRep2 X.K) := by
  intro pins s σ H x y v u Q I rx ry h
  obtain ⟨l, k, xs, rfl, rfl, hT, hne, h1, h2, hz, q⟩ := h
  cases rx
  obtain ⟨t, rfl⟩ := ry
  obtain ⟨its, r, ⟨⟨cls, dd, data, sl⟩, ho, hc, n, hd⟩, hs⟩ := I.tuple hT
  simp only at hc hd
  subst hc hd
  have hle : its.length = xs.length := r.length.symm
  have hn : its ≠ [] := fun e => hne (by
    rw [e] at hle
    exact List.eq_nil_of_length_eq_zero hle.symm)
  have hi : its.toArray.isEmpty = false := by
    cases its with
    | nil => exact absurd rfl hn
    | cons a b => rfl
  have hsz0 : its.toArray.size = xs.length := by rw [List.size_toArray, hle]
  have hm : ((its.toArray.size : Nat) : Int) * k ≤ 1000000 := by
    rw [hsz0]
    have a1 : ((xs.length : Nat) : Int) * k ≤ 100 * k := Int.mul_le_mul_of_nonneg_right (by omega) (by omega)
    omega
  have flen : (List.replicate k.toNat its).flatten.length ≤ sizeLine := by
    rw [PyProof.Rows.lm_len_rep_flat, hle, sizeLine_eq]
    have a1 : k.toNat * xs.length ≤ 10000 * 100 := Nat.mul_le_mul (by omega) hz
    omega
  have flen2 : (List.replicate k.toNat xs).flatten.length ≤ sizeLine := by
    rw [PyProof.Rows.lm_len_rep_flat, sizeLine_eq]
    have a1 : k.toNat * xs.length ≤ 10000 * 100 := Nat.mul_le_mul (by omega) hz
    omega
  have road : ∀ {C : Value → Shared → Prop} , wpAny (model X.prog X.w) X.A (call (.builtin "tuple.__mul__") [.ref l, .int k t]) C X.xe s → wpAny (model X.prog X.w) X.A (binaryOp .Mult (.ref l) (.int k t)) C X.xe s := fun hw =>
    wpAny_binaryOp_repeat_ref (T := "tuple") (U := "int") (by decide) ⟨_, ho, rfl⟩ (fun s' => typeIs_int s' k t) noFill_tuple_mul F.fills_int_mul F.slot_int_rmul repeat_tuple F.slot_int_index.lookup
      (call_meets F.slot_int_rmul (typeIs_int s k t) F.entry_int_rmul (F.args_int_rmul_2 _ _) (int_rmul_tuple k t l its.toArray n dd sl) ⟨ho, rfl, ⟨_, ho, rfl⟩, hw⟩)
  rcases q with ⟨rfl, q⟩ | ⟨k1, q⟩
  · exact road (call_meets F.slot_tuple_mul ⟨_, ho, rfl⟩ F.entry_tuple_mul (F.args_tuple_mul_2 _ _) (tuple_mul1 l its.toArray n dd sl t) ⟨ho, .ref l, H, I, rfl, q⟩)
  · by_cases k0 : k = 0
    · subst k0
      refine road (call_meets F.slot_tuple_mul ⟨_, ho, rfl⟩ F.entry_tuple_mul (F.args_tuple_mul_2 _ _) (tuple_mul0 l its.toArray n dd sl t hi) ⟨ho, ?_⟩)
      refine ⟨.ref s.heap.objs.size, _, I.laid (t' := s.toks) (o := .tup []) (fun b ob q => Heap.get?_push_of_some _ q) (Nat.le_refl _) ?_, rfl, q _ (I.hok.fresh (Nat.le_refl _))⟩
      exact ⟨Nat.zero_le _, [], .nil, IsTup.new _ _⟩
    · have c0 : (decide (k < -(2 ^ 63)) || decide (k ≥ 2 ^ 63)) = false := by
        rw [decide_eq_false (by omega), decide_eq_false (by omega)] <;> rfl
      have c1 : (its.toArray.isEmpty || k == 1) = false := by
        rw [hi, Bool.false_or]
        exact beq_eq_false_iff_ne.mpr (by omega)
      have c2 : (decide (k ≤ 0) || its.toArray.isEmpty) = false := by
        rw [hi, Bool.or_false]
        exact decide_eq_false (by omega)
      have c4 : Builtin.Tuple.tupleTooMany (((its.toArray.size : Nat) : Int) * k) = false := by
        unfold Builtin.Tuple.tupleTooMany
        rw [sizeLine_eq]
        exact decide_eq_false (by omega)
      refine road (call_meets F.slot_tuple_mul ⟨_, ho, rfl⟩ F.entry_tuple_mul (F.args_tuple_mul_2 _ _) (tuple_mulW l its.toArray n dd sl k t c0 c1 c2 (by omega) c4 (by rw [size_rep, List.size_toArray]; exact flen)) ⟨ho, ?_⟩)
      rw [size_rep]
      refine ⟨.ref s.heap.objs.size, _, I.laid (t' := s.toks) (o := .tup (List.replicate k.toNat xs).flatten) (fun b ob q => Heap.get?_push_of_some _ q) (Nat.le_refl _) ?_, rfl, q _ (I.hok.fresh (Nat.le_refl _))⟩
      exact ⟨flen2, _, r.rep k.toNat, IsTup.new _ _⟩

/-- the same data, read by == -/
theorem Sm.data {K : PySem.W.Frag} {H : Hp} : ∀ (n : Nat) (x y : V), Sm K H n x y → ∃ d, Dp K H x d ∧ Dp K H y d ∧ d.canLay0 = true ∧ d.depth ≤ n
  | n, x, y, h => by
    have fl : ∀ x : V, flt1 x = true → ∃ d, Dp K H x d ∧ Dp K H x d ∧ d.canLay0 = true ∧ d.depth ≤ n := by
      intro x h
      cases x with
      | non => exact ⟨_, .non, .non, rfl, Nat.zero_le _⟩
      | bl b => exact ⟨_, .bl b, .bl b, rfl, Nat.zero_le _⟩
      | int i => exact ⟨_, .int i, .int i, rfl, Nat.zero_le _⟩
      | str z => exact ⟨_, .str z, .str z, (by unfold PyData.canLay0; exact h), Nat.zero_le _⟩
      | _ => cases h
    cases n with
    | zero =>
      obtain ⟨rfl, h⟩ := h
      exact fl x h
    | succ n =>
      rcases h with ⟨rfl, h⟩ | ⟨a, b, xs, ys, rfl, rfl, hS, hl, _, hi⟩
      · exact fl x h
      · have all : ∀ (xs ys : List V), xs.length = ys.length → (∀ (i : Nat) (u v : V), xs[i]? = some u → ys[i]? = some v → Sm K H n u v) → ∃ ds, DpAll K H xs ds ∧ DpAll K H ys ds ∧ PyData.canLayAll0 ds = true ∧ PyData.depthAll ds ≤ n := by
          intro xs
          induction xs with
          | nil =>
            intro ys hl _
            cases ys with
            | nil => exact ⟨[], .nil, .nil, rfl, Nat.zero_le _⟩
            | cons _ _ => cases hl
          | cons x xs ih =>
            intro ys hl hi
            cases ys with
            | nil => cases hl
            | cons y ys =>
              obtain ⟨d, d1, d2, d3, d4⟩ := Sm.data n x y (hi 0 x y rfl rfl)
              obtain ⟨ds, e1, e2, e3, e4⟩ := ih ys (Nat.succ.inj hl) fun i u v hu hv => hi (i + 1) u v hu hv
              refine ⟨d :: ds, .cons d1 e1, .cons d2 e2, ?_, ?_⟩
              · simp [PyData.canLayAll0, d3, e3]
              · simp only [PyData.depthAll]
                omega
        obtain ⟨ds, e1, e2, e3, e4⟩ := all xs ys hl hi
        rcases hS with ⟨h1, h2⟩ | ⟨h1, h2⟩
        · exact ⟨.list ds, .lst h1 e1, .lst h2 e2, e3, by simp only [PyData.depth]; omega⟩
        · exact ⟨.tuple ds, .tup h1 e1, .tup h2 e2, e3, by simp only [PyData.depth]; omega⟩
theorem Sm.shaped {K : PySem.W.Frag} {H : Hp} {n : Nat} {x y : V} (h : Sm K H n x y) (hn : n ≤ 64) : ∃ d, Dp K H x d ∧ Dp K H y d ∧ SeqAt.shaped d = true ∧ PyData.eqv d d = true := by
  obtain ⟨d, d1, d2, d3, d4⟩ := Sm.data n x y h
  refine ⟨d, d1, d2, ?_, SeqAt.eqv_refl d d3⟩
  unfold SeqAt.shaped
  rw [d3, decide_eq_true (show d.depth ≤ 64 by omega)]
  rfl
theorem ne_same {K : PySem.W.Frag} {H : Hp} {n : Nat} {x y : V} {Q : VK} (h : Sm K H n x y) (hn : n ≤ 64) (q : Q (.bl false) H) : rNeD K x y H Q := by
  obtain ⟨d, d1, d2, d3, d4⟩ := h.shaped hn
  exact ⟨d, d, d1, d2, d3, d3, by rw [d4]; exact q⟩
theorem eq_same {K : PySem.W.Frag} {H : Hp} {n : Nat} {x y : V} {Q : VK} (h : Sm K H n x y) (hn : n ≤ 64) (q : Q (.bl true) H) : rEqD K x y H Q := by
  obtain ⟨d, d1, d2, d3, d4⟩ := h.shaped hn
  exact ⟨d, d, d1, d2, d3, d3, by rw [d4]; exact q⟩

/-- what bodies and parts begin with -/
inductive En where
  | udp (f t : Int) | tcp (f t : Int) | echo (ask : Bool) (id : Int)
def sUdp : Str := Str.ofString "udp"
def sTcp : Str := Str.ofString "tcp"
def sEcho : Str := Str.ofString "echo"
def sAsk : Str := Str.ofString "ask"
def sAns : Str := Str.ofString "answer"
def sPk : Str := Str.ofString "packet"
def sSt : Str := Str.ofString "stub"
def sFl : Str := Str.ofString "failure"
def aw (b : Bool) : Str := if b = true then sAsk else sAns
def enV : En → List V
  | .udp f t => [.str sUdp, .int f, .int t]
  | .tcp f t => [.str sTcp, .int f, .int t]
  | .echo a i => [.str sEcho, .str (aw a), .int i]
structure Wy where
  k : Str
  s : Int
  sp : Int
  t : Int
  tp : Int
def wyV (w : Wy) : List V := [.str w.k, .int w.s, .int w.sp, .int w.t, .int w.tp]
def wayE (s t : Int) : En → Wy
  | .udp f to => ⟨sUdp, s, f, t, to⟩
  | .tcp f to => ⟨sTcp, s, f, t, to⟩
  | .echo a i => if a = true then ⟨sEcho, s, i, t, 0⟩ else ⟨sEcho, s, 0, t, i⟩
def Wy.turn (w : Wy) : Wy := ⟨w.k, w.t, w.tp, w.s, w.sp⟩
def nameE (w : Wy) : En → En
  | .udp _ _ => .udp w.sp w.tp
  | .tcp _ _ => .tcp w.sp w.tp
  | .echo a _ => .echo a (if a = true then w.sp else w.tp)
/-- the moved sum -/
def mv (n o w : Int) : Int := if (65535 - n - o + w) % 65535 = 0 then 0 else 65535 - (65535 - n - o + w) % 65535
def wyP (w : Wy) : List Int := [w.s / 65536, w.s % 65536, w.t / 65536, w.t % 65536, w.sp, w.tp]
def mvU (o w : Wy) (n : Int) : Int := if n = 0 then 0 else if mv n (wyP o).sum (wyP w).sum = 0 then 65535 else mv n (wyP o).sum (wyP w).sum
theorem de_udp_echo : decide (V.str sUdp = V.str sEcho) = false := by decide
theorem de_tcp_echo : decide (V.str sTcp = V.str sEcho) = false := by decide
theorem de_echo_echo : decide (V.str sEcho = V.str sEcho) = true := by decide
theorem de_udp_fl : decide (V.str sUdp = V.str sFl) = false := by decide
theorem de_tcp_fl : decide (V.str sTcp = V.str sFl) = false := by decide
theorem de_echo_fl : decide (V.str sEcho = V.str sFl) = false := by decide
theorem de_fl_fl : decide (V.str sFl = V.str sFl) = true := by decide
theorem de_ask (b : Bool) : decide (V.str (aw b) = V.str sAsk) = b := by cases b <;> decide
theorem de_udp_udp : decide (V.str sUdp = V.str sUdp) = true := by decide
theorem de_tcp_udp : decide (V.str sTcp = V.str sUdp) = false := by decide
theorem de_echo_udp : decide (V.str sEcho = V.str sUdp) = false := by decide
/-- a new tuple of these -/
def NewT (K : PySem.W.Frag) (H : Hp) (xs : List V) (Q : VK) : Prop := ∀ (x : Addr) (H' : Hp), Same H H' → SqT K H' x xs → Q (.ref x) H'
theorem NewT.mk {K : PySem.W.Frag} {H H0 : Hp} {xs : List V} {Q : VK} (h : NewT K H xs Q) (s : Same H H0) (p : Addr) (n : H0 p = none) : Q (.ref p) (upd H0 p (.tup xs)) :=
  h p _ (s.trans (same_upd n)) (SqT.of upd_same)
def spBetween (K : PySem.W.Frag) : Sp := fun vs H Q _ => ∃ (s t : Int) (a : Addr) (e : En) (r : List V), vs = [.int s, .int t, .ref a] ∧ SqT K H a (enV e ++ r) ∧ NewT K H (wyV (wayE s t e)) Q
def spTurned (K : PySem.W.Frag) : Sp := fun vs H Q _ => ∃ (a : Addr) (w : Wy), vs = [.ref a] ∧ SqT K H a (wyV w) ∧ NewT K H (wyV w.turn) Q
/-- a stub: its ends, the rest of its header, its size, its part -/
def StAt (K : PySem.W.Frag) (H : Hp) (a : Addr) (s t : Int) (m : List V) (e : En) (r : List V) : Prop := ∃ (pa : Addr) (h n v w z : V), m = [h, n, v, w, z] ∧ SqT K H a [.str sSt, .int s, .int t, h, n, v, w, z, .ref pa] ∧ SqT K H pa (enV e ++ r)
/-- a packet: its ends, the rest of its header, its body -/
def PkAt (K : PySem.W.Frag) (H : Hp) (a : Addr) (s t : Int) (m : List V) (e : En) (r : List V) : Prop := ∃ (ba : Addr) (h n v w : V), m = [h, n, v, w] ∧ SqT K H a [.str sPk, .int s, .int t, h, n, v, w, .ref ba] ∧ SqT K H ba (enV e ++ r)
theorem StAt.same {K : PySem.W.Frag} {H H' : Hp} {a : Addr} {s t : Int} {m r : List V} {e : En} (h : StAt K H a s t m e r) (z : Same H H') : StAt K H' a s t m e r := by
  obtain ⟨pa, x1, x2, x3, x4, x5, h1, h2, h3⟩ := h
  exact ⟨pa, x1, x2, x3, x4, x5, h1, sqT_same z h2, sqT_same z h3⟩
theorem PkAt.same {K : PySem.W.Frag} {H H' : Hp} {a : Addr} {s t : Int} {m r : List V} {e : En} (h : PkAt K H a s t m e r) (z : Same H H') : PkAt K H' a s t m e r := by
  obtain ⟨pa, x1, x2, x3, x4, h1, h2, h3⟩ := h
  exact ⟨pa, x1, x2, x3, x4, h1, sqT_same z h2, sqT_same z h3⟩
def spWayStub (K : PySem.W.Frag) : Sp := fun vs H Q _ => ∃ (a : Addr) (s t : Int) (m r : List V) (e : En), vs = [.ref a] ∧ StAt K H a s t m e r ∧ NewT K H (wyV (wayE s t e)) Q
def spWayOf (K : PySem.W.Frag) : Sp := fun vs H Q _ => ∃ (a : Addr), vs = [.ref a] ∧
  ((∃ (s t : Int) (m r : List V) (e : En), PkAt K H a s t m e r ∧ NewT K H (wyV (wayE s t e)) Q) ∨
   (∃ (ba sa : Addr) (x1 x2 x3 x4 x5 x6 y1 y2 y3 : V) (s t : Int) (m r : List V) (e : En), SqT K H a [.str sPk, x1, x2, x3, x4, x5, x6, .ref ba] ∧ SqT K H ba [.str sFl, y1, y2, y3, .ref sa] ∧ StAt K H sa s t m e r ∧ NewT K H (wyV (wayE s t e).turn) Q))
def spNamed (K : PySem.W.Frag) : Sp := fun vs H Q _ => ∃ (a wa : Addr) (e : En) (r : List V) (w : Wy), vs = [.ref a, .ref wa] ∧ SqT K H a (enV e ++ r) ∧ SqT K H wa (wyV w) ∧ NewT K H (enV (nameE w e)) Q
def spMoved (K : PySem.W.Frag) : Sp := fun vs H Q _ => ∃ (a wa : Addr) (s t : Int) (m r : List V) (e : En) (w : Wy), vs = [.ref a, .ref wa] ∧ PkAt K H a s t m e r ∧ r ≠ [] ∧ r.length ≤ 100 ∧ SqT K H wa (wyV w) ∧
  ∀ (x : Addr) (H' : Hp), Same H H' → PkAt K H' x w.s w.t m (nameE w e) r → Q (.ref x) H'
def spMovedSum (K : PySem.W.Frag) : Sp := fun vs H Q _ => ∃ (n : Int) (a b : Addr) (xs ys : List Int), vs = [.int n, .ref a, .ref b] ∧ SqL K H a (xs.map V.int) ∧ SqL K H b (ys.map V.int) ∧ Q (.int (mv n xs.sum ys.sum)) H
def spPairs (K : PySem.W.Frag) : Sp := fun vs H Q _ => ∃ (wa : Addr) (w : Wy), vs = [.ref wa] ∧ SqT K H wa (wyV w) ∧ ∀ (x : Addr) (H' : Hp), Same H H' → SqL K H' x ((wyP w).map V.int) → Q (.ref x) H'
def spMvU (K : PySem.W.Frag) : Sp := fun vs H Q _ => ∃ (a wa : Addr) (s t f to n : Int) (m : List V) (w : Wy), vs = [.ref a, .ref wa] ∧ StAt K H a s t m (.udp f to) [.int n] ∧ SqT K H wa (wyV w) ∧ ∀ H', Same H H' → Q (.int (mvU ⟨sUdp, s, f, t, to⟩ w n)) H'
/-- the rest of a moved part -/
def mvR (s t : Int) (w : Wy) : En → List V → List V → Prop
  | .udp f to, r, r' => ∃ n, r = [.int n] ∧ r' = [.int (mvU ⟨sUdp, s, f, t, to⟩ w n)]
  | .tcp _ _, r, r' => r' = r ∧ ∃ q, r = [q]
  | .echo a i, r, r' => ∃ no n, r = [no, .int n] ∧ r' = [no, .int (mv n i (if a = true then w.sp else w.tp))]
def spMovedStub (K : PySem.W.Frag) : Sp := fun vs H Q _ => ∃ (a wa : Addr) (s t : Int) (m r r' : List V) (e : En) (w : Wy), vs = [.ref a, .ref wa] ∧ StAt K H a s t m e r ∧ mvR s t w e r r' ∧ SqT K H wa (wyV w) ∧
  ∀ (x : Addr) (H' : Hp), Same H H' → StAt K H' x w.s w.t m (nameE w e) r' → Q (.ref x) H'
/-- what follows, shown once -/
theorem seq_key {a r : TS} {D : Ends} {σ : L2.St} {H : Hp} (Good : L2.St → Hp → Prop) (key : ∀ σ' H', Good σ' H' → r D σ' H') (h : (∀ σ' H', Good σ' H' → r D σ' H') → tSeq a r D σ H) : tSeq a r D σ H := h key
theorem seq_if {c : TT} {t u r : TS} {D : Ends} {σ : L2.St} {H : Hp} (Good : L2.St → Hp → Prop) (key : ∀ σ' H', Good σ' H' → r D σ' H') (h : (∀ σ' H', Good σ' H' → r D σ' H') → tSeq (tIfS c t u) r D σ H) : tSeq (tIfS c t u) r D σ H := h key
theorem gn {i : Nat} {v : V} {σ : L2.St} {H : Hp} {Q : L2.St → Hp → Prop} (h : Q (σ.set i (some v)) H) : gName i v σ H Q := h
theorem nx_go {f : L2.St → Hp → Prop} {rt : V → Hp → Prop} {bk ct : L2.St → Hp → Prop} {σ : L2.St} {H : Hp} (h : f σ H) : Ends.nx ⟨f, rt, bk, ct⟩ σ H := h

theorem drop3 (e : En) (r : List V) : cutV (enV e ++ r) (some 3) none = r := by
  rw [show (3 : Int) = ((3 : Nat) : Int) from rfl, cut_hi _ _ (by cases e <;> simp [enV])]
  cases e <;> rfl
theorem nw3 (e : En) (r : List V) : ¬ (HT.sIx (enV e ++ r).length 0 (some 3) = 0 ∧ HT.sIx (enV e ++ r).length (enV e ++ r).length none = (enV e ++ r).length) := by
  intro z
  have h : 3 ≤ (enV e ++ r).length := by cases e <;> simp [enV]
  have := z.1
  rw [show (3 : Int) = ((3 : Nat) : Int) from rfl, HT.sIx_nat, Nat.min_eq_left h] at this
  cases this
theorem enV_len (e : En) : (enV e).length = 3 := by cases e <;> rfl
theorem enV_ne (e : En) : enV e ≠ [] := by cases e <;> exact List.cons_ne_nil _ _
theorem slen {n : Nat} (h : n ≤ 10000) : n ≤ sizeLine := Nat.le_trans h (by decide)

section
variable {P : Program} {w : World} {K : PySem.W.Frag} {mg : Str → Option Value} {base : Heap}
theorem ok_way_between (T : Tx K mg) : FnOk P w K mg base CX0 1 T.ad_way_between T.fd_way_between ["source", "target", "part"] (spBetween K) := by
  refine T.d_way_between.F.ok x_way_between (fun vs H Q E h => ?_) (fun cdv A outer s H vs Q E hr h => ?_)
  · obtain ⟨s, t, a, e, r, rfl, _⟩ := h
    rfl
  · obtain ⟨s, t, a, e, r, rfl, hS, q⟩ := h
    have nd := x_way_between.nd
    refine ⟨_, (pss_cons (ps_if (pt_cmpR op_ne (pe_ix ix_tup (pv 2) pe_int (fun _ _ => rfl)) pe_str (nomark _)) (pss_one (ps_ret (pe_tup (pa_cons (pe_ix ix_tup (pv 2) pe_int (fun _ _ => rfl)) (pa_cons (pv 0) (pa_cons (pe_ix ix_tup (pv 2) pe_int (fun _ _ => rfl)) (pa_cons (pv 1) (pa_cons (pe_ix ix_tup (pv 2) pe_int (fun _ _ => rfl)) pa_nil)))))))) pss_nil)
        (pss_cons (ps_if (pt_cmpR op_eq (pe_ix ix_tup (pv 2) pe_int (fun _ _ => rfl)) pe_str (nomark _)) (pss_one (ps_ret (pe_tup (pa_cons pe_str (pa_cons (pv 0) (pa_cons (pe_ix ix_tup (pv 2) pe_int (fun _ _ => rfl)) (pa_cons (pv 1) (pa_cons pe_int pa_nil)))))))) pss_nil)
        (pss_one (ps_ret (pe_tup (pa_cons pe_str (pa_cons (pv 0) (pa_cons pe_int (pa_cons (pv 1) (pa_cons (pe_ix ix_tup (pv 2) pe_int (fun _ _ => rfl)) pa_nil)))))))))), ?_⟩
    cases e with
    | udp f to =>
      refine ⟨_, rfl, a, _, _, _, rfl, rfl, hS, atI_nat (j := 0) rfl, rfl, _, rfl, ?_⟩
      refine ⟨_, rfl, a, _, _, _, rfl, rfl, hS, atI_nat (j := 0) rfl, _, rfl, _, rfl, a, _, _, _, rfl, rfl, hS, atI_nat (j := 1) rfl, _, rfl, _, rfl, a, _, _, _, rfl, rfl, hS, atI_nat (j := 2) rfl, by show 5 ≤ sizeLine; decide, ?_⟩
      exact fun p n => q.mk (Same.refl _) p n
    | tcp f to =>
      refine ⟨_, rfl, a, _, _, _, rfl, rfl, hS, atI_nat (j := 0) rfl, rfl, _, rfl, ?_⟩
      refine ⟨_, rfl, a, _, _, _, rfl, rfl, hS, atI_nat (j := 0) rfl, _, rfl, _, rfl, a, _, _, _, rfl, rfl, hS, atI_nat (j := 1) rfl, _, rfl, _, rfl, a, _, _, _, rfl, rfl, hS, atI_nat (j := 2) rfl, by show 5 ≤ sizeLine; decide, ?_⟩
      exact fun p n => q.mk (Same.refl _) p n
    | echo b i =>
      refine ⟨_, rfl, a, _, _, _, rfl, rfl, hS, atI_nat (j := 0) rfl, rfl, _, rfl, ?_⟩
      cases b with
      | true =>
        refine ⟨_, rfl, a, _, _, _, rfl, rfl, hS, atI_nat (j := 1) rfl, rfl, _, rfl, ?_⟩
        refine ⟨_, rfl, _, rfl, a, _, _, _, rfl, rfl, hS, atI_nat (j := 2) rfl, _, rfl, by show 5 ≤ sizeLine; decide, ?_⟩
        exact fun p n => q.mk (Same.refl _) p n
      | false =>
        refine ⟨_, rfl, a, _, _, _, rfl, rfl, hS, atI_nat (j := 1) rfl, rfl, _, rfl, ?_⟩
        refine ⟨_, rfl, _, rfl, _, rfl, a, _, _, _, rfl, rfl, hS, atI_nat (j := 2) rfl, by show 5 ≤ sizeLine; decide, ?_⟩
        exact fun p n => q.mk (Same.refl _) p n
theorem ok_turned (T : Tx K mg) : FnOk P w K mg base CX0 1 T.ad_turned T.fd_turned ["way"] (spTurned K) := by
  refine T.d_turned.F.ok x_turned (fun vs H Q E h => ?_) (fun cdv A outer s H vs Q E hr h => ?_)
  · obtain ⟨a, w, rfl, _⟩ := h
    rfl
  · obtain ⟨a, w, rfl, hS, q⟩ := h
    have nd := x_turned.nd
    refine ⟨_, (pss_cons (ps_asg (pv 0) (pg_tup rfl (pgs_cons (pg_name (i := 1) nd rfl (Or.inl rfl)) (pgs_cons (pg_name (i := 2) nd rfl (Or.inl rfl)) (pgs_cons (pg_name (i := 3) nd rfl (Or.inl rfl)) (pgs_cons (pg_name (i := 4) nd rfl (Or.inl rfl)) (pgs_cons (pg_name (i := 5) nd rfl (Or.inl rfl)) pgs_nil)))))))
        (pss_one (ps_ret (pe_tup (pa_cons (pv 1) (pa_cons (pv 4) (pa_cons (pv 5) (pa_cons (pv 2) (pa_cons (pv 3) pa_nil))))))))), ?_⟩
    refine ⟨_, rfl, a, _, rfl, hS, rfl, _, _, rfl, _, _, rfl, _, _, rfl, _, _, rfl, _, _, rfl, rfl, ?_⟩
    exact ⟨_, rfl, _, rfl, _, rfl, _, rfl, _, rfl, by show 5 ≤ sizeLine; decide, fun p n => q.mk (Same.refl _) p n⟩
theorem ok_way_of_stub (T : Tx K mg) : FnOk P w K mg base CX0 2 T.ad_way_of_stub T.fd_way_of_stub ["stub"] (spWayStub K) := by
  refine T.d_way_of_stub.F.ok x_way_of_stub (fun vs H Q E h => ?_) (fun cdv A outer s H vs Q E hr h => ?_)
  · obtain ⟨a, s, t, m, r, e, rfl, _⟩ := h
    rfl
  · obtain ⟨a, s, t, m, r, e, rfl, ⟨pa, x1, x2, x3, x4, x5, rfl, hS, hP⟩, q⟩ := h
    have nd := x_way_of_stub.nd
    refine ⟨_, (pss_one (ps_ret (pe_call (ok_way_between T) hr (by rfl) T.d_way_between.g T.d_way_between.F.kp T.d_way_between.b .nil pass0 (pa_cons (pe_ix ix_tup (pv 0) pe_int (fun _ _ => rfl)) (pa_cons (pe_ix ix_tup (pv 0) pe_int (fun _ _ => rfl)) (pa_cons (pe_ix ix_tup (pv 0) pe_int (fun _ _ => rfl)) pa_nil)))))), ?_⟩
    exact ⟨_, rfl, a, _, _, _, rfl, rfl, hS, atI_nat (j := 1) rfl, _, rfl, a, _, _, _, rfl, rfl, hS, atI_nat (j := 2) rfl, _, rfl, a, _, _, _, rfl, rfl, hS, atI_nat (j := 8) rfl, s, t, pa, e, r, rfl, hP, q⟩
theorem ok_way_of (T : Tx K mg) : FnOk P w K mg base CX0 3 T.ad_way_of T.fd_way_of ["packet"] (spWayOf K) := by
  refine T.d_way_of.F.ok x_way_of (fun vs H Q E h => ?_) (fun cdv A outer s H vs Q E hr h => ?_)
  · obtain ⟨a, rfl, _⟩ := h
    rfl
  · obtain ⟨a, rfl, h⟩ := h
    have nd := x_way_of.nd
    refine ⟨_, (pss_cons (ps_set (i := 1) nd rfl (Or.inl rfl) (pe_ix ix_tup (pv 0) pe_int (fun _ _ => rfl)))
        (pss_cons (ps_if (pt_cmpR op_eq (pe_ix ix_tup (pv 1) pe_int (fun _ _ => rfl)) pe_str (nomark _)) (pss_one (ps_ret (pe_call (ok_turned T) (hr.mono (by decide)) (by rfl) T.d_turned.g T.d_turned.F.kp T.d_turned.b .nil pass0 (pa_cons (pe_call (ok_way_of_stub T) hr (by rfl) T.d_way_of_stub.g T.d_way_of_stub.F.kp T.d_way_of_stub.b .nil pass0 (pa_cons (pe_ix ix_tup (pv 1) pe_int (fun _ _ => rfl)) pa_nil)) pa_nil)))) pss_nil)
        (pss_one (ps_ret (pe_call (ok_way_between T) (hr.mono (by decide)) (by rfl) T.d_way_between.g T.d_way_between.F.kp T.d_way_between.b .nil pass0 (pa_cons (pe_ix ix_tup (pv 0) pe_int (fun _ _ => rfl)) (pa_cons (pe_ix ix_tup (pv 0) pe_int (fun _ _ => rfl)) (pa_cons (pv 1) pa_nil)))))))), ?_⟩
    rcases h with ⟨s, t, m, r, e, ⟨ba, x1, x2, x3, x4, rfl, hS, hB⟩, q⟩ | ⟨ba, sa, x1, x2, x3, x4, x5, x6, y1, y2, y3, s, t, m, r, e, hS, hB, hT, q⟩
    · refine ⟨_, rfl, a, _, _, _, rfl, rfl, hS, atI_nat (j := 7) rfl, ?_⟩
      have fin : ∀ σ' : L2.St, σ' = (L2.start Ns_way_of [V.ref a]).set 1 (some (V.ref ba)) → True := fun _ _ => trivial
      cases e with
      | udp f to => exact ⟨_, rfl, ba, _, _, _, rfl, rfl, hB, atI_nat (j := 0) rfl, rfl, _, rfl, _, rfl, a, _, _, _, rfl, rfl, hS, atI_nat (j := 1) rfl, _, rfl, a, _, _, _, rfl, rfl, hS, atI_nat (j := 2) rfl, _, rfl, s, t, ba, _, r, rfl, hB, q⟩
      | tcp f to => exact ⟨_, rfl, ba, _, _, _, rfl, rfl, hB, atI_nat (j := 0) rfl, rfl, _, rfl, _, rfl, a, _, _, _, rfl, rfl, hS, atI_nat (j := 1) rfl, _, rfl, a, _, _, _, rfl, rfl, hS, atI_nat (j := 2) rfl, _, rfl, s, t, ba, _, r, rfl, hB, q⟩
      | echo b i => exact ⟨_, rfl, ba, _, _, _, rfl, rfl, hB, atI_nat (j := 0) rfl, rfl, _, rfl, _, rfl, a, _, _, _, rfl, rfl, hS, atI_nat (j := 1) rfl, _, rfl, a, _, _, _, rfl, rfl, hS, atI_nat (j := 2) rfl, _, rfl, s, t, ba, _, r, rfl, hB, q⟩
    · refine ⟨_, rfl, a, _, _, _, rfl, rfl, hS, atI_nat (j := 7) rfl, ?_⟩
      refine ⟨_, rfl, ba, _, _, _, rfl, rfl, hB, atI_nat (j := 0) rfl, rfl, _, rfl, _, rfl, ba, _, _, _, rfl, rfl, hB, atI_nat (j := 4) rfl, sa, s, t, m, r, e, rfl, hT, fun x H1 s1 g1 => ?_⟩
      exact ⟨x, _, rfl, g1, fun y H2 s2 g2 => q y H2 (s1.trans s2) g2⟩
theorem ok_named (T : Tx K mg) : FnOk P w K mg base CX0 1 T.ad_named T.fd_named ["part", "way"] (spNamed K) := by
  refine T.d_named.F.ok x_named (fun vs H Q E h => ?_) (fun cdv A outer s H vs Q E hr h => ?_)
  · obtain ⟨a, wa, e, r, w, rfl, _⟩ := h
    rfl
  · obtain ⟨a, wa, e, r, w, rfl, hS, hW, q⟩ := h
    have nd := x_named.nd
    refine ⟨_, (pss_cons (ps_asg (pv 1) (pg_tup rfl (pgs_cons (pg_name (i := 2) nd rfl (Or.inl rfl)) (pgs_cons (pg_name (i := 3) nd rfl (Or.inl rfl)) (pgs_cons (pg_name (i := 4) nd rfl (Or.inl rfl)) (pgs_cons (pg_name (i := 5) nd rfl (Or.inl rfl)) (pgs_cons (pg_name (i := 6) nd rfl (Or.inl rfl)) pgs_nil)))))))
        (pss_cons (ps_if (pt_cmpR op_ne (pe_ix ix_tup (pv 0) pe_int (fun _ _ => rfl)) pe_str (nomark _)) (pss_one (ps_ret (pe_tup (pa_cons (pe_ix ix_tup (pv 0) pe_int (fun _ _ => rfl)) (pa_cons (pv 4) (pa_cons (pv 6) pa_nil)))))) pss_nil)
        (pss_one (ps_ret (pe_tup (pa_cons pe_str (pa_cons (pe_ix ix_tup (pv 0) pe_int (fun _ _ => rfl)) (pa_cons (pe_ifExp (pt_cmpR op_eq (pe_ix ix_tup (pv 0) pe_int (fun _ _ => rfl)) pe_str (nomark _)) (pv 4) (pv 6)) pa_nil)))))))), ?_⟩
    refine ⟨_, rfl, wa, _, rfl, hW, rfl, _, _, rfl, _, _, rfl, _, _, rfl, _, _, rfl, _, _, rfl, rfl, ?_⟩
    cases e with
    | udp f to => exact ⟨_, rfl, a, _, _, _, rfl, rfl, hS, atI_nat (j := 0) rfl, rfl, _, rfl, _, rfl, a, _, _, _, rfl, rfl, hS, atI_nat (j := 0) rfl, _, rfl, _, rfl, by show 3 ≤ sizeLine; decide, fun p n => q.mk (Same.refl _) p n⟩
    | tcp f to => exact ⟨_, rfl, a, _, _, _, rfl, rfl, hS, atI_nat (j := 0) rfl, rfl, _, rfl, _, rfl, a, _, _, _, rfl, rfl, hS, atI_nat (j := 0) rfl, _, rfl, _, rfl, by show 3 ≤ sizeLine; decide, fun p n => q.mk (Same.refl _) p n⟩
    | echo b i =>
      refine ⟨_, rfl, a, _, _, _, rfl, rfl, hS, atI_nat (j := 0) rfl, rfl, _, rfl, ?_⟩
      cases b with
      | true => exact ⟨_, rfl, a, _, _, _, rfl, rfl, hS, atI_nat (j := 1) rfl, _, rfl, a, _, _, _, rfl, rfl, hS, atI_nat (j := 1) rfl, rfl, _, rfl, _, rfl, by show 3 ≤ sizeLine; decide, fun p n => q.mk (Same.refl _) p n⟩
      | false => exact ⟨_, rfl, a, _, _, _, rfl, rfl, hS, atI_nat (j := 1) rfl, _, rfl, a, _, _, _, rfl, rfl, hS, atI_nat (j := 1) rfl, rfl, _, rfl, _, rfl, by show 3 ≤ sizeLine; decide, fun p n => q.mk (Same.refl _) p n⟩
end

section
variable {P : Program} {w : World} {K : PySem.W.Frag} {mg : Str → Option Value} {base : Heap}
theorem ok_moved (T : Tx K mg) : FnOk P w K mg base CX0 2 T.ad_moved T.fd_moved ["packet", "way"] (spMoved K) := by
  refine T.d_moved.F.ok x_moved (fun vs H Q E h => ?_) (fun cdv A outer s H vs Q E hr h => ?_)
  · obtain ⟨a, wa, s, t, m, r, e, w, rfl, _⟩ := h
    rfl
  · obtain ⟨a, wa, s, t, m, r, e, w, rfl, ⟨ba, x1, x2, x3, x4, rfl, hS, hB⟩, hr0, hrl, hW, q⟩ := h
    have nd := x_moved.nd
    refine ⟨_, (pss_cons (ps_set (i := 2) nd rfl (Or.inl rfl) (pe_ix ix_tup (pv 0) pe_int (fun _ _ => rfl)))
        (pss_one (ps_ret (pe_op op_catT (pe_op op_catT (pe_tup (pa_cons pe_str (pa_cons (pe_ix ix_tup (pv 1) pe_int (fun _ _ => rfl)) (pa_cons (pe_ix ix_tup (pv 1) pe_int (fun _ _ => rfl)) pa_nil)))) (pe_slice sl_tup (pv 0) (po_some pe_int) (po_some pe_int))) (pe_tup (pa_cons (pe_op op_catT (pe_call (ok_named T) hr (by rfl) T.d_named.g T.d_named.F.kp T.d_named.b .nil pass0 (pa_cons (pv 2) (pa_cons (pv 1) pa_nil))) (pe_slice sl_tup (pv 2) (po_some pe_int) po_none)) pa_nil)))))), ?_⟩
    refine ⟨_, rfl, a, _, _, _, rfl, rfl, hS, atI_nat (j := 7) rfl, ?_⟩
    refine ⟨_, rfl, wa, _, _, _, rfl, rfl, hW, atI_nat (j := 1) rfl, _, rfl, wa, _, _, _, rfl, rfl, hW, atI_nat (j := 3) rfl, by show 3 ≤ sizeLine; decide, fun p1 n1 => ?_⟩
    have s1 := same_upd (o := .tup [.str sPk, .int w.s, .int w.t]) n1
    refine ⟨_, rfl, 3, rfl, 7, rfl, a, _, rfl, sqT_same s1 hS, (fun z => absurd z.1 (by show ¬ (HT.sIx 8 0 (some 3) = 0); decide)), fun p2 n2 => ?_⟩
    have s2 := same_upd (o := .tup [x1, x2, x3, x4]) n2
    refine ⟨p1, p2, [.str sPk, .int w.s, .int w.t], [x1, x2, x3, x4], rfl, rfl, SqT.of (s2 _ _ upd_same), SqT.of upd_same, List.cons_ne_nil _ _, (by show 3 + 4 ≤ sizeLine; decide), (fun z => nomatch z), fun _ p3 n3 => ?_⟩
    have s3 := same_upd (o := .tup ([.str sPk, .int w.s, .int w.t] ++ [x1, x2, x3, x4])) n3
    have s13 := s1.trans (s2.trans s3)
    refine ⟨_, rfl, _, rfl, ba, wa, e, r, w, rfl, sqT_same s13 hB, sqT_same s13 hW, fun x H4 s4 g4 => ?_⟩
    have s14 := s13.trans s4
    refine ⟨_, rfl, 3, rfl, ba, _, rfl, sqT_same s14 hB, nw3 e r, fun p4 n4 => ?_⟩
    have s5 := same_upd (o := .tup (cutV (enV e ++ r) (some 3) none)) n4
    refine ⟨x, p4, _, r, rfl, rfl, sqT_same s5 g4, SqT.of (by rw [upd_same, drop3]), enV_ne _, slen (by rw [enV_len]; omega), (fun z => absurd z hr0), fun _ p5 n5 => ?_⟩
    have s6 := same_upd (o := .tup (enV (nameE w e) ++ r)) n5
    refine ⟨by show 1 ≤ sizeLine; decide, fun p6 n6 => ?_⟩
    have s7 := same_upd (o := .tup [.ref p5]) n6
    have s57 := s4.trans (s5.trans (s6.trans s7))
    refine ⟨p3, p6, _, [.ref p5], rfl, rfl, SqT.of (s57 _ _ upd_same), SqT.of upd_same, List.cons_ne_nil _ _, (by show 7 + 1 ≤ sizeLine; decide), (fun z => nomatch z), fun _ p7 n7 => ?_⟩
    have s8 := same_upd (o := .tup ([.str sPk, .int w.s, .int w.t] ++ [x1, x2, x3, x4] ++ [.ref p5])) n7
    exact q p7 _ (s13.trans (s57.trans s8)) ⟨p5, x1, x2, x3, x4, rfl, SqT.of upd_same, SqT.of (s8 _ _ (s7 _ _ upd_same))⟩
theorem ok_moved_sum (T : Tx K mg) : FnOk P w K mg base CX0 1 T.ad_moved_sum T.fd_moved_sum ["number", "olds", "news"] (spMovedSum K) := by
  refine T.d_moved_sum.F.ok x_moved_sum (fun vs H Q E h => ?_) (fun cdv A outer s H vs Q E hr h => ?_)
  · obtain ⟨n, a, b, xs, ys, rfl, _⟩ := h
    rfl
  · obtain ⟨n, a, b, xs, ys, rfl, hA, hB, q⟩ := h
    have nd := x_moved_sum.nd
    refine ⟨_, (pss_cons (ps_set (i := 3) nd rfl (Or.inl rfl) (pe_op op_mod (pe_op op_add (pe_op op_sub (pe_op op_sub pe_int (pv 0)) (pe_callB (cr_sum rfl) (by rfl) T.b_sum (by decide +kernel) (pa_cons (pv 1) pa_nil))) (pe_callB (cr_sum rfl) (by rfl) T.b_sum (by decide +kernel) (pa_cons (pv 2) pa_nil))) pe_int))
        (pss_cons (ps_if (pt_cmpR op_eq (pv 3) pe_int (nomark _)) (pss_one (ps_ret pe_int)) pss_nil)
        (pss_one (ps_ret (pe_op op_sub pe_int (pv 3)))))), ?_⟩
    refine ⟨_, rfl, _, _, rfl, rfl, _, rfl, a, xs, rfl, hA, _, _, rfl, rfl, _, rfl, b, ys, rfl, hB, _, _, rfl, rfl, _, _, rfl, rfl, (by show (0 : Int) < 65535; decide), ?_⟩
    unfold mv at q
    refine ⟨_, rfl, rfl, _, rfl, ite2 (fun e => ?_) (fun e => ?_)⟩
    · have z : (65535 - n - xs.sum + ys.sum) % 65535 = 0 := V.int.inj (of_decide_eq_true e)
      rw [if_pos z] at q
      exact q
    · have z : ¬ (65535 - n - xs.sum + ys.sum) % 65535 = 0 := fun z => e (decide_eq_true (congrArg V.int z))
      rw [if_neg z] at q
      exact ⟨_, rfl, _, _, rfl, rfl, q⟩
theorem ok_pairs_of_way (T : Tx K mg) : FnOk P w K mg base CX0 1 T.ad_pairs_of_way T.fd_pairs_of_way ["way"] (spPairs K) := by
  refine T.d_pairs_of_way.F.ok x_pairs_of_way (fun vs H Q E h => ?_) (fun cdv A outer s H vs Q E hr h => ?_)
  · obtain ⟨wa, w, rfl, _⟩ := h
    rfl
  · obtain ⟨wa, w, rfl, hW, q⟩ := h
    have nd := x_pairs_of_way.nd
    refine ⟨_, (pss_cons (ps_asg (pv 0) (pg_tup rfl (pgs_cons (pg_name (i := 1) nd rfl (Or.inl rfl)) (pgs_cons (pg_name (i := 2) nd rfl (Or.inl rfl)) (pgs_cons (pg_name (i := 3) nd rfl (Or.inl rfl)) (pgs_cons (pg_name (i := 4) nd rfl (Or.inl rfl)) (pgs_cons (pg_name (i := 5) nd rfl (Or.inl rfl)) pgs_nil)))))))
        (pss_one (ps_ret (pe_lst (pa_cons (pe_op op_fdiv (pv 2) pe_int) (pa_cons (pe_op op_mod (pv 2) pe_int) (pa_cons (pe_op op_fdiv (pv 4) pe_int) (pa_cons (pe_op op_mod (pv 4) pe_int) (pa_cons (pv 3) (pa_cons (pv 5) pa_nil)))))))))), ?_⟩
    refine ⟨_, rfl, wa, _, rfl, hW, rfl, _, _, rfl, _, _, rfl, _, _, rfl, _, _, rfl, _, _, rfl, rfl, ?_⟩
    refine ⟨_, rfl, _, _, rfl, rfl, ⟨by decide, by decide⟩, _, rfl, _, _, rfl, rfl, (by show (0 : Int) < 65536; decide), _, rfl, _, _, rfl, rfl, ⟨by decide, by decide⟩, _, rfl, _, _, rfl, rfl, (by show (0 : Int) < 65536; decide), _, rfl, _, rfl, by show 6 ≤ sizeLine; decide, fun p n => ?_⟩
    exact q p _ (same_upd n) (SqL.of upd_same)
theorem ok_moved_udp_sum (T : Tx K mg) : FnOk P w K mg base CX0 3 T.ad_moved_udp_sum T.fd_moved_udp_sum ["stub", "way"] (spMvU K) := by
  refine T.d_moved_udp_sum.F.ok x_moved_udp_sum (fun vs H Q E h => ?_) (fun cdv A outer s H vs Q E hr h => ?_)
  · obtain ⟨a, wa, s, t, f, to, n, m, w, rfl, _⟩ := h
    rfl
  · obtain ⟨a, wa, s, t, f, to, n, m, w, rfl, hA, hW, q⟩ := h
    have nd := x_moved_udp_sum.nd
    refine ⟨_, (pss_cons (ps_set (i := 2) nd rfl (Or.inl rfl) (pe_ix ix_seq (pe_ix ix_tup (pv 0) pe_int (fun _ _ => rfl)) pe_int (fun _ _ => rfl)))
        (pss_cons (ps_if (pt_cmpR op_eq (pv 2) pe_int (nomark _)) (pss_one (ps_ret pe_int)) pss_nil)
        (pss_cons (ps_set (i := 3) nd rfl (Or.inl rfl) (pe_call (ok_moved_sum T) (hr.mono (by decide)) (by rfl) T.d_moved_sum.g T.d_moved_sum.F.kp T.d_moved_sum.b .nil pass0 (pa_cons (pv 2) (pa_cons (pe_call (ok_pairs_of_way T) (hr.mono (by decide)) (by rfl) T.d_pairs_of_way.g T.d_pairs_of_way.F.kp T.d_pairs_of_way.b .nil pass0 (pa_cons (pe_call (ok_way_of_stub T) hr (by rfl) T.d_way_of_stub.g T.d_way_of_stub.F.kp T.d_way_of_stub.b .nil pass0 (pa_cons (pv 0) pa_nil)) pa_nil)) (pa_cons (pe_call (ok_pairs_of_way T) (hr.mono (by decide)) (by rfl) T.d_pairs_of_way.g T.d_pairs_of_way.F.kp T.d_pairs_of_way.b .nil pass0 (pa_cons (pv 1) pa_nil)) pa_nil)))))
        (pss_one (ps_ret (pe_ifExp (pt_cmpR op_eq (pv 3) pe_int (nomark _)) pe_int (pv 3))))))), ?_⟩
    obtain ⟨pa, x1, x2, x3, x4, x5, rfl, hS, hP⟩ := id hA
    refine ⟨_, rfl, a, _, _, _, rfl, rfl, hS, atI_nat (j := 8) rfl, ix_sq (.inr hP) (atI_nat (j := 3) rfl) ?_⟩
    unfold mvU at q
    refine ⟨_, rfl, rfl, _, rfl, ite2 (fun e => ?_) (fun e => ?_)⟩
    · have z : n = 0 := V.int.inj (of_decide_eq_true e)
      rw [if_pos z] at q
      exact q H (Same.refl H)
    have z : ¬ n = 0 := fun z => e (decide_eq_true (congrArg V.int z))
    rw [if_neg z] at q
    refine ⟨_, rfl, _, rfl, a, s, t, _, _, _, rfl, hA, fun x H1 s1 g1 => ⟨x, _, rfl, g1, fun y H2 s2 g2 => ?_⟩⟩
    refine ⟨_, rfl, wa, w, rfl, sqT_same (s1.trans s2) hW, fun y2 H3 s3 g3 => ?_⟩
    have s13 := s1.trans (s2.trans s3)
    refine ⟨n, y, y2, _, _, rfl, s3.seq g2, g3, ?_⟩
    refine ⟨_, rfl, rfl, _, rfl, ite2 (fun e2 => ?_) (fun e2 => ?_)⟩
    · have z2 : mv n (wyP ⟨sUdp, s, f, t, to⟩).sum (wyP w).sum = 0 := V.int.inj (of_decide_eq_true e2)
      have q3 := q H3 s13
      rw [if_pos z2] at q3
      exact q3
    · have q3 := q H3 s13
      have z2 : ¬ mv n (wyP ⟨sUdp, s, f, t, to⟩).sum (wyP w).sum = 0 := fun z2 => e2 (decide_eq_true (congrArg V.int z2))
      rw [if_neg z2] at q3
      exact ⟨_, rfl, q3⟩
theorem ok_moved_stub (T : Tx K mg) : FnOk P w K mg base CX0 4 T.ad_moved_stub T.fd_moved_stub ["stub", "way"] (spMovedStub K) := by
  refine T.d_moved_stub.F.ok x_moved_stub (fun vs H Q E h => ?_) (fun cdv A outer s H vs Q E hr h => ?_)
  · obtain ⟨a, wa, s, t, m, r, r', e, w, rfl, _⟩ := h
    rfl
  · obtain ⟨a, wa, s, t, m, r, r', e, w, rfl, hA, hm, hW, q⟩ := h
    have nd := x_moved_stub.nd
    refine ⟨_, (pss_cons (ps_set (i := 2) nd rfl (Or.inl rfl) (pe_ix ix_tup (pv 0) pe_int (fun _ _ => rfl)))
        (pss_cons (ps_set (i := 3) nd rfl (Or.inl rfl) (pe_slice sl_tup (pv 2) (po_some pe_int) po_none))
        (pss_cons (ps_if (pt_cmpR op_eq (pe_ix ix_tup (pv 2) pe_int (fun _ _ => rfl)) pe_str (nomark _)) (pss_one (ps_set (i := 3) nd rfl (Or.inl rfl) (pe_tup (pa_cons (pe_call (ok_moved_udp_sum T) hr (by rfl) T.d_moved_udp_sum.g T.d_moved_udp_sum.F.kp T.d_moved_udp_sum.b .nil pass0 (pa_cons (pv 0) (pa_cons (pv 1) pa_nil))) pa_nil)))) (pss_one (ps_if (pt_cmpR op_eq (pe_ix ix_tup (pv 2) pe_int (fun _ _ => rfl)) pe_str (nomark _)) (pss_cons (ps_set (i := 4) nd rfl (Or.inl rfl) (pe_ix ix_tup (pe_call (ok_named T) (hr.mono (by decide)) (by rfl) T.d_named.g T.d_named.F.kp T.d_named.b .nil pass0 (pa_cons (pv 2) (pa_cons (pv 1) pa_nil))) pe_int (fun _ _ => rfl)))
        (pss_one (ps_set (i := 3) nd rfl (Or.inl rfl) (pe_tup (pa_cons (pe_ix ix_tup (pv 2) pe_int (fun _ _ => rfl)) (pa_cons (pe_call (ok_moved_sum T) (hr.mono (by decide)) (by rfl) T.d_moved_sum.g T.d_moved_sum.F.kp T.d_moved_sum.b .nil pass0 (pa_cons (pe_ix ix_tup (pv 2) pe_int (fun _ _ => rfl)) (pa_cons (pe_lst (pa_cons (pe_ix ix_tup (pv 2) pe_int (fun _ _ => rfl)) pa_nil)) (pa_cons (pe_lst (pa_cons (pv 4) pa_nil)) pa_nil)))) pa_nil)))))) pss_nil)))
        (pss_one (ps_ret (pe_op op_catT (pe_op op_catT (pe_tup (pa_cons pe_str (pa_cons (pe_ix ix_tup (pv 1) pe_int (fun _ _ => rfl)) (pa_cons (pe_ix ix_tup (pv 1) pe_int (fun _ _ => rfl)) pa_nil)))) (pe_slice sl_tup (pv 0) (po_some pe_int) (po_some pe_int))) (pe_tup (pa_cons (pe_op op_catT (pe_call (ok_named T) (hr.mono (by decide)) (by rfl) T.d_named.g T.d_named.F.kp T.d_named.b .nil pass0 (pa_cons (pv 2) (pa_cons (pv 1) pa_nil))) (pv 3)) pa_nil)))))))), ?_⟩
    obtain ⟨pa, x1, x2, x3, x4, x5, rfl, hS, hP⟩ := id hA
    have hr' : r' ≠ [] ∧ r'.length ≤ 2 := by
      cases e with
      | udp f to => obtain ⟨n, _, rfl⟩ := hm; exact ⟨List.cons_ne_nil _ _, (by show 1 ≤ 2; decide)⟩
      | tcp f to => obtain ⟨rfl, z, rfl⟩ := hm; exact ⟨List.cons_ne_nil _ _, (by show 1 ≤ 2; decide)⟩
      | echo b i => obtain ⟨no, n, _, rfl⟩ := hm; exact ⟨List.cons_ne_nil _ _, (by show 2 ≤ 2; decide)⟩
    refine ⟨_, rfl, a, _, _, _, rfl, rfl, hS, atI_nat (j := 8) rfl, ?_⟩
    refine ⟨_, rfl, 3, rfl, pa, _, rfl, hP, nw3 e r, fun p1 n1 => ?_⟩
    have s1 := same_upd (o := .tup (cutV (enV e ++ r) (some 3) none)) n1
    have g1 : (upd H p1 (.tup (cutV (enV e ++ r) (some 3) none))) p1 = some (.tup r) := by rw [upd_same, drop3]
    generalize upd H p1 (.tup (cutV (enV e ++ r) (some 3) none)) = H1 at s1 g1 ⊢
    refine gn (nx_go ?_)
    refine seq_if (fun σ' H' => ∃ (ra : Addr) (v4 : Option V), σ' = [some (.ref a), some (.ref wa), some (.ref pa), some (.ref ra), v4] ∧ Same H H' ∧ SqT K H' ra r') ?rest (fun key => ?_)
    rotate_left
    · have hP1 := sqT_same s1 hP
      have hW1 := sqT_same s1 hW
      cases e with
      | udp f to =>
        obtain ⟨n, rfl, rfl⟩ := hm
        refine ⟨_, rfl, pa, _, _, _, rfl, rfl, hP1, atI_nat (j := 0) rfl, rfl, _, rfl, ?_⟩
        refine ⟨_, rfl, _, rfl, a, wa, s, t, f, to, n, _, w, rfl, hA.same s1, hW1, fun H2 s2 => ⟨by show 1 ≤ sizeLine; decide, fun p2 n2 => ?_⟩⟩
        exact key _ _ ⟨p2, _, rfl, s1.trans (s2.trans (same_upd n2)), SqT.of upd_same⟩
      | tcp f to =>
        obtain ⟨rfl, z, rfl⟩ := hm
        refine ⟨_, rfl, pa, _, _, _, rfl, rfl, hP1, atI_nat (j := 0) rfl, rfl, _, rfl, ?_⟩
        refine ⟨_, rfl, pa, _, _, _, rfl, rfl, hP1, atI_nat (j := 0) rfl, rfl, _, rfl, ?_⟩
        exact key _ _ ⟨p1, _, rfl, s1, SqT.of g1⟩
      | echo b i =>
        obtain ⟨no, n, rfl, rfl⟩ := hm
        refine ⟨_, rfl, pa, _, _, _, rfl, rfl, hP1, atI_nat (j := 0) rfl, rfl, _, rfl, ?_⟩
        refine ⟨_, rfl, pa, _, _, _, rfl, rfl, hP1, atI_nat (j := 0) rfl, rfl, _, rfl, ?_⟩
        refine ⟨_, rfl, _, rfl, pa, wa, _, _, w, rfl, hP1, hW1, fun x H2 s2 g2 => ⟨x, _, _, _, rfl, rfl, g2, atI_nat (j := 2) rfl, ?_⟩⟩
        have hP2 := sqT_same s2 hP1
        refine ⟨_, rfl, pa, _, _, _, rfl, rfl, hP2, atI_nat (j := 3) rfl, _, rfl, pa, _, _, _, rfl, rfl, hP2, atI_nat (j := 4) rfl, _, rfl, pa, _, _, _, rfl, rfl, hP2, atI_nat (j := 2) rfl, by show 1 ≤ sizeLine; decide, fun p2 n2 => ?_⟩
        refine ⟨_, rfl, by show 1 ≤ sizeLine; decide, fun p3 n3 => ?_⟩
        have s3 := same_upd (o := .lst [.int i]) n2
        have s4 := same_upd (o := .lst [.int (if b = true then w.sp else w.tp)]) n3
        refine ⟨n, p2, p3, [i], [if b = true then w.sp else w.tp], rfl, SqL.of (s4 _ _ upd_same), SqL.of upd_same, ?_⟩
        refine ⟨by show 2 ≤ sizeLine; decide, fun p4 n4 => ?_⟩
        refine key _ _ ⟨p4, _, rfl, s1.trans (s2.trans (s3.trans (s4.trans (same_upd n4)))), SqT.of ?_⟩
        rw [upd_same]
        simp only [List.sum_cons, List.sum_nil, Int.add_zero]
    rintro σ' H2 ⟨ra, v4, rfl, s2, gR⟩
    have hS2 := sqT_same s2 hS
    have hW2 := sqT_same s2 hW
    refine ⟨_, rfl, wa, _, _, _, rfl, rfl, hW2, atI_nat (j := 1) rfl, _, rfl, wa, _, _, _, rfl, rfl, hW2, atI_nat (j := 3) rfl, by show 3 ≤ sizeLine; decide, fun q1 m1 => ?_⟩
    have t1 := same_upd (o := .tup [.str sSt, .int w.s, .int w.t]) m1
    refine ⟨_, rfl, 3, rfl, 8, rfl, a, _, rfl, sqT_same t1 hS2, (fun z => absurd z.1 (by show ¬ (HT.sIx 9 0 (some 3) = 0); decide)), fun q2 m2 => ?_⟩
    have t2 := same_upd (o := .tup [x1, x2, x3, x4, x5]) m2
    refine ⟨q1, q2, [.str sSt, .int w.s, .int w.t], [x1, x2, x3, x4, x5], rfl, rfl, SqT.of (t2 _ _ upd_same), SqT.of upd_same, List.cons_ne_nil _ _, (by show 3 + 5 ≤ sizeLine; decide), (fun z => nomatch z), fun _ q3 m3 => ?_⟩
    have t3 := same_upd (o := .tup ([.str sSt, .int w.s, .int w.t] ++ [x1, x2, x3, x4, x5])) m3
    have t13 := t1.trans (t2.trans t3)
    refine ⟨_, rfl, _, rfl, pa, wa, e, r, w, rfl, sqT_same (s2.trans t13) hP, sqT_same t13 hW2, fun x H4 t4 g4 => ?_⟩
    refine ⟨_, rfl, x, ra, _, r', rfl, rfl, g4, sqT_same (t13.trans t4) gR, enV_ne _, slen (by rw [enV_len]; omega), (fun z => absurd z hr'.1), fun _ q5 m5 => ?_⟩
    have t5 := same_upd (o := .tup (enV (nameE w e) ++ r')) m5
    refine ⟨by show 1 ≤ sizeLine; decide, fun q6 m6 => ?_⟩
    have t6 := same_upd (o := .tup [.ref q5]) m6
    have t46 := t4.trans (t5.trans t6)
    refine ⟨q3, q6, _, [.ref q5], rfl, rfl, SqT.of (t46 _ _ upd_same), SqT.of upd_same, List.cons_ne_nil _ _, (by show 8 + 1 ≤ sizeLine; decide), (fun z => nomatch z), fun _ q7 m7 => ?_⟩
    have t7 := same_upd (o := .tup ([.str sSt, .int w.s, .int w.t] ++ [x1, x2, x3, x4, x5] ++ [.ref q5])) m7
    exact q q7 _ (s2.trans (t13.trans (t46.trans t7))) ⟨q5, x1, x2, x3, x4, x5, rfl, SqT.of upd_same, SqT.of (t7 _ _ (t6 _ _ upd_same))⟩
end

/-- the law's own sum of octets, of any numbers -/
def cy (t : Int) : Int := t / 65536 + t % 65536
def wt : Bool → List Int → Int
  | _, [] => 0
  | b, x :: r => x * (if b = true then 256 else 1) + wt (!b) r
def lsum (ns : List Int) : Int := 65535 - Nat.repeat cy 6 (wt true ns)
theorem wt_take : ∀ (l : List Int) (b : Bool) (k : Nat) (x : Int), l[k]? = some x → wt b (l.take (k + 1)) = wt b (l.take k) + x * (if (decide (k % 2 = 0) == b) = true then 256 else 1)
  | [], b, k, x, h => by simp at h
  | y :: r, b, 0, x, h => by
    have e : y = x := Option.some.inj h
    subst e
    show y * (if b = true then 256 else 1) + 0 = 0 + y * (if (true == b) = true then 256 else 1)
    cases b
    · show y * 1 + 0 = 0 + y * 1
      omega
    · show y * 256 + 0 = 0 + y * 256
      omega
  | y :: r, b, k + 1, x, h => by
    have ih := wt_take r (!b) k x h
    show y * (if b = true then 256 else 1) + wt (!b) (r.take (k + 1)) = y * (if b = true then 256 else 1) + wt (!b) (r.take k) + x * (if (decide ((k + 1) % 2 = 0) == b) = true then 256 else 1)
    rw [ih]
    have e : (decide (k % 2 = 0) == !b) = (decide ((k + 1) % 2 = 0) == b) := by
      by_cases hk : k % 2 = 0
      · rw [decide_eq_true hk, decide_eq_false (by omega : ¬ (k + 1) % 2 = 0)]
        cases b <;> rfl
      · rw [decide_eq_false hk, decide_eq_true (by omega : (k + 1) % 2 = 0)]
        cases b <;> rfl
    rw [e]
    omega
theorem wt_two (x y : Int) (r : List Int) : wt true (x :: y :: r) = 256 * x + y + wt true r := by
  show x * 256 + (y * 1 + wt true r) = _
  omega
theorem wt_app : ∀ (a b : List Int), a.length % 2 = 0 → wt true (a ++ b) = wt true a + wt true b
  | [], b, _ => by
    show wt true b = 0 + wt true b
    omega
  | [x], b, h => by simp at h
  | x :: y :: r, b, h => by
    have ih := wt_app r b (by simp only [List.length_cons] at h; omega)
    show wt true (x :: y :: (r ++ b)) = _
    rw [wt_two, wt_two, ih]
    omega
def Oc (l : List Int) : Prop := ∀ x ∈ l, 0 ≤ x ∧ x ≤ 255
theorem wt_bnd : ∀ (l : List Int), Oc l → 0 ≤ wt true l ∧ wt true l ≤ 65535 * (l.length : Int)
  | [], _ => ⟨by decide, by decide⟩
  | [x], h => by
    have hx := h x List.mem_cons_self
    have e : wt true [x] = 256 * x := by
      show x * 256 + 0 = _
      omega
    rw [e]
    simp only [List.length_cons, List.length_nil]
    omega
  | x :: y :: r, h => by
    have hx := h x List.mem_cons_self
    have hy := h y (List.mem_cons_of_mem _ List.mem_cons_self)
    have ih := wt_bnd r fun z hz => h z (List.mem_cons_of_mem _ (List.mem_cons_of_mem _ hz))
    rw [wt_two]
    simp only [List.length_cons]
    omega
def fo (t : Int) : Int := if t = 0 then 0 else (t - 1) % 65535 + 1
theorem cy6 (t : Int) (h0 : 0 ≤ t) (h1 : t ≤ 200000000) : Nat.repeat cy 6 t = fo t := by
  show cy (cy (cy (cy (cy (cy t))))) = fo t
  have step : ∀ a : Int, 0 ≤ a → 0 ≤ cy a ∧ (cy a) % 65535 = a % 65535 ∧ (cy a = 0 ↔ a = 0) := by
    intro a ha
    unfold cy
    omega
  have s1 := step t h0
  have b1 : cy t ≤ 68600 := by unfold cy; omega
  have s2 := step _ s1.1
  have b2 : cy (cy t) ≤ 65536 := by
    generalize cy t = a at *
    unfold cy
    omega
  have s3 := step _ s2.1
  have b3 : cy (cy (cy t)) ≤ 65535 := by
    generalize cy (cy t) = a at *
    unfold cy
    omega
  have e : ∀ a : Int, 0 ≤ a → a ≤ 65535 → cy a = a := by
    intro a ha hb
    unfold cy
    omega
  rw [e _ s3.1 b3, e _ s3.1 b3, e _ s3.1 b3]
  generalize cy (cy (cy t)) = c at *
  generalize cy (cy t) = b at *
  generalize cy t = a at *
  unfold fo
  split <;> omega
theorem lsum_eq {ns : List Int} {S : Int} (e : wt true ns = S) (h0 : 0 ≤ S) (h1 : S ≤ 200000000) : lsum ns = 65535 - fo S := by
  unfold lsum
  rw [e, cy6 S h0 h1]
theorem mv_right {S S' A B : Int} (h : S' - S = A - B) (h0 : 0 < S) (h1 : 0 < S') : mv (65535 - fo S) B A = 65535 - fo S' := by
  unfold mv fo
  rw [if_neg (by omega : ¬ S = 0), if_neg (by omega : ¬ S' = 0)]
  split <;> omega
theorem mv_any (n A B : Int) : 0 ≤ mv n B A ∧ mv n B A ≤ 65534 ∧ (mv n B A - n - B + A) % 65535 = 0 := by
  unfold mv
  split <;> omega
/-- two octets, four octets -/
def o2 (n : Int) : List Int := [n / 256, n % 256]
def o4 (n : Int) : List Int := [n / 65536 / 256, n / 65536 % 256, n % 65536 / 256, n % 65536 % 256]
theorem wt_o2 (n : Int) (r : List Int) : wt true (o2 n ++ r) = n + wt true r := by
  show wt true (n / 256 :: n % 256 :: r) = _
  rw [wt_two]
  omega
theorem wt_o4 (n : Int) (r : List Int) : wt true (o4 n ++ r) = n / 65536 + n % 65536 + wt true r := by
  show wt true (n / 65536 / 256 :: n / 65536 % 256 :: n % 65536 / 256 :: n % 65536 % 256 :: r) = _
  rw [wt_two, wt_two]
  omega
def spTwo : Sp := fun vs H Q _ => ∃ n : Int, vs = [.int n] ∧ ∀ (t : Addr) (H' : Hp), Same H H' → H' t = some (.lst ((o2 n).map V.int)) → Q (.ref t) H'
def spFour : Sp := fun vs H Q _ => ∃ n : Int, vs = [.int n] ∧ ∀ (t : Addr) (H' : Hp), Same H H' → H' t = some (.lst ((o4 n).map V.int)) → Q (.ref t) H'
def spLSum (K : PySem.W.Frag) : Sp := fun vs H Q _ => ∃ (a : Addr) (ns : List Int), vs = [.ref a] ∧ SqL K H a (ns.map V.int) ∧ ns.length ≤ 5000 ∧ Q (.int (lsum ns)) H
section
variable {P : Program} {w : World} {K : PySem.W.Frag} {mg : Str → Option Value} {base : Heap}
theorem ok_law_two (T : Tx K mg) : FnOk P w K mg base CX0 1 T.ad_law_two T.fd_law_two ["number"] spTwo := by
  refine T.d_law_two.F.ok x_law_two (fun vs H Q E h => ?_) (fun cdv A outer s H vs Q E hr h => ?_)
  · obtain ⟨n, rfl, _⟩ := h
    rfl
  · obtain ⟨n, rfl, q⟩ := h
    have nd := x_law_two.nd
    refine ⟨_, (pss_one (ps_ret (pe_lst (pa_cons (pe_op op_fdiv (pv 0) pe_int) (pa_cons (pe_op op_mod (pe_callTy call_int1 (by rfl) T.b_int (by decide +kernel) (pa_cons (pv 0) pa_nil)) pe_int) pa_nil))))), ?_⟩
    exact ⟨_, rfl, _, _, rfl, rfl, ⟨by decide, by decide⟩, _, rfl, .inl ⟨_, rfl, _, _, rfl, rfl, (by show (0 : Int) < 256; decide), by show 2 ≤ sizeLine; decide, fun p hp => q p _ (same_upd hp) upd_same⟩⟩
theorem ok_law_four (T : Tx K mg) : FnOk P w K mg base CX0 2 T.ad_law_four T.fd_law_four ["number"] spFour := by
  refine T.d_law_four.F.ok x_law_four (fun vs H Q E h => ?_) (fun cdv A outer s H vs Q E hr h => ?_)
  · obtain ⟨n, rfl, _⟩ := h
    rfl
  · obtain ⟨n, rfl, q⟩ := h
    have nd := x_law_four.nd
    refine ⟨_, (pss_one (ps_ret (pe_op op_cat (pe_call (ok_law_two T) hr (by rfl) T.d_law_two.g T.d_law_two.F.kp T.d_law_two.b .nil pass0 (pa_cons (pe_op op_fdiv (pv 0) pe_int) pa_nil)) (pe_call (ok_law_two T) hr (by rfl) T.d_law_two.g T.d_law_two.F.kp T.d_law_two.b .nil pass0 (pa_cons (pe_op op_mod (pe_callTy call_int1 (by rfl) T.b_int (by decide +kernel) (pa_cons (pv 0) pa_nil)) pe_int) pa_nil))))), ?_⟩
    refine ⟨_, rfl, _, _, rfl, rfl, ⟨by decide, by decide⟩, _, rfl, fun a H1 s1 g1 => ?_⟩
    refine ⟨_, rfl, .inl ⟨_, rfl, _, _, rfl, rfl, (by show (0 : Int) < 65536; decide), _, rfl, fun b H2 s2 g2 => ?_⟩⟩
    exact ⟨a, b, _, _, rfl, rfl, s2 _ _ g1, g2, (by show 2 + 2 ≤ sizeLine; decide), fun c hc => q c _ (s1.trans (s2.trans (same_upd hc))) upd_same⟩
theorem ok_law_sum (T : Tx K mg) : FnOk P w K mg base CX0 1 T.ad_law_sum T.fd_law_sum ["octets"] (spLSum K) := by
  refine T.d_law_sum.F.ok x_law_sum (fun vs H Q E h => ?_) (fun cdv A outer s H vs Q E hr h => ?_)
  · obtain ⟨a, ns, rfl, _⟩ := h
    rfl
  · obtain ⟨a, ns, rfl, hS, hl, q⟩ := h
    have nd := x_law_sum.nd
    refine ⟨_, (pss_cons (ps_set (i := 1) nd rfl (Or.inl rfl) pe_int)
        (pss_cons (ps_for PassesOwn.never rfl (pi_range1 (by rfl) T.b_range (pa_cons (pe_callB call_len_seq (by rfl) T.b_len (by decide +kernel) (pa_cons (pv 0) pa_nil)) pa_nil)) (pg_name (i := 2) nd rfl (Or.inl rfl)) (pss_one (ps_set (i := 1) nd rfl (Or.inl rfl) (pe_op op_add (pv 1) (pe_op op_mul (pe_ix ix_list (pv 0) (pv 2) (fun _ _ => rfl)) (pe_ifExp (pt_cmpR op_eq (pe_op op_mod (pe_callTy call_int1 (by rfl) T.b_int (by decide +kernel) (pa_cons (pv 2) pa_nil)) pe_int) pe_int (nomark _)) pe_int pe_int))))))
        (pss_cons (ps_for PassesOwn.never rfl (pi_range1 (by rfl) T.b_range (pa_cons pe_int pa_nil)) (pg_name (i := 3) nd rfl (Or.inl rfl)) (pss_one (ps_set (i := 1) nd rfl (Or.inl rfl) (pe_op op_add (pe_op op_fdiv (pv 1) pe_int) (pe_op op_mod (pe_callTy call_int1 (by rfl) T.b_int (by decide +kernel) (pa_cons (pv 1) pa_nil)) pe_int)))))
        (pss_one (ps_ret (pe_op op_sub pe_int (pv 1))))))), ?_⟩
    have hlm : ((ns.map V.int).length : Int) = (ns.length : Int) := by rw [List.length_map]
    refine ⟨_, rfl, a, _, rfl, .inl hS, _, rfl, by omega, by omega, for_range (n := ((ns.map V.int).length : Int).toNat) (fun i σ H' => ∃ v2 v3 : Option V, σ = [some (.ref a), some (.int (wt true (ns.take i))), v2, v3] ∧ H' = H)
      ⟨_, _, rfl, rfl⟩ ?_ ?_⟩
    · rintro i σ H1 hi ⟨v2, v3, rfl, rfl⟩
      have hin : i < ns.length := by omega
      have hx := List.getElem?_eq_getElem hin
      have hw := wt_take ns true i _ hx
      refine ⟨_, rfl, _, rfl, _, rfl, a, _, _, .int ns[i], rfl, rfl, hS, at_of (j := i) (by omega) (by rw [List.getElem?_map, hx]; rfl), ?_⟩
      refine ⟨_, rfl, .inl ⟨_, rfl, _, _, rfl, rfl, (by show (0 : Int) < 2; decide), rfl, _, rfl, ite2 (fun e => ?_) (fun e => ?_)⟩⟩
      · have e1 : (0 + (i : Int)) % 2 = 0 := V.int.inj (of_decide_eq_true e)
        rw [if_pos (by rw [decide_eq_true (by omega : i % 2 = 0)]; rfl)] at hw
        refine ⟨_, _, rfl, rfl, .inr ⟨by decide, by decide⟩, _, _, rfl, rfl, some (.int (0 + (i : Int))), v3, ?_, rfl⟩
        rw [hw]
        rfl
      · have e1 : ¬ (0 + (i : Int)) % 2 = 0 := fun z => e (decide_eq_true (congrArg V.int z))
        rw [if_neg (by rw [decide_eq_false (by omega : ¬ i % 2 = 0)]; decide)] at hw
        refine ⟨_, _, rfl, rfl, .inr ⟨by decide, by decide⟩, _, _, rfl, rfl, some (.int (0 + (i : Int))), v3, ?_, rfl⟩
        rw [hw]
        rfl
    · rintro σ H1 ⟨v2, v3, rfl, rfl⟩
      rw [List.take_of_length_le (by omega)]
      refine ⟨6, rfl, by decide, by decide, for_range (n := 6) (fun i σ H' => ∃ v3 : Option V, σ = [some (.ref a), some (.int (Nat.repeat cy i (wt true ns))), v2, v3] ∧ H' = H1)
        ⟨_, rfl, rfl⟩ ?_ ?_⟩
      · rintro i σ H2 hi ⟨v3, rfl, rfl⟩
        exact ⟨_, rfl, _, _, rfl, rfl, ⟨by decide, by decide⟩, _, rfl, .inl ⟨_, rfl, _, _, rfl, rfl, (by show (0 : Int) < 65536; decide), _, _, rfl, rfl, _, rfl, rfl⟩⟩
      · rintro σ H2 ⟨v3, rfl, rfl⟩
        exact ⟨_, rfl, _, _, rfl, rfl, q⟩
end

def kb (a : Bool) : Int := if a = true then 8 else 0
/-- the octets of a header -/
def hdF (hp nm sv wh sz pr : Int) : List Int := [69, sv] ++ o2 sz ++ o2 nm ++ [64 * wh, 0, hp, pr]
def hdE (s t : Int) : List Int := o4 s ++ o4 t
def hdS (s t hp nm sv wh sz pr : Int) : Int := wt true (hdF hp nm sv wh sz pr ++ hdE s t)
def hdO (s t hp nm sv wh sz pr : Int) : List Int := hdF hp nm sv wh sz pr ++ o2 (65535 - fo (hdS s t hp nm sv wh sz pr)) ++ hdE s t
def hdL (s t hp nm sv wh sz pr : Int) : List Int := hdF hp nm sv wh sz pr ++ o2 (lsum (hdF hp nm sv wh sz pr ++ hdE s t)) ++ hdE s t
theorem hdS_eq (s t hp nm sv wh sz pr : Int) : hdS s t hp nm sv wh sz pr = 256 * 69 + sv + sz + nm + 16384 * wh + 256 * hp + pr + (s / 65536 + s % 65536) + (t / 65536 + t % 65536) := by
  unfold hdS hdF hdE
  simp only [List.append_assoc]
  rw [show ∀ z : List Int, ([69, sv] : List Int) ++ z = 69 :: sv :: z from fun _ => rfl, wt_two, wt_o2, wt_o2, show ∀ z : List Int, ([64 * wh, 0, hp, pr] : List Int) ++ z = 64 * wh :: 0 :: hp :: pr :: z from fun _ => rfl, wt_two, wt_two, wt_o4]
  have e : wt true (o4 t) = t / 65536 + t % 65536 := by
    have := wt_o4 t []
    rw [List.append_nil] at this
    rw [this]
    show _ + 0 = _
    omega
  rw [e]
  omega
theorem hd_eq {s t hp nm sv wh sz pr : Int} (h0 : 0 ≤ hdS s t hp nm sv wh sz pr) (h1 : hdS s t hp nm sv wh sz pr ≤ 200000000) : hdL s t hp nm sv wh sz pr = hdO s t hp nm sv wh sz pr := by
  unfold hdL hdO
  rw [lsum_eq (S := hdS s t hp nm sv wh sz pr) rfl h0 h1]
/-- the parts of stubs -/
inductive Pt where
  | udp (f t n : Int)
  | tcp (f t n : Int)
  | echo (a : Bool) (i no n : Int)
def ptV : Pt → List V
  | .udp f t n => [.str sUdp, .int f, .int t, .int n]
  | .tcp f t n => [.str sTcp, .int f, .int t, .int n]
  | .echo a i no n => [.str sEcho, .str (aw a), .int i, .int no, .int n]
structure Sb where
  s : Int
  t : Int
  hp : Int
  nm : Int
  sv : Int
  wh : Int
  sz : Int
  p : Pt
def SbAt (K : PySem.W.Frag) (H : Hp) (a : Addr) (x : Sb) : Prop := ∃ pa, SqT K H a [.str sSt, .int x.s, .int x.t, .int x.hp, .int x.nm, .int x.sv, .int x.wh, .int x.sz, .ref pa] ∧ SqT K H pa (ptV x.p)
def prO : Pt → Int
  | .udp .. => 17
  | .tcp .. => 6
  | .echo .. => 1
def ptO (sz : Int) : Pt → List Int
  | .udp f t n => o2 f ++ o2 t ++ o2 (sz - 20) ++ o2 n
  | .tcp f t n => o2 f ++ o2 t ++ o4 n
  | .echo a i no n => [kb a, 0] ++ o2 n ++ o2 i ++ o2 no
def sbO (x : Sb) : List Int := hdO x.s x.t x.hp x.nm x.sv x.wh x.sz (prO x.p) ++ ptO x.sz x.p
def sbL (x : Sb) : List Int := hdL x.s x.t x.hp x.nm x.sv x.wh x.sz (prO x.p) ++ ptO x.sz x.p
/-- a first octet from 1 to 223, not 127 -/
def pl (a : Int) : Bool := if 1 ≤ a / 16777216 then (if a / 16777216 ≤ 223 then !decide (a / 16777216 = 127) else false) else false
def bt (v lo hi : Int) : Bool := if lo ≤ v then decide (v ≤ hi) else false
theorem bt_iff {v lo hi : Int} : bt v lo hi = true ↔ lo ≤ v ∧ v ≤ hi := by
  unfold bt
  split
  · rename_i h
    rw [decide_eq_true_iff]
    exact ⟨fun z => ⟨h, z⟩, fun z => z.2⟩
  · rename_i h
    exact ⟨fun z => (nomatch z), fun z => absurd z.1 h⟩
def hdB (s t hp nm sv wh least : Int) : List (Str × Bool) := [(Str.ofString "source", pl s), (Str.ofString "target", pl t), (Str.ofString "hops", bt hp least 255), (Str.ofString "name", bt nm 0 65535), (Str.ofString "service", bt sv 0 255), (Str.ofString "whole", bt wh 0 1)]
def ptB (sz : Int) : Pt → Bool
  | .udp f t n => bt f 1 65535 && (bt t 1 65535 && bt n 0 65535)
  | .tcp f t n => bt f 1 65535 && (bt t 1 65535 && (bt n 0 4294967295 && decide (40 ≤ sz)))
  | .echo _ i no n => bt i 1 65535 && (bt no 0 65535 && bt n 0 65535)
def fw (rows : List (Str × Bool)) : Option Str := (rows.find? fun r => !r.2).map (·.1)
def fwV (rows : List (Str × Bool)) : V := match fw rows with | none => .non | some n => .str n
theorem fw_none {rows : List (Str × Bool)} : fw rows = none ↔ rows.all (·.2) = true := by
  unfold fw
  rw [Option.map_eq_none_iff, List.find?_eq_none, List.all_eq_true]
  exact ⟨fun h r hr => by have := h r hr; cases e : r.2 <;> simp_all, fun h r hr => by have := h r hr; simp_all⟩
def rgt (x : Sb) : Bool := (hdB x.s x.t x.hp x.nm x.sv x.wh 0).all (·.2) && (bt x.sz 28 1500 && ptB x.sz x.p)
theorem pl_rng {a : Int} (h : pl a = true) : 16777216 ≤ a ∧ a ≤ 3758096383 := by
  unfold pl at h
  split at h
  · split at h
    · omega
    · cases h
  · cases h
theorem rgt_iff {x : Sb} : rgt x = true ↔ pl x.s = true ∧ pl x.t = true ∧ (0 ≤ x.hp ∧ x.hp ≤ 255) ∧ (0 ≤ x.nm ∧ x.nm ≤ 65535) ∧ (0 ≤ x.sv ∧ x.sv ≤ 255) ∧ (0 ≤ x.wh ∧ x.wh ≤ 1) ∧ (28 ≤ x.sz ∧ x.sz ≤ 1500) ∧ ptB x.sz x.p = true := by
  unfold rgt hdB
  simp only [List.all_cons, List.all_nil, Bool.and_true, Bool.and_eq_true, bt_iff]
  constructor
  · rintro ⟨⟨h1, h2, h3, h4, h5, h6⟩, h7, h8⟩
    exact ⟨h1, h2, h3, h4, h5, h6, h7, h8⟩
  · rintro ⟨h1, h2, h3, h4, h5, h6, h7, h8⟩
    exact ⟨⟨h1, h2, h3, h4, h5, h6⟩, h7, h8⟩
theorem prO_rng (p : Pt) : 1 ≤ prO p ∧ prO p ≤ 17 := by cases p <;> simp [prO]
theorem rgt_S {x : Sb} (h : rgt x = true) : 0 < hdS x.s x.t x.hp x.nm x.sv x.wh x.sz (prO x.p) ∧ hdS x.s x.t x.hp x.nm x.sv x.wh x.sz (prO x.p) ≤ 200000000 := by
  obtain ⟨h1, h2, h3, h4, h5, h6, h7, h8⟩ := rgt_iff.mp h
  have a1 := pl_rng h1
  have a2 := pl_rng h2
  have a3 := prO_rng x.p
  rw [hdS_eq]
  omega
theorem rgt_sb {x : Sb} (h : rgt x = true) : sbL x = sbO x := by
  have z := rgt_S h
  unfold sbL sbO
  rw [hd_eq (by omega) z.2]

theorem rCatI {H : Hp} {a b : Addr} {X Y : List Int} {Q : VK} (ga : H a = some (.lst (X.map V.int))) (gb : H b = some (.lst (Y.map V.int))) (hl : X.length + Y.length ≤ 5000)
    (k : ∀ (p : Addr) (H' : Hp), Same H H' → H' p = some (.lst ((X ++ Y).map V.int)) → Q (.ref p) H') : rCat (.ref a) (.ref b) H Q :=
  ⟨a, b, _, _, rfl, rfl, ga, gb, by rw [List.length_map, List.length_map]; exact Nat.le_trans hl (by decide), fun p hp => k p _ (same_upd hp) (by rw [upd_same, List.map_append])⟩
inductive Bd where
  | udp (f t sm : Int) (dt : List Int)
  | tcp (f t sq ak fl wi ur : Int) (op dt : List Int)
  | echo (a : Bool) (i no : Int) (dt : List Int)
def Bd.en : Bd → En
  | .udp f t _ _ => .udp f t
  | .tcp f t _ _ _ _ _ _ _ => .tcp f t
  | .echo a i _ _ => .echo a i
/-- the rest of a body -/
def BR (K : PySem.W.Frag) (H : Hp) : Bd → List V → Prop
  | .udp _ _ sm dt, r => ∃ d, r = [.int sm, .ref d] ∧ SqT K H d (dt.map V.int)
  | .tcp _ _ sq ak fl wi ur op dt, r => ∃ o d, r = [.int sq, .int ak, .int fl, .int wi, .int ur, .ref o, .ref d] ∧ SqT K H o (op.map V.int) ∧ SqT K H d (dt.map V.int)
  | .echo _ _ no dt, r => ∃ d, r = [.int no, .ref d] ∧ SqT K H d (dt.map V.int)
theorem BR.same {K : PySem.W.Frag} {H H' : Hp} (z : Same H H') : ∀ {b : Bd} {r : List V}, BR K H b r → BR K H' b r
  | .udp _ _ _ _, _, ⟨d, h1, h2⟩ => ⟨d, h1, sqT_same z h2⟩
  | .tcp _ _ _ _ _ _ _ _ _, _, ⟨o, d, h1, h2, h3⟩ => ⟨o, d, h1, sqT_same z h2, sqT_same z h3⟩
  | .echo _ _ _ _, _, ⟨d, h1, h2⟩ => ⟨d, h1, sqT_same z h2⟩
/-- the bounds that the octets ask -/
def BB : Bd → Prop
  | .udp f t sm dt => 1 ≤ f ∧ f ≤ 65535 ∧ 1 ≤ t ∧ t ≤ 65535 ∧ 0 ≤ sm ∧ sm ≤ 1 ∧ Oc dt ∧ dt.length ≤ 1500
  | .tcp f t _ _ _ _ _ op dt => 1 ≤ f ∧ f ≤ 65535 ∧ 1 ≤ t ∧ t ≤ 65535 ∧ op.length ≤ 40 ∧ dt.length ≤ 1500
  | .echo _ i no dt => 1 ≤ i ∧ i ≤ 65535 ∧ 0 ≤ no ∧ no ≤ 65535 ∧ Oc dt ∧ dt.length ≤ 1500
def udpO (s t f to : Int) (dt : List Int) : List Int := o4 s ++ o4 t ++ [0, 17] ++ o2 (8 + (dt.length : Int)) ++ (o2 f ++ o2 to ++ o2 (8 + (dt.length : Int))) ++ [0, 0] ++ dt
def udpS (s t f to : Int) (dt : List Int) : Int := if lsum (udpO s t f to dt) = 0 then 65535 else lsum (udpO s t f to dt)
def echoO (a : Bool) (i no : Int) (dt : List Int) : List Int := [kb a, 0] ++ (o2 i ++ o2 no ++ dt)
/-- the octets of a body -/
def bo (s t : Int) : Bd → List Int → Prop
  | .udp f to sm dt, B => B = o2 f ++ o2 to ++ o2 (8 + (dt.length : Int)) ++ o2 (udpS s t f to dt * sm) ++ dt
  | .tcp _ _ _ _ _ _ _ op dt, B => B.length = 20 + op.length + dt.length
  | .echo a i no dt, B => B = [kb a, 0] ++ o2 (lsum (echoO a i no dt)) ++ (o2 i ++ o2 no ++ dt)
def blen : Bd → Nat
  | .udp _ _ _ dt => 8 + dt.length
  | .tcp _ _ _ _ _ _ _ op dt => 20 + op.length + dt.length
  | .echo _ _ _ dt => 8 + dt.length
theorem bo_len {s t : Int} {b : Bd} {B : List Int} (h : bo s t b B) : B.length = blen b := by
  cases b with
  | udp f to sm dt => rw [show B = _ from h]; simp only [List.length_append, o2, List.length_cons, List.length_nil, blen]
  | tcp f to sq ak fl wi ur op dt => exact h
  | echo a i no dt => rw [show B = _ from h]; simp only [List.length_append, o2, List.length_cons, List.length_nil, blen]; omega
theorem BB.len {b : Bd} (h : BB b) : blen b ≤ 1600 := by
  cases b with
  | udp f t sm dt => obtain ⟨_, _, _, _, _, _, _, h⟩ := h; show 8 + dt.length ≤ 1600; omega
  | tcp f t sq ak fl wi ur op dt => obtain ⟨_, _, _, _, h1, h2⟩ := h; show 20 + op.length + dt.length ≤ 1600; omega
  | echo a i no dt => obtain ⟨_, _, _, _, _, h⟩ := h; show 8 + dt.length ≤ 1600; omega
def spHeader (K : PySem.W.Frag) : Sp := fun vs H Q _ => ∃ (fa : Addr) (x1 x2 x3 x4 x5 x6 sz pr : Int), vs = [.ref fa, .int sz, .int pr] ∧ SqT K H fa [.int x1, .int x2, .int x3, .int x4, .int x5, .int x6] ∧
  ∀ (t : Addr) (ns : List Int) (H' : Hp), Same H H' → ns = hdL x1 x2 x3 x4 x5 x6 sz pr → ns.length = 20 → H' t = some (.lst (ns.map V.int)) → Q (.ref t) H'
def spBody (K : PySem.W.Frag) : Sp := fun vs H Q _ => ∃ (s t : Int) (ba : Addr) (b : Bd) (r : List V), vs = [.int s, .int t, .ref ba] ∧ SqT K H ba (enV b.en ++ r) ∧ BR K H b r ∧ BB b ∧
  ∀ (x : Addr) (B : List Int) (H' : Hp), Same H H' → bo s t b B → H' x = some (.lst (B.map V.int)) → Q (.ref x) H'
def spOctets (K : PySem.W.Frag) : Sp := fun vs H Q _ => ∃ (a : Addr) (s t hp nm sv wh : Int) (b : Bd) (r : List V), vs = [.ref a] ∧ PkAt K H a s t [.int hp, .int nm, .int sv, .int wh] b.en r ∧ BR K H b r ∧ BB b ∧
  ∀ (x : Addr) (hd B : List Int) (H' : Hp), Same H H' → hd.length = 20 → bo s t b B → H' x = some (.lst ((hd ++ B).map V.int)) → Q (.ref x) H'
section
variable {P : Program} {w : World} {K : PySem.W.Frag} {mg : Str → Option Value} {base : Heap}
theorem ok_law_header (T : Tx K mg) : FnOk P w K mg base CX0 3 T.ad_law_header T.fd_law_header ["fields", "size", "protocol"] (spHeader K) := by
  refine T.d_law_header.F.ok x_law_header (fun vs H Q E h => ?_) (fun cdv A outer s H vs Q E hr h => ?_)
  · obtain ⟨fa, x1, x2, x3, x4, x5, x6, sz, pr, rfl, _⟩ := h
    rfl
  · obtain ⟨fa, x1, x2, x3, x4, x5, x6, sz, pr, rfl, hF, q⟩ := h
    have nd := x_law_header.nd
    refine ⟨_, (pss_cons (ps_asg (pv 0) (pg_tup rfl (pgs_cons (pg_name (i := 3) nd rfl (Or.inl rfl)) (pgs_cons (pg_name (i := 4) nd rfl (Or.inl rfl)) (pgs_cons (pg_name (i := 5) nd rfl (Or.inl rfl)) (pgs_cons (pg_name (i := 6) nd rfl (Or.inl rfl)) (pgs_cons (pg_name (i := 7) nd rfl (Or.inl rfl)) (pgs_cons (pg_name (i := 8) nd rfl (Or.inl rfl)) pgs_nil))))))))
        (pss_cons (ps_set (i := 9) nd rfl (Or.inl rfl) (pe_op op_cat (pe_op op_cat (pe_op op_cat (pe_lst (pa_cons pe_int (pa_cons (pv 7) pa_nil))) (pe_call (ok_law_two T) (hr.mono (by decide)) (by rfl) T.d_law_two.g T.d_law_two.F.kp T.d_law_two.b .nil pass0 (pa_cons (pv 1) pa_nil))) (pe_call (ok_law_two T) (hr.mono (by decide)) (by rfl) T.d_law_two.g T.d_law_two.F.kp T.d_law_two.b .nil pass0 (pa_cons (pv 6) pa_nil))) (pe_lst (pa_cons (pe_op op_mul pe_int (pv 8)) (pa_cons pe_int (pa_cons (pv 5) (pa_cons (pv 2) pa_nil)))))))
        (pss_cons (ps_set (i := 10) nd rfl (Or.inl rfl) (pe_op op_cat (pe_call (ok_law_four T) hr (by rfl) T.d_law_four.g T.d_law_four.F.kp T.d_law_four.b .nil pass0 (pa_cons (pv 3) pa_nil)) (pe_call (ok_law_four T) hr (by rfl) T.d_law_four.g T.d_law_four.F.kp T.d_law_four.b .nil pass0 (pa_cons (pv 4) pa_nil))))
        (pss_one (ps_ret (pe_op op_cat (pe_op op_cat (pv 9) (pe_call (ok_law_two T) (hr.mono (by decide)) (by rfl) T.d_law_two.g T.d_law_two.F.kp T.d_law_two.b .nil pass0 (pa_cons (pe_call (ok_law_sum T) (hr.mono (by decide)) (by rfl) T.d_law_sum.g T.d_law_sum.F.kp T.d_law_sum.b .nil pass0 (pa_cons (pe_op op_cat (pv 9) (pv 10)) pa_nil)) pa_nil))) (pv 10))))))), ?_⟩
    refine ⟨_, rfl, fa, _, rfl, hF, rfl, _, _, rfl, _, _, rfl, _, _, rfl, _, _, rfl, _, _, rfl, _, _, rfl, rfl, ?_⟩
    refine ⟨_, rfl, by show 2 ≤ sizeLine; decide, fun a1 n1 => ?_⟩
    have s1 := same_upd (o := .lst (([69, x5] : List Int).map V.int)) n1
    refine ⟨_, rfl, _, rfl, fun a2 H2 s2 g2 => ?_⟩
    refine rCatI (X := [69, x5]) (Y := o2 sz) (s2 _ _ upd_same) g2 (by show 2 + 2 ≤ 5000; decide) fun a3 H3 s3 g3 => ?_
    refine ⟨_, rfl, _, rfl, fun a4 H4 s4 g4 => ?_⟩
    refine rCatI (X := [69, x5] ++ o2 sz) (Y := o2 x4) (s4 _ _ g3) g4 (by show 4 + 2 ≤ 5000; decide) fun a5 H5 s5 g5 => ?_
    refine ⟨_, rfl, _, _, rfl, rfl, .inl ⟨by decide, by decide⟩, _, rfl, _, rfl, by show 4 ≤ sizeLine; decide, fun a6 n6 => ?_⟩
    have s6 := same_upd (o := .lst (([64 * x6, 0, x3, pr] : List Int).map V.int)) n6
    refine rCatI (X := [69, x5] ++ o2 sz ++ o2 x4) (Y := [64 * x6, 0, x3, pr]) (s6 _ _ g5) upd_same (by show 6 + 4 ≤ 5000; decide) fun a7 H7 s7 g7 => ?_
    have s17 := s1.trans (s2.trans (s3.trans (s4.trans (s5.trans (s6.trans s7)))))
    generalize hF1 : [69, x5] ++ o2 sz ++ o2 x4 ++ [64 * x6, 0, x3, pr] = F at g7
    have lF : F.length = 10 := by rw [← hF1]; rfl
    refine ⟨_, rfl, _, rfl, fun b1 H8 s8 g8 => ?_⟩
    refine ⟨_, rfl, _, rfl, fun b2 H9 s9 g9 => ?_⟩
    refine rCatI (X := o4 x1) (Y := o4 x2) (s9 _ _ g8) g9 (by show 4 + 4 ≤ 5000; decide) fun b3 Ha sa ga => ?_
    generalize hL1 : o4 x1 ++ o4 x2 = L at ga
    have lL : L.length = 8 := by rw [← hL1]; rfl
    have gF := sa _ _ (s9 _ _ (s8 _ _ g7))
    have s1a := s17.trans (s8.trans (s9.trans sa))
    refine ⟨_, rfl, _, rfl, _, rfl, rCatI (X := F) (Y := L) gF ga (by omega) fun c1 Hb sb gb => ?_⟩
    refine ⟨c1, F ++ L, rfl, SqL.of gb, by rw [List.length_append]; omega, _, rfl, fun c2 Hc sc gc => ?_⟩
    refine rCatI (X := F) (Y := o2 (lsum (F ++ L))) (sc _ _ (sb _ _ gF)) gc (by rw [lF]; show 10 + 2 ≤ 5000; decide) fun c3 Hd sd gd => ?_
    refine ⟨_, rfl, rCatI (X := F ++ o2 (lsum (F ++ L))) (Y := L) gd (sd _ _ (sc _ _ (sb _ _ ga))) (by rw [List.length_append, lF, lL]; show 10 + 2 + 8 ≤ 5000; decide) fun c4 He se ge => ?_⟩
    exact q c4 _ He (s1a.trans (sb.trans (sc.trans (sd.trans se)))) (by rw [← hF1, ← hL1]; rfl) (by rw [List.length_append, List.length_append, lF, lL]; rfl) ge
end

theorem catI_len {X Y : List Int} : (X ++ Y).length = X.length + Y.length := List.length_append
theorem o2_len (n : Int) : (o2 n).length = 2 := rfl
theorem o4_len (n : Int) : (o4 n).length = 4 := rfl
section
variable {P : Program} {w : World} {K : PySem.W.Frag} {mg : Str → Option Value} {base : Heap}
theorem ok_law_body (T : Tx K mg) : FnOk P w K mg base CX0 3 T.ad_law_body T.fd_law_body ["source", "target", "body"] (spBody K) := by
  refine T.d_law_body.F.ok x_law_body (fun vs H Q E h => ?_) (fun cdv A outer s H vs Q E hr h => ?_)
  · obtain ⟨s, t, ba, b, r, rfl, _⟩ := h
    rfl
  · obtain ⟨s, t, ba, b, r, rfl, hB, hR, hb, q⟩ := h
    have nd := x_law_body.nd
    refine ⟨_, (pss_cons (ps_if (pt_cmpR op_eq (pe_ix ix_tup (pv 2) pe_int (fun _ _ => rfl)) pe_str (nomark _)) (pss_cons (ps_set (i := 3) nd rfl (Or.inl rfl) (pe_lst (pa_cons (pe_ifExp (pt_cmpR op_eq (pe_ix ix_tup (pv 2) pe_int (fun _ _ => rfl)) pe_str (nomark _)) pe_int pe_int) (pa_cons pe_int pa_nil))))
        (pss_cons (ps_set (i := 4) nd rfl (Or.inl rfl) (pe_op op_cat (pe_op op_cat (pe_call (ok_law_two T) (hr.mono (by decide)) (by rfl) T.d_law_two.g T.d_law_two.F.kp T.d_law_two.b .nil pass0 (pa_cons (pe_ix ix_tup (pv 2) pe_int (fun _ _ => rfl)) pa_nil)) (pe_call (ok_law_two T) (hr.mono (by decide)) (by rfl) T.d_law_two.g T.d_law_two.F.kp T.d_law_two.b .nil pass0 (pa_cons (pe_ix ix_tup (pv 2) pe_int (fun _ _ => rfl)) pa_nil))) (pe_callTy call_list_of (by rfl) T.b_list (by decide +kernel) (pa_cons (pe_ix ix_tup (pv 2) pe_int (fun _ _ => rfl)) pa_nil))))
        (pss_one (ps_ret (pe_op op_cat (pe_op op_cat (pv 3) (pe_call (ok_law_two T) (hr.mono (by decide)) (by rfl) T.d_law_two.g T.d_law_two.F.kp T.d_law_two.b .nil pass0 (pa_cons (pe_call (ok_law_sum T) (hr.mono (by decide)) (by rfl) T.d_law_sum.g T.d_law_sum.F.kp T.d_law_sum.b .nil pass0 (pa_cons (pe_op op_cat (pv 3) (pv 4)) pa_nil)) pa_nil))) (pv 4)))))) pss_nil)
        (pss_cons (ps_set (i := 5) nd rfl (Or.inl rfl) (pe_op op_cat (pe_op op_cat (pe_call (ok_law_four T) hr (by rfl) T.d_law_four.g T.d_law_four.F.kp T.d_law_four.b .nil pass0 (pa_cons (pv 0) pa_nil)) (pe_call (ok_law_four T) hr (by rfl) T.d_law_four.g T.d_law_four.F.kp T.d_law_four.b .nil pass0 (pa_cons (pv 1) pa_nil))) (pe_lst (pa_cons pe_int (pa_cons (pe_ifExp (pt_cmpR op_eq (pe_ix ix_tup (pv 2) pe_int (fun _ _ => rfl)) pe_str (nomark _)) pe_int pe_int) pa_nil)))))
        (pss_cons (ps_if (pt_cmpR op_eq (pe_ix ix_tup (pv 2) pe_int (fun _ _ => rfl)) pe_str (nomark _)) (pss_cons (ps_set (i := 6) nd rfl (Or.inl rfl) (pe_op op_add pe_int (pe_callB call_len_seq (by rfl) T.b_len (by decide +kernel) (pa_cons (pe_ix ix_tup (pv 2) pe_int (fun _ _ => rfl)) pa_nil))))
        (pss_cons (ps_set (i := 3) nd rfl (Or.inl rfl) (pe_op op_cat (pe_op op_cat (pe_call (ok_law_two T) (hr.mono (by decide)) (by rfl) T.d_law_two.g T.d_law_two.F.kp T.d_law_two.b .nil pass0 (pa_cons (pe_ix ix_tup (pv 2) pe_int (fun _ _ => rfl)) pa_nil)) (pe_call (ok_law_two T) (hr.mono (by decide)) (by rfl) T.d_law_two.g T.d_law_two.F.kp T.d_law_two.b .nil pass0 (pa_cons (pe_ix ix_tup (pv 2) pe_int (fun _ _ => rfl)) pa_nil))) (pe_call (ok_law_two T) (hr.mono (by decide)) (by rfl) T.d_law_two.g T.d_law_two.F.kp T.d_law_two.b .nil pass0 (pa_cons (pv 6) pa_nil))))
        (pss_cons (ps_set (i := 7) nd rfl (Or.inl rfl) (pe_call (ok_law_sum T) (hr.mono (by decide)) (by rfl) T.d_law_sum.g T.d_law_sum.F.kp T.d_law_sum.b .nil pass0 (pa_cons (pe_op op_cat (pe_op op_cat (pe_op op_cat (pe_op op_cat (pv 5) (pe_call (ok_law_two T) (hr.mono (by decide)) (by rfl) T.d_law_two.g T.d_law_two.F.kp T.d_law_two.b .nil pass0 (pa_cons (pv 6) pa_nil))) (pv 3)) (pe_lst (pa_cons pe_int (pa_cons pe_int pa_nil)))) (pe_callTy call_list_of (by rfl) T.b_list (by decide +kernel) (pa_cons (pe_ix ix_tup (pv 2) pe_int (fun _ _ => rfl)) pa_nil))) pa_nil)))
        (pss_cons (ps_if (pt_cmpR op_eq (pv 7) pe_int (nomark _)) (pss_one (ps_set (i := 7) nd rfl (Or.inl rfl) pe_int)) pss_nil)
        (pss_one (ps_ret (pe_op op_cat (pe_op op_cat (pv 3) (pe_call (ok_law_two T) (hr.mono (by decide)) (by rfl) T.d_law_two.g T.d_law_two.F.kp T.d_law_two.b .nil pass0 (pa_cons (pe_op op_mul (pv 7) (pe_ix ix_tup (pv 2) pe_int (fun _ _ => rfl))) pa_nil))) (pe_callTy call_list_of (by rfl) T.b_list (by decide +kernel) (pa_cons (pe_ix ix_tup (pv 2) pe_int (fun _ _ => rfl)) pa_nil))))))))) pss_nil)
        (pss_cons (ps_set (i := 3) nd rfl (Or.inl rfl) (pe_op op_cat (pe_op op_cat (pe_op op_cat (pe_call (ok_law_two T) (hr.mono (by decide)) (by rfl) T.d_law_two.g T.d_law_two.F.kp T.d_law_two.b .nil pass0 (pa_cons (pe_ix ix_tup (pv 2) pe_int (fun _ _ => rfl)) pa_nil)) (pe_call (ok_law_two T) (hr.mono (by decide)) (by rfl) T.d_law_two.g T.d_law_two.F.kp T.d_law_two.b .nil pass0 (pa_cons (pe_ix ix_tup (pv 2) pe_int (fun _ _ => rfl)) pa_nil))) (pe_call (ok_law_four T) hr (by rfl) T.d_law_four.g T.d_law_four.F.kp T.d_law_four.b .nil pass0 (pa_cons (pe_ix ix_tup (pv 2) pe_int (fun _ _ => rfl)) pa_nil))) (pe_call (ok_law_four T) hr (by rfl) T.d_law_four.g T.d_law_four.F.kp T.d_law_four.b .nil pass0 (pa_cons (pe_ix ix_tup (pv 2) pe_int (fun _ _ => rfl)) pa_nil))))
        (pss_cons (ps_set (i := 3) nd rfl (Or.inl rfl) (pe_op op_cat (pe_op op_cat (pv 3) (pe_lst (pa_cons (pe_op op_mul pe_int (pe_op op_add pe_int (pe_op op_fdiv (pe_callB call_len_seq (by rfl) T.b_len (by decide +kernel) (pa_cons (pe_ix ix_tup (pv 2) pe_int (fun _ _ => rfl)) pa_nil)) pe_int))) (pa_cons (pe_ix ix_tup (pv 2) pe_int (fun _ _ => rfl)) pa_nil)))) (pe_call (ok_law_two T) (hr.mono (by decide)) (by rfl) T.d_law_two.g T.d_law_two.F.kp T.d_law_two.b .nil pass0 (pa_cons (pe_ix ix_tup (pv 2) pe_int (fun _ _ => rfl)) pa_nil))))
        (pss_cons (ps_set (i := 4) nd rfl (Or.inl rfl) (pe_op op_cat (pe_op op_cat (pe_call (ok_law_two T) (hr.mono (by decide)) (by rfl) T.d_law_two.g T.d_law_two.F.kp T.d_law_two.b .nil pass0 (pa_cons (pe_ix ix_tup (pv 2) pe_int (fun _ _ => rfl)) pa_nil)) (pe_callTy call_list_of (by rfl) T.b_list (by decide +kernel) (pa_cons (pe_ix ix_tup (pv 2) pe_int (fun _ _ => rfl)) pa_nil))) (pe_callTy call_list_of (by rfl) T.b_list (by decide +kernel) (pa_cons (pe_ix ix_tup (pv 2) pe_int (fun _ _ => rfl)) pa_nil))))
        (pss_cons (ps_set (i := 7) nd rfl (Or.inl rfl) (pe_call (ok_law_sum T) (hr.mono (by decide)) (by rfl) T.d_law_sum.g T.d_law_sum.F.kp T.d_law_sum.b .nil pass0 (pa_cons (pe_op op_cat (pe_op op_cat (pe_op op_cat (pe_op op_cat (pv 5) (pe_call (ok_law_two T) (hr.mono (by decide)) (by rfl) T.d_law_two.g T.d_law_two.F.kp T.d_law_two.b .nil pass0 (pa_cons (pe_op op_add (pe_op op_add (pe_callB call_len_seq (by rfl) T.b_len (by decide +kernel) (pa_cons (pv 3) pa_nil)) pe_int) (pe_callB call_len_seq (by rfl) T.b_len (by decide +kernel) (pa_cons (pv 4) pa_nil))) pa_nil))) (pv 3)) (pe_lst (pa_cons pe_int (pa_cons pe_int pa_nil)))) (pv 4)) pa_nil)))
        (pss_one (ps_ret (pe_op op_cat (pe_op op_cat (pv 3) (pe_call (ok_law_two T) (hr.mono (by decide)) (by rfl) T.d_law_two.g T.d_law_two.F.kp T.d_law_two.b .nil pass0 (pa_cons (pv 7) pa_nil))) (pv 4))))))))))), ?_⟩
    cases b with
    | echo a i no dt =>
      obtain ⟨d, rfl, hD⟩ := hR
      obtain ⟨i0, i1, no0, no1, hO, hl⟩ := hb
      have hB' : SqT K H ba [.str sEcho, .str (aw a), .int i, .int no, .ref d] := hB
      refine ⟨_, rfl, ba, _, _, _, rfl, rfl, hB', atI_nat (j := 0) rfl, rfl, _, rfl, ?_⟩
      refine ⟨_, rfl, ba, _, _, _, rfl, rfl, hB', atI_nat (j := 1) rfl, rfl, _, rfl, ?_⟩
      cases a with
      | false =>
        refine ⟨by show 2 ≤ sizeLine; decide, fun a1 n1 => ?_⟩
        have s1 := same_upd (o := .lst (([kb false, 0] : List Int).map V.int)) n1
        have g1 := upd_same (H := H) (a := a1) (o := .lst (([kb false, 0] : List Int).map V.int))
        refine ⟨_, rfl, ba, _, _, _, rfl, rfl, sqT_same (same_upd n1) hB', atI_nat (j := 2) rfl, _, rfl, fun a2 H2 s2 g2 => ?_⟩
        refine ⟨_, rfl, ba, _, _, _, rfl, rfl, sqT_same ((same_upd n1).trans s2) hB', atI_nat (j := 3) rfl, _, rfl, fun a3 H3 s3 g3 => ?_⟩
        refine rCatI (X := o2 i) (Y := o2 no) (s3 _ _ g2) g3 (by show 2 + 2 ≤ 5000; decide) fun a4 H4 s4 g4 => ?_
        have s14 := (same_upd n1).trans (s2.trans (s3.trans s4))
        refine ⟨_, rfl, ba, _, _, _, rfl, rfl, sqT_same s14 hB', atI_nat (j := 4) rfl, d, _, rfl, .inr (sqT_same s14 hD), fun a5 n5 => ?_⟩
        have s5 := same_upd (o := .lst (dt.map V.int)) n5
        refine rCatI (X := o2 i ++ o2 no) (Y := dt) (s5 _ _ g4) upd_same (by rw [List.length_append]; show 2 + 2 + dt.length ≤ 5000; omega) fun a6 H6 s6 g6 => ?_
        have s26 := s2.trans (s3.trans (s4.trans (s5.trans s6)))
        have gA := s26 _ _ (upd_same (H := H) (a := a1) (o := .lst (([kb false, 0] : List Int).map V.int)))
        refine ⟨_, rfl, _, rfl, _, rfl, rCatI (X := [kb false, 0]) (Y := o2 i ++ o2 no ++ dt) gA g6 (by simp only [List.length_append, o2_len, List.length_cons, List.length_nil]; omega) fun a7 H7 s7 g7 => ?_⟩
        refine ⟨a7, _, rfl, SqL.of g7, by simp only [List.length_append, o2_len, List.length_cons, List.length_nil]; omega, _, rfl, fun a8 H8 s8 g8 => ?_⟩
        refine rCatI (s8 _ _ (s7 _ _ gA)) g8 (by simp only [o2_len, List.length_cons, List.length_nil]; omega) fun a9 H9 s9 g9 => ?_
        refine ⟨_, rfl, rCatI g9 (s9 _ _ (s8 _ _ (s7 _ _ g6))) (by simp only [List.length_append, o2_len, List.length_cons, List.length_nil]; omega) fun aa Ha sa ga => ?_⟩
        exact q aa _ Ha ((same_upd n1).trans (s26.trans (s7.trans (s8.trans (s9.trans sa))))) rfl ga
      | true =>
        refine ⟨by show 2 ≤ sizeLine; decide, fun a1 n1 => ?_⟩
        have s1 := same_upd (o := .lst (([kb true, 0] : List Int).map V.int)) n1
        have g1 := upd_same (H := H) (a := a1) (o := .lst (([kb true, 0] : List Int).map V.int))
        refine ⟨_, rfl, ba, _, _, _, rfl, rfl, sqT_same (same_upd n1) hB', atI_nat (j := 2) rfl, _, rfl, fun a2 H2 s2 g2 => ?_⟩
        refine ⟨_, rfl, ba, _, _, _, rfl, rfl, sqT_same ((same_upd n1).trans s2) hB', atI_nat (j := 3) rfl, _, rfl, fun a3 H3 s3 g3 => ?_⟩
        refine rCatI (X := o2 i) (Y := o2 no) (s3 _ _ g2) g3 (by show 2 + 2 ≤ 5000; decide) fun a4 H4 s4 g4 => ?_
        have s14 := (same_upd n1).trans (s2.trans (s3.trans s4))
        refine ⟨_, rfl, ba, _, _, _, rfl, rfl, sqT_same s14 hB', atI_nat (j := 4) rfl, d, _, rfl, .inr (sqT_same s14 hD), fun a5 n5 => ?_⟩
        have s5 := same_upd (o := .lst (dt.map V.int)) n5
        refine rCatI (X := o2 i ++ o2 no) (Y := dt) (s5 _ _ g4) upd_same (by rw [List.length_append]; show 2 + 2 + dt.length ≤ 5000; omega) fun a6 H6 s6 g6 => ?_
        have s26 := s2.trans (s3.trans (s4.trans (s5.trans s6)))
        have gA := s26 _ _ (upd_same (H := H) (a := a1) (o := .lst (([kb true, 0] : List Int).map V.int)))
        refine ⟨_, rfl, _, rfl, _, rfl, rCatI (X := [kb true, 0]) (Y := o2 i ++ o2 no ++ dt) gA g6 (by simp only [List.length_append, o2_len, List.length_cons, List.length_nil]; omega) fun a7 H7 s7 g7 => ?_⟩
        refine ⟨a7, _, rfl, SqL.of g7, by simp only [List.length_append, o2_len, List.length_cons, List.length_nil]; omega, _, rfl, fun a8 H8 s8 g8 => ?_⟩
        refine rCatI (s8 _ _ (s7 _ _ gA)) g8 (by simp only [o2_len, List.length_cons, List.length_nil]; omega) fun a9 H9 s9 g9 => ?_
        refine ⟨_, rfl, rCatI g9 (s9 _ _ (s8 _ _ (s7 _ _ g6))) (by simp only [List.length_append, o2_len, List.length_cons, List.length_nil]; omega) fun aa Ha sa ga => ?_⟩
        exact q aa _ Ha ((same_upd n1).trans (s26.trans (s7.trans (s8.trans (s9.trans sa))))) rfl ga
    | udp f to sm dt =>
      obtain ⟨d, rfl, hD⟩ := hR
      obtain ⟨_, _, _, _, sm0, sm1, hO, hl⟩ := hb
      have hB' : SqT K H ba [.str sUdp, .int f, .int to, .int sm, .ref d] := hB
      refine ⟨_, rfl, ba, _, _, _, rfl, rfl, hB', atI_nat (j := 0) rfl, rfl, _, rfl, ?_⟩
      refine ⟨_, rfl, _, rfl, fun a1 H1 s1 g1 => ⟨_, rfl, _, rfl, fun a2 H2 s2 g2 => ?_⟩⟩
      refine rCatI (X := o4 s) (Y := o4 t) (s2 _ _ g1) g2 (by show 4 + 4 ≤ 5000; decide) fun a3 H3 s3 g3 => ?_
      have s13 := s1.trans (s2.trans s3)
      refine ⟨_, rfl, ba, _, _, _, rfl, rfl, sqT_same s13 hB', atI_nat (j := 0) rfl, rfl, _, rfl, ?_⟩
      refine ⟨by show 2 ≤ sizeLine; decide, fun a4 n4 => ?_⟩
      have s4 := same_upd (o := .lst (([0, 17] : List Int).map V.int)) n4
      refine rCatI (X := o4 s ++ o4 t) (Y := [0, 17]) (s4 _ _ g3) upd_same (by show 8 + 2 ≤ 5000; decide) fun a5 H5 s5 g5 => ?_
      have s15 := s13.trans (s4.trans s5)
      have hB5 := sqT_same s15 hB'
      have hD5 := sqT_same s15 hD
      refine ⟨_, rfl, ba, _, _, _, rfl, rfl, hB5, atI_nat (j := 0) rfl, rfl, _, rfl, ?_⟩
      refine ⟨_, rfl, ba, _, _, _, rfl, rfl, hB5, atI_nat (j := 4) rfl, d, _, rfl, .inr hD5, _, _, rfl, rfl, ?_⟩
      have ed : ((dt.map V.int).length : Int) = (dt.length : Int) := by rw [List.length_map]
      refine ⟨_, rfl, ba, _, _, _, rfl, rfl, hB5, atI_nat (j := 1) rfl, _, rfl, fun b1 H6 s6 g6 => ?_⟩
      refine ⟨_, rfl, ba, _, _, _, rfl, rfl, sqT_same s6 hB5, atI_nat (j := 2) rfl, _, rfl, fun b2 H7 s7 g7 => ?_⟩
      refine rCatI (X := o2 f) (Y := o2 to) (s7 _ _ g6) g7 (by show 2 + 2 ≤ 5000; decide) fun b3 H8 s8 g8 => ?_
      refine ⟨_, rfl, _, rfl, fun b4 H9 s9 g9 => ?_⟩
      refine rCatI (X := o2 f ++ o2 to) (s9 _ _ g8) g9 (by show 4 + 2 ≤ 5000; decide) fun b5 Ha sa ga => ?_
      rw [ed] at ga
      have s5a := s6.trans (s7.trans (s8.trans (s9.trans sa)))
      refine ⟨_, rfl, _, rfl, _, rfl, fun c1 Hb sb gb => ?_⟩
      rw [ed] at gb
      refine rCatI (X := o4 s ++ o4 t ++ [0, 17]) (sb _ _ (s5a _ _ g5)) gb (by show 10 + 2 ≤ 5000; decide) fun c2 Hc sc gc => ?_
      refine ⟨_, rfl, rCatI gc (sc _ _ (sb _ _ ga)) (by show 12 + 6 ≤ 5000; decide) fun c3 Hd sd gd => ?_⟩
      refine ⟨by show 2 ≤ sizeLine; decide, fun c4 n4' => ?_⟩
      have se := same_upd (o := .lst (([0, 0] : List Int).map V.int)) n4'
      refine rCatI (Y := [0, 0]) (se _ _ gd) upd_same (by show 18 + 2 ≤ 5000; decide) fun c5 He sf ge => ?_
      have sbe := sb.trans (sc.trans (sd.trans (se.trans sf)))
      refine ⟨_, rfl, ba, _, _, _, rfl, rfl, sqT_same (s5a.trans sbe) hB5, atI_nat (j := 4) rfl, d, _, rfl, .inr (sqT_same (s5a.trans sbe) hD5), fun c6 n6 => ?_⟩
      have sg := same_upd (o := .lst (dt.map V.int)) n6
      refine rCatI (Y := dt) (sg _ _ ge) upd_same (by simp only [List.length_append, o2_len, o4_len, List.length_cons, List.length_nil]; omega) fun c7 Hf sh gf => ?_
      refine ⟨c7, _, rfl, SqL.of gf, by simp only [List.length_append, o2_len, o4_len, List.length_cons, List.length_nil]; omega, ?_⟩
      have sbf := sbe.trans (sg.trans sh)
      have gaf := sbf _ _ ga
      have hBf := sqT_same (s5a.trans sbf) hB5
      have hDf := sqT_same (s5a.trans sbf) hD5
      have tot := s15.trans (s5a.trans sbf)
      refine gn (nx_go ?_)
      refine seq_if (fun σ' H' => σ' = [some (.int s), some (.int t), some (.ref ba), some (.ref b5), none, some (.ref a5), some (.int (8 + ((dt.map V.int).length : Int))), some (.int (udpS s t f to dt))] ∧ H' = Hf) ?rest (fun key => ?_)
      rotate_left
      · have eU : udpS s t f to dt = if lsum (udpO s t f to dt) = 0 then 65535 else lsum (udpO s t f to dt) := rfl
        refine ⟨_, rfl, rfl, _, rfl, ite2 (fun e => ?_) (fun e => ?_)⟩
        · have z : lsum (udpO s t f to dt) = 0 := V.int.inj (of_decide_eq_true e)
          rw [if_pos z] at eU
          exact key _ _ ⟨by rw [eU]; rfl, rfl⟩
        · have z : ¬ lsum (udpO s t f to dt) = 0 := fun z => e (decide_eq_true (congrArg V.int z))
          rw [if_neg z] at eU
          exact key _ _ ⟨by rw [eU]; rfl, rfl⟩
      rintro σ' H' ⟨rfl, rfl⟩
      refine ⟨_, rfl, _, rfl, _, rfl, ba, _, _, _, rfl, rfl, hBf, atI_nat (j := 3) rfl, _, _, rfl, rfl, .inr ⟨by omega, by omega⟩, _, rfl, fun e1 Hg si gg => ?_⟩
      refine rCatI (si _ _ gaf) gg (by show 6 + 2 ≤ 5000; decide) fun e2 Hh sj gh => ?_
      have sij := si.trans sj
      refine ⟨_, rfl, ba, _, _, _, rfl, rfl, sqT_same sij hBf, atI_nat (j := 4) rfl, d, _, rfl, .inr (sqT_same sij hDf), fun e3 n3 => ?_⟩
      have sk := same_upd (o := .lst (dt.map V.int)) n3
      refine rCatI (Y := dt) (sk _ _ gh) upd_same (by simp only [List.length_append, o2_len, o4_len, List.length_cons, List.length_nil]; omega) fun e4 Hi sl gi => ?_
      exact q e4 _ Hi (tot.trans (sij.trans (sk.trans sl))) rfl gi
    | tcp f to sq ak fl wi ur op dt =>
      obtain ⟨o, d, rfl, hOp, hD⟩ := hR
      obtain ⟨_, _, _, _, hol, hl⟩ := hb
      have hB' : SqT K H ba [.str sTcp, .int f, .int to, .int sq, .int ak, .int fl, .int wi, .int ur, .ref o, .ref d] := hB
      refine ⟨_, rfl, ba, _, _, _, rfl, rfl, hB', atI_nat (j := 0) rfl, rfl, _, rfl, ?_⟩
      refine ⟨_, rfl, _, rfl, fun a1 H1 s1 g1 => ⟨_, rfl, _, rfl, fun a2 H2 s2 g2 => ?_⟩⟩
      refine rCatI (X := o4 s) (Y := o4 t) (s2 _ _ g1) g2 (by show 4 + 4 ≤ 5000; decide) fun a3 H3 s3 g3 => ?_
      have s13 := s1.trans (s2.trans s3)
      refine ⟨_, rfl, ba, _, _, _, rfl, rfl, sqT_same s13 hB', atI_nat (j := 0) rfl, rfl, _, rfl, ?_⟩
      refine ⟨by show 2 ≤ sizeLine; decide, fun a4 n4 => ?_⟩
      have s4 := same_upd (o := .lst (([0, 6] : List Int).map V.int)) n4
      refine rCatI (X := o4 s ++ o4 t) (Y := [0, 6]) (s4 _ _ g3) upd_same (by show 8 + 2 ≤ 5000; decide) fun a5 H5 s5 g5 => ?_
      have s15 := s13.trans (s4.trans s5)
      have hB5 := sqT_same s15 hB'
      refine ⟨_, rfl, ba, _, _, _, rfl, rfl, hB5, atI_nat (j := 0) rfl, rfl, _, rfl, ?_⟩
      refine ⟨_, rfl, ba, _, _, _, rfl, rfl, hB5, atI_nat (j := 1) rfl, _, rfl, fun b1 H6 s6 g6 => ?_⟩
      refine ⟨_, rfl, ba, _, _, _, rfl, rfl, sqT_same s6 hB5, atI_nat (j := 2) rfl, _, rfl, fun b2 H7 s7 g7 => ?_⟩
      refine rCatI (X := o2 f) (Y := o2 to) (s7 _ _ g6) g7 (by show 2 + 2 ≤ 5000; decide) fun b3 H8 s8 g8 => ?_
      have s58 := s6.trans (s7.trans s8)
      refine ⟨_, rfl, ba, _, _, _, rfl, rfl, sqT_same s58 hB5, atI_nat (j := 3) rfl, _, rfl, fun b4 H9 s9 g9 => ?_⟩
      refine rCatI (s9 _ _ g8) g9 (by show 4 + 4 ≤ 5000; decide) fun b5 Ha sa ga => ?_
      have s5a := s58.trans (s9.trans sa)
      refine ⟨_, rfl, ba, _, _, _, rfl, rfl, sqT_same s5a hB5, atI_nat (j := 4) rfl, _, rfl, fun b6 Hb sb gb => ?_⟩
      refine rCatI (sb _ _ ga) gb (by show 8 + 4 ≤ 5000; decide) fun b7 Hc sc gc => ?_
      have s5c := s5a.trans (sb.trans sc)
      have hBc := sqT_same s5c hB5
      have hOc := sqT_same (s15.trans s5c) hOp
      refine ⟨_, rfl, _, rfl, ba, _, _, _, rfl, rfl, hBc, atI_nat (j := 8) rfl, o, _, rfl, .inr hOc, _, _, rfl, rfl, ⟨by decide, by decide⟩, _, _, rfl, rfl, _, _, rfl, rfl, .inl ⟨by decide, by decide⟩, _, rfl, ba, _, _, _, rfl, rfl, hBc, atI_nat (j := 5) rfl, by show 2 ≤ sizeLine; decide, fun b8 n8 => ?_⟩
      have sd := same_upd (o := .lst (([16 * (5 + ((op.map V.int).length : Int) / 4), fl] : List Int).map V.int)) n8
      refine rCatI (Y := [16 * (5 + ((op.map V.int).length : Int) / 4), fl]) (sd _ _ gc) upd_same (by show 12 + 2 ≤ 5000; decide) fun b9 Hd se gd => ?_
      have s5d := s5c.trans (sd.trans se)
      refine ⟨_, rfl, ba, _, _, _, rfl, rfl, sqT_same s5d hB5, atI_nat (j := 6) rfl, _, rfl, fun c1 He sf ge => ?_⟩
      refine rCatI (sf _ _ gd) ge (by show 14 + 2 ≤ 5000; decide) fun c2 Hf sg gf => ?_
      have s5f := s5d.trans (sf.trans sg)
      have g5f := s5f _ _ g5
      generalize hFr : o4 s ++ o4 t ++ [0, 6] = Fr at g5f
      have lFr : Fr.length = 10 := by rw [← hFr]; rfl
      generalize hFi : o2 f ++ o2 to ++ o4 sq ++ o4 ak ++ [16 * (5 + ((op.map V.int).length : Int) / 4), fl] ++ o2 wi = Fi at gf
      have lFi : Fi.length = 16 := by rw [← hFi]; rfl
      have hBf := sqT_same s5f hB5
      have hOf := sqT_same (s15.trans s5f) hOp
      have hDf := sqT_same (s15.trans s5f) hD
      refine ⟨_, rfl, ba, _, _, _, rfl, rfl, hBf, atI_nat (j := 7) rfl, _, rfl, fun c3 Hg sh gg => ?_⟩
      refine ⟨_, rfl, ba, _, _, _, rfl, rfl, sqT_same sh hBf, atI_nat (j := 8) rfl, o, _, rfl, .inr (sqT_same sh hOf), fun c4 n4' => ?_⟩
      have si := same_upd (o := .lst (op.map V.int)) n4'
      refine rCatI (Y := op) (si _ _ gg) upd_same (by rw [o2_len]; omega) fun c5 Hh sj gh => ?_
      have shj := sh.trans (si.trans sj)
      refine ⟨_, rfl, ba, _, _, _, rfl, rfl, sqT_same shj hBf, atI_nat (j := 9) rfl, d, _, rfl, .inr (sqT_same shj hDf), fun c6 n6 => ?_⟩
      have sk := same_upd (o := .lst (dt.map V.int)) n6
      refine rCatI (Y := dt) (sk _ _ gh) upd_same (by rw [List.length_append, o2_len]; omega) fun c7 Hi sl gi => ?_
      generalize hLa : o2 ur ++ op ++ dt = La at gi
      have lLa : La.length = 2 + op.length + dt.length := by rw [← hLa, List.length_append, List.length_append, o2_len]
      have shl := shj.trans (sk.trans sl)
      have gFi := shl _ _ gf
      have gFr := shl _ _ g5f
      refine ⟨_, rfl, _, rfl, c2, _, rfl, .inl (SqL.of gFi), _, _, rfl, rfl, _, rfl, c7, _, rfl, .inl (SqL.of gi), _, _, rfl, rfl, _, rfl, fun d1 Hj sm gj => ?_⟩
      refine rCatI (sm _ _ gFr) gj (by rw [lFr, o2_len]; decide) fun d2 Hk sn gk => ?_
      refine ⟨_, rfl, rCatI gk (sn _ _ (sm _ _ gFi)) (by rw [List.length_append, lFr, o2_len, lFi]; decide) fun d3 Hl so gl => ?_⟩
      refine ⟨by show 2 ≤ sizeLine; decide, fun d4 n4'' => ?_⟩
      have sp := same_upd (o := .lst (([0, 0] : List Int).map V.int)) n4''
      refine rCatI (Y := [0, 0]) (sp _ _ gl) upd_same (by rw [List.length_append, List.length_append, lFr, o2_len, lFi]; decide) fun d5 Hm sq gm => ?_
      have smq := sm.trans (sn.trans (so.trans (sp.trans sq)))
      refine ⟨_, rfl, rCatI gm (smq _ _ gi) (by rw [List.length_append, List.length_append, List.length_append, lFr, o2_len, lFi, lLa]; simp only [List.length_cons, List.length_nil]; omega) fun d6 Hn sr gn => ?_⟩
      refine ⟨d6, _, rfl, SqL.of gn, (by rw [List.length_append, List.length_append, List.length_append, List.length_append, lFr, o2_len, lFi, lLa]; simp only [List.length_cons, List.length_nil]; omega), ?_⟩
      have smr := smq.trans sr
      refine ⟨_, rfl, _, rfl, _, rfl, fun e1 Ho ss go => ?_⟩
      refine rCatI (ss _ _ (smr _ _ gFi)) go (by rw [lFi, o2_len]; decide) fun e2 Hp' st gp => ?_
      refine ⟨_, rfl, rCatI gp (st _ _ (ss _ _ (smr _ _ gi))) (by rw [List.length_append, lFi, o2_len, lLa]; omega) fun e3 Hq su gq => ?_⟩
      refine q e3 _ Hq (s15.trans (s5f.trans (shl.trans (smr.trans (ss.trans (st.trans su)))))) ?_ gq
      show (Fi ++ o2 _ ++ La).length = 20 + op.length + dt.length
      rw [List.length_append, List.length_append, lFi, o2_len, lLa]
      omega
end

def spValue (K : PySem.W.Frag) : Sp := fun vs H Q _ => ∃ (a : Addr) (ns : List Int), vs = [.ref a] ∧ SqL K H a (ns.map V.int) ∧ Q (.int (ns.foldl (fun t x => t * 256 + x) 0)) H
theorem at_int {l : List Int} {i : Nat} {x : V} (h : (l.map V.int)[i]? = some x) : ∃ z, l[i]? = some z ∧ x = V.int z := by
  rw [List.getElem?_map] at h
  cases e : l[i]? with
  | none => rw [e] at h; cases h
  | some z => rw [e] at h; exact ⟨z, rfl, (Option.some.inj h).symm⟩
theorem fold_take {α : Type} (f : Int → α → Int) (l : List α) (i : Nat) (x : α) (b : Int) (h : l[i]? = some x) : (l.take (i + 1)).foldl f b = f ((l.take i).foldl f b) x := by
  rw [List.take_add_one, h, List.foldl_append]
  rfl
theorem cut_mid (A B C : List V) (i j : Nat) (hi : A.length = i) (hj : A.length + B.length = j) : cutV (A ++ B ++ C) (some (i : Int)) (some (j : Int)) = B := by
  unfold cutV
  have hl : (A ++ B ++ C).length = j + C.length := by rw [List.length_append, List.length_append, hj]
  rw [HT.sIx_nat, HT.sIx_nat, Nat.min_eq_left (by omega), Nat.min_eq_left (by omega), List.append_assoc, List.drop_left' hi]
  exact List.take_left' (by omega)
theorem cut_two (A C : List Int) (n : Int) (i j : Nat) (hi : A.length = i) (hj : i + 2 = j) : cutV ((A ++ o2 n ++ C).map V.int) (some (i : Int)) (some (j : Int)) = (o2 n).map V.int := by
  rw [List.map_append, List.map_append]
  exact cut_mid _ _ _ i j (by rw [List.length_map]; exact hi) (by rw [List.length_map, List.length_map, o2_len]; omega)
theorem val_two (n : Int) : (o2 n).foldl (fun t x => t * 256 + x) 0 = n := by
  show (0 * 256 + n / 256) * 256 + n % 256 = n
  omega
/-- the rest of a stub's part -/
def stR (s t : Int) : Bd → List V
  | .udp f to sm dt => [.int (udpS s t f to dt * sm)]
  | .tcp _ _ sq _ _ _ _ _ _ => [.int sq]
  | .echo a i no dt => [.int no, .int (lsum (echoO a i no dt))]
def spStubOf (K : PySem.W.Frag) : Sp := fun vs H Q _ => ∃ (a : Addr) (s t hp nm sv wh : Int) (b : Bd) (r : List V), vs = [.ref a] ∧ PkAt K H a s t [.int hp, .int nm, .int sv, .int wh] b.en r ∧ BR K H b r ∧ BB b ∧
  ∀ (x : Addr) (H' : Hp), Same H H' → StAt K H' x s t [.int hp, .int nm, .int sv, .int wh, .int (20 + (blen b : Int))] b.en (stR s t b) → Q (.ref x) H'
section
variable {P : Program} {w : World} {K : PySem.W.Frag} {mg : Str → Option Value} {base : Heap}
theorem ok_law_octets (T : Tx K mg) : FnOk P w K mg base CX0 5 T.ad_law_octets T.fd_law_octets ["packet"] (spOctets K) := by
  refine T.d_law_octets.F.ok x_law_octets (fun vs H Q E h => ?_) (fun cdv A outer s H vs Q E hr h => ?_)
  · obtain ⟨a, s, t, hp, nm, sv, wh, b, r, rfl, _⟩ := h
    rfl
  · obtain ⟨a, s, t, hp, nm, sv, wh, b, r, rfl, hA, hR, hb, q⟩ := h
    have nd := x_law_octets.nd
    refine ⟨_, (pss_cons (ps_set (i := 1) nd rfl (Or.inl rfl) (pe_ix ix_tup (pv 0) pe_int (fun _ _ => rfl)))
        (pss_cons (ps_if (pt_cmpR op_eq (pe_ix ix_tup (pv 1) pe_int (fun _ _ => rfl)) pe_str (nomark _)) pss_never pss_nil)
        (pss_cons (ps_set (i := 4) nd rfl (Or.inl rfl) (pe_call (ok_law_body T) (hr.mono (by decide)) (by rfl) T.d_law_body.g T.d_law_body.F.kp T.d_law_body.b .nil pass0 (pa_cons (pe_ix ix_tup (pv 0) pe_int (fun _ _ => rfl)) (pa_cons (pe_ix ix_tup (pv 0) pe_int (fun _ _ => rfl)) (pa_cons (pv 1) pa_nil)))))
        (pss_cons (ps_set (i := 5) nd rfl (Or.inl rfl) (pe_ifExp (pt_cmpR op_eq (pe_ix ix_tup (pv 1) pe_int (fun _ _ => rfl)) pe_str (nomark _)) pe_int (pe_ifExp (pt_cmpR op_eq (pe_ix ix_tup (pv 1) pe_int (fun _ _ => rfl)) pe_str (nomark _)) pe_int pe_int)))
        (pss_one (ps_ret (pe_op op_cat (pe_call (ok_law_header T) (hr.mono (by decide)) (by rfl) T.d_law_header.g T.d_law_header.F.kp T.d_law_header.b .nil pass0 (pa_cons (pe_slice sl_tup (pv 0) (po_some pe_int) (po_some pe_int)) (pa_cons (pe_op op_add pe_int (pe_callB call_len_seq (by rfl) T.b_len (by decide +kernel) (pa_cons (pv 4) pa_nil))) (pa_cons (pv 5) pa_nil)))) (pv 4)))))))), ?_⟩
    obtain ⟨ba, x1, x2, x3, x4, hx, hS, hB⟩ := id hA
    injection hx with e1 hx
    injection hx with e2 hx
    injection hx with e3 hx
    injection hx with e4 hx
    subst e1 e2 e3 e4
    have hlb := hb.len
    refine ⟨_, rfl, a, _, _, _, rfl, rfl, hS, atI_nat (j := 7) rfl, ?_⟩
    cases b with
    | udp f to sm dt =>
      refine ⟨_, rfl, ba, _, _, _, rfl, rfl, hB, atI_nat (j := 0) rfl, rfl, _, rfl, ?_⟩
      refine ⟨_, rfl, a, _, _, _, rfl, rfl, hS, atI_nat (j := 1) rfl, _, rfl, a, _, _, _, rfl, rfl, hS, atI_nat (j := 2) rfl, _, rfl, s, t, ba, _, r, rfl, hB, hR, hb, fun x B H1 s1 hbo g1 => ?_⟩
      have lB := bo_len hbo
      refine ⟨_, rfl, ba, _, _, _, rfl, rfl, sqT_same s1 hB, atI_nat (j := 0) rfl, rfl, _, rfl, ?_⟩
      refine ⟨_, rfl, 1, rfl, 7, rfl, a, _, rfl, sqT_same s1 hS, (fun z => absurd z.1 (by show ¬ (HT.sIx 8 0 (some 1) = 0); decide)), fun p2 n2 => ?_⟩
      have s2 := same_upd (o := .tup (cutV [.str sPk, .int s, .int t, .int hp, .int nm, .int sv, .int wh, .ref ba] (some 1) (some 7))) n2
      refine ⟨_, rfl, x, _, rfl, .inl (SqL.of (s2 _ _ g1)), _, _, rfl, rfl, _, rfl, ?_⟩
      refine ⟨p2, s, t, hp, nm, sv, wh, _, _, rfl, SqT.of upd_same, fun y ns H2 s3 _ hn g3 => ⟨_, rfl, ?_⟩⟩
      refine rCatI g3 (s3 _ _ (s2 _ _ g1)) (by omega) fun z H3 s4 g4 => ?_
      exact q z ns B H3 (s1.trans (s2.trans (s3.trans s4))) hn hbo g4
    | tcp f to sq ak fl wi ur op dt =>
      refine ⟨_, rfl, ba, _, _, _, rfl, rfl, hB, atI_nat (j := 0) rfl, rfl, _, rfl, ?_⟩
      refine ⟨_, rfl, a, _, _, _, rfl, rfl, hS, atI_nat (j := 1) rfl, _, rfl, a, _, _, _, rfl, rfl, hS, atI_nat (j := 2) rfl, _, rfl, s, t, ba, _, r, rfl, hB, hR, hb, fun x B H1 s1 hbo g1 => ?_⟩
      have lB := bo_len hbo
      refine ⟨_, rfl, ba, _, _, _, rfl, rfl, sqT_same s1 hB, atI_nat (j := 0) rfl, rfl, _, rfl, ?_⟩
      refine ⟨_, rfl, ba, _, _, _, rfl, rfl, sqT_same s1 hB, atI_nat (j := 0) rfl, rfl, _, rfl, ?_⟩
      refine ⟨_, rfl, 1, rfl, 7, rfl, a, _, rfl, sqT_same s1 hS, (fun z => absurd z.1 (by show ¬ (HT.sIx 8 0 (some 1) = 0); decide)), fun p2 n2 => ?_⟩
      have s2 := same_upd (o := .tup (cutV [.str sPk, .int s, .int t, .int hp, .int nm, .int sv, .int wh, .ref ba] (some 1) (some 7))) n2
      refine ⟨_, rfl, x, _, rfl, .inl (SqL.of (s2 _ _ g1)), _, _, rfl, rfl, _, rfl, ?_⟩
      refine ⟨p2, s, t, hp, nm, sv, wh, _, _, rfl, SqT.of upd_same, fun y ns H2 s3 _ hn g3 => ⟨_, rfl, ?_⟩⟩
      refine rCatI g3 (s3 _ _ (s2 _ _ g1)) (by omega) fun z H3 s4 g4 => ?_
      exact q z ns B H3 (s1.trans (s2.trans (s3.trans s4))) hn hbo g4
    | echo e i no dt =>
      refine ⟨_, rfl, ba, _, _, _, rfl, rfl, hB, atI_nat (j := 0) rfl, rfl, _, rfl, ?_⟩
      refine ⟨_, rfl, a, _, _, _, rfl, rfl, hS, atI_nat (j := 1) rfl, _, rfl, a, _, _, _, rfl, rfl, hS, atI_nat (j := 2) rfl, _, rfl, s, t, ba, _, r, rfl, hB, hR, hb, fun x B H1 s1 hbo g1 => ?_⟩
      have lB := bo_len hbo
      refine ⟨_, rfl, ba, _, _, _, rfl, rfl, sqT_same s1 hB, atI_nat (j := 0) rfl, rfl, _, rfl, ?_⟩
      refine ⟨_, rfl, ba, _, _, _, rfl, rfl, sqT_same s1 hB, atI_nat (j := 0) rfl, rfl, _, rfl, ?_⟩
      refine ⟨_, rfl, 1, rfl, 7, rfl, a, _, rfl, sqT_same s1 hS, (fun z => absurd z.1 (by show ¬ (HT.sIx 8 0 (some 1) = 0); decide)), fun p2 n2 => ?_⟩
      have s2 := same_upd (o := .tup (cutV [.str sPk, .int s, .int t, .int hp, .int nm, .int sv, .int wh, .ref ba] (some 1) (some 7))) n2
      refine ⟨_, rfl, x, _, rfl, .inl (SqL.of (s2 _ _ g1)), _, _, rfl, rfl, _, rfl, ?_⟩
      refine ⟨p2, s, t, hp, nm, sv, wh, _, _, rfl, SqT.of upd_same, fun y ns H2 s3 _ hn g3 => ⟨_, rfl, ?_⟩⟩
      refine rCatI g3 (s3 _ _ (s2 _ _ g1)) (by omega) fun z H3 s4 g4 => ?_
      exact q z ns B H3 (s1.trans (s2.trans (s3.trans s4))) hn hbo g4
theorem ok_law_value (T : Tx K mg) : FnOk P w K mg base CX0 1 T.ad_law_value T.fd_law_value ["octets"] (spValue K) := by
  refine T.d_law_value.F.ok x_law_value (fun vs H Q E h => ?_) (fun cdv A outer s H vs Q E hr h => ?_)
  · obtain ⟨a, ns, rfl, _⟩ := h
    rfl
  · obtain ⟨a, ns, rfl, hS, q⟩ := h
    have nd := x_law_value.nd
    refine ⟨_, (pss_cons (ps_set (i := 1) nd rfl (Or.inl rfl) pe_int)
        (pss_cons (ps_for PassesOwn.never rfl (pi_list (pv 0)) (pg_name (i := 2) nd rfl (Or.inl rfl)) (pss_one (ps_set (i := 1) nd rfl (Or.inl rfl) (pe_op op_add (pe_op op_mul (pv 1) pe_int) (pv 2)))))
        (pss_one (ps_ret (pv 1))))), ?_⟩
    refine ⟨_, rfl, a, rfl, ⟨_, hS⟩, for_list (K := K) (a := a) (xs := ns.map V.int) (fun i σ H' => ∃ v2 : Option V, σ = [some (.ref a), some (.int ((ns.take i).foldl (fun t x => t * 256 + x) 0)), v2] ∧ H' = H)
      ⟨none, rfl, rfl⟩ (fun i σ H' _ ⟨_, _, e⟩ => e ▸ hS) ?_ ?_⟩
    · rintro i x σ H' hx ⟨v2, rfl, rfl⟩
      obtain ⟨z, hz, rfl⟩ := at_int hx
      have ft := fold_take (fun t x => t * 256 + x) ns i z 0 hz
      refine ⟨_, rfl, _, _, rfl, rfl, .inr ⟨by decide, by decide⟩, _, rfl, _, _, rfl, rfl, some (.int z), ?_, rfl⟩
      rw [ft]
      rfl
    · rintro σ H' ⟨v2, rfl, rfl⟩
      rw [List.length_map, List.take_length]
      exact ⟨_, rfl, q⟩
theorem ok_law_stub_of (T : Tx K mg) : FnOk P w K mg base CX0 6 T.ad_law_stub_of T.fd_law_stub_of ["packet"] (spStubOf K) := by
  refine T.d_law_stub_of.F.ok x_law_stub_of (fun vs H Q E h => ?_) (fun cdv A outer s H vs Q E hr h => ?_)
  · obtain ⟨a, s, t, hp, nm, sv, wh, b, r, rfl, _⟩ := h
    rfl
  · obtain ⟨a, s, t, hp, nm, sv, wh, b, r, rfl, hA, hR, hb, q⟩ := h
    have nd := x_law_stub_of.nd
    refine ⟨_, (pss_cons (ps_set (i := 1) nd rfl (Or.inl rfl) (pe_call (ok_law_octets T) hr (by rfl) T.d_law_octets.g T.d_law_octets.F.kp T.d_law_octets.b .nil pass0 (pa_cons (pv 0) pa_nil)))
        (pss_cons (ps_set (i := 2) nd rfl (Or.inl rfl) (pe_ix ix_tup (pv 0) pe_int (fun _ _ => rfl)))
        (pss_cons (ps_set (i := 3) nd rfl (Or.inl rfl) (pe_tup (pa_cons pe_str (pa_cons (pe_ix ix_tup (pv 2) pe_int (fun _ _ => rfl)) (pa_cons (pe_ix ix_tup (pv 2) pe_int (fun _ _ => rfl)) (pa_cons (pe_ix ix_tup (pv 2) pe_int (fun _ _ => rfl)) pa_nil))))))
        (pss_cons (ps_if (pt_cmpR op_eq (pe_ix ix_tup (pv 2) pe_int (fun _ _ => rfl)) pe_str (nomark _)) (pss_one (ps_set (i := 3) nd rfl (Or.inl rfl) (pe_tup (pa_cons pe_str (pa_cons (pe_ix ix_tup (pv 2) pe_int (fun _ _ => rfl)) (pa_cons (pe_ix ix_tup (pv 2) pe_int (fun _ _ => rfl)) (pa_cons (pe_call (ok_law_value T) (hr.mono (by decide)) (by rfl) T.d_law_value.g T.d_law_value.F.kp T.d_law_value.b .nil pass0 (pa_cons (pe_slice sl_list (pv 1) (po_some pe_int) (po_some pe_int)) pa_nil)) pa_nil))))))) pss_nil)
        (pss_cons (ps_if (pt_cmpR op_eq (pe_ix ix_tup (pv 2) pe_int (fun _ _ => rfl)) pe_str (nomark _)) (pss_one (ps_set (i := 3) nd rfl (Or.inl rfl) (pe_op op_catT (pe_slice sl_tup (pv 2) po_none (po_some pe_int)) (pe_tup (pa_cons (pe_call (ok_law_value T) (hr.mono (by decide)) (by rfl) T.d_law_value.g T.d_law_value.F.kp T.d_law_value.b .nil pass0 (pa_cons (pe_slice sl_list (pv 1) (po_some pe_int) (po_some pe_int)) pa_nil)) pa_nil))))) pss_nil)
        (pss_one (ps_ret (pe_op op_catT (pe_op op_catT (pe_tup (pa_cons pe_str pa_nil)) (pe_slice sl_tup (pv 0) (po_some pe_int) (po_some pe_int))) (pe_tup (pa_cons (pe_callB call_len_seq (by rfl) T.b_len (by decide +kernel) (pa_cons (pv 1) pa_nil)) (pa_cons (pv 3) pa_nil))))))))))), ?_⟩
    refine ⟨_, rfl, a, s, t, hp, nm, sv, wh, b, r, rfl, hA, hR, hb, fun o hd B H1 s1 hhd hbo g1 => ?_⟩
    obtain ⟨ba, x1, x2, x3, x4, hx, hS, hB⟩ := hA.same s1
    injection hx with e1 hx
    injection hx with e2 hx
    injection hx with e3 hx
    injection hx with e4 hx
    subst e1 e2 e3 e4
    have hlb := hb.len
    have lB := bo_len hbo
    have eL : (((hd ++ B).map V.int).length : Int) = 20 + (blen b : Int) := by rw [List.length_map, List.length_append, hhd, lB]; omega
    generalize hL : (20 + (blen b : Int)) = L at q eL
    refine ⟨_, rfl, a, _, _, _, rfl, rfl, hS, atI_nat (j := 7) rfl, ?_⟩
    cases b with
    | udp f to sm dt =>
      obtain ⟨d, rfl, hD⟩ := hR
      have hB' : SqT K H1 ba [.str sUdp, .int f, .int to, .int sm, .ref d] := hB
      refine ⟨_, rfl, ba, _, _, _, rfl, rfl, hB', atI_nat (j := 1) rfl, _, rfl, ba, _, _, _, rfl, rfl, hB', atI_nat (j := 2) rfl, _, rfl, ba, _, _, _, rfl, rfl, hB', atI_nat (j := 3) rfl, by show 4 ≤ sizeLine; decide, fun p1 n1 => ?_⟩
      have u1 := same_upd (o := .tup [.str sTcp, .int f, .int to, .int sm]) n1
      refine ⟨_, rfl, ba, _, _, _, rfl, rfl, (sqT_same u1 hB'), atI_nat (j := 0) rfl, rfl, _, rfl, ?_⟩
      have hB2 := sqT_same u1 hB'
      have eC : cutV ((hd ++ B).map V.int) (some ((26 : Nat) : Int)) (some ((28 : Nat) : Int)) = (o2 (udpS s t f to dt * sm)).map V.int := by
        rw [show B = o2 f ++ o2 to ++ o2 (8 + (dt.length : Int)) ++ o2 (udpS s t f to dt * sm) ++ dt from hbo, ← List.append_assoc, ← List.append_assoc]
        exact cut_two _ dt _ 26 28 (by rw [List.length_append, hhd]; rfl) rfl
      refine ⟨_, rfl, ba, _, _, _, rfl, rfl, hB2, atI_nat (j := 1) rfl, _, rfl, ba, _, _, _, rfl, rfl, hB2, atI_nat (j := 2) rfl, _, rfl, 26, rfl, 28, rfl, o, _, rfl, SqL.of (u1 _ _ g1), fun p2 n2 => ?_⟩
      have u2 := same_upd (o := .lst (cutV ((hd ++ B).map V.int) (some ((26 : Nat) : Int)) (some ((28 : Nat) : Int)))) n2
      refine ⟨p2, o2 (udpS s t f to dt * sm), rfl, SqL.of (upd_same.trans (congrArg (fun z => some (HO.lst z)) eC)), ?_⟩
      rw [val_two]
      refine ⟨by show 4 ≤ sizeLine; decide, fun p3 n3 => ?_⟩
      have u3 := same_upd (o := .tup [.str sUdp, .int f, .int to, .int (udpS s t f to dt * sm)]) n3
      have u13 := u1.trans (u2.trans u3)
      refine ⟨_, rfl, ba, _, _, _, rfl, rfl, (sqT_same u13 hB'), atI_nat (j := 0) rfl, rfl, _, rfl, ?_⟩
      have hv := upd_same (H := upd (upd H1 p1 (.tup [.str sTcp, .int f, .int to, .int sm])) p2 (.lst (cutV ((hd ++ B).map V.int) (some ((26 : Nat) : Int)) (some ((28 : Nat) : Int))))) (a := p3) (o := .tup [.str sUdp, .int f, .int to, .int (udpS s t f to dt * sm)])
      refine ⟨by show 1 ≤ sizeLine; decide, fun q1 m1 => ?_⟩
      have t1 := same_upd (o := .tup [.str sSt]) m1
      refine ⟨_, rfl, 1, rfl, 7, rfl, a, _, rfl, sqT_same (u13.trans t1) hS, (fun z => absurd z.1 (by show ¬ (HT.sIx 8 0 (some 1) = 0); decide)), fun q2 m2 => ?_⟩
      have t2 := same_upd (o := .tup [.int s, .int t, .int hp, .int nm, .int sv, .int wh]) m2
      refine ⟨q1, q2, [.str sSt], [.int s, .int t, .int hp, .int nm, .int sv, .int wh], rfl, rfl, SqT.of (t2 _ _ upd_same), SqT.of upd_same, List.cons_ne_nil _ _, (by show 1 + 6 ≤ sizeLine; decide), (fun z => nomatch z), fun _ q3 m3 => ?_⟩
      have t3 := same_upd (o := .tup ([.str sSt] ++ [.int s, .int t, .int hp, .int nm, .int sv, .int wh])) m3
      have t13 := t1.trans (t2.trans t3)
      refine ⟨_, rfl, o, _, rfl, .inl (SqL.of (t13 _ _ (u13 _ _ g1))), _, rfl, by show 2 ≤ sizeLine; decide, fun q4 m4 => ?_⟩
      rw [eL] at *
      have t4 := same_upd (o := .tup [.int L, .ref p3]) m4
      refine ⟨q3, q4, _, [.int L, .ref p3], rfl, rfl, SqT.of (t4 _ _ upd_same), SqT.of upd_same, List.cons_ne_nil _ _, (by show 7 + 2 ≤ sizeLine; decide), (fun z => nomatch z), fun _ q5 m5 => ?_⟩
      have t5 := same_upd (o := .tup ([.str sSt] ++ [.int s, .int t, .int hp, .int nm, .int sv, .int wh] ++ [.int L, .ref p3])) m5
      exact q q5 _ (s1.trans (u13.trans (t13.trans (t4.trans t5)))) ⟨p3, _, _, _, _, _, rfl, SqT.of upd_same, SqT.of (t5 _ _ (t4 _ _ (t13 _ _ hv)))⟩
    | tcp f to sq ak fl wi ur op dt =>
      obtain ⟨oo, d, rfl, hO, hD⟩ := hR
      have hB' : SqT K H1 ba [.str sTcp, .int f, .int to, .int sq, .int ak, .int fl, .int wi, .int ur, .ref oo, .ref d] := hB
      refine ⟨_, rfl, ba, _, _, _, rfl, rfl, hB', atI_nat (j := 1) rfl, _, rfl, ba, _, _, _, rfl, rfl, hB', atI_nat (j := 2) rfl, _, rfl, ba, _, _, _, rfl, rfl, hB', atI_nat (j := 3) rfl, by show 4 ≤ sizeLine; decide, fun p1 n1 => ?_⟩
      have u1 := same_upd (o := .tup [.str sTcp, .int f, .int to, .int sq]) n1
      refine ⟨_, rfl, ba, _, _, _, rfl, rfl, (sqT_same u1 hB'), atI_nat (j := 0) rfl, rfl, _, rfl, ?_⟩
      refine ⟨_, rfl, ba, _, _, _, rfl, rfl, (sqT_same u1 hB'), atI_nat (j := 0) rfl, rfl, _, rfl, ?_⟩
      have hv := upd_same (H := H1) (a := p1) (o := .tup [.str sTcp, .int f, .int to, .int sq])
      refine ⟨by show 1 ≤ sizeLine; decide, fun q1 m1 => ?_⟩
      have t1 := same_upd (o := .tup [.str sSt]) m1
      refine ⟨_, rfl, 1, rfl, 7, rfl, a, _, rfl, sqT_same (u1.trans t1) hS, (fun z => absurd z.1 (by show ¬ (HT.sIx 8 0 (some 1) = 0); decide)), fun q2 m2 => ?_⟩
      have t2 := same_upd (o := .tup [.int s, .int t, .int hp, .int nm, .int sv, .int wh]) m2
      refine ⟨q1, q2, [.str sSt], [.int s, .int t, .int hp, .int nm, .int sv, .int wh], rfl, rfl, SqT.of (t2 _ _ upd_same), SqT.of upd_same, List.cons_ne_nil _ _, (by show 1 + 6 ≤ sizeLine; decide), (fun z => nomatch z), fun _ q3 m3 => ?_⟩
      have t3 := same_upd (o := .tup ([.str sSt] ++ [.int s, .int t, .int hp, .int nm, .int sv, .int wh])) m3
      have t13 := t1.trans (t2.trans t3)
      refine ⟨_, rfl, o, _, rfl, .inl (SqL.of (t13 _ _ (u1 _ _ g1))), _, rfl, by show 2 ≤ sizeLine; decide, fun q4 m4 => ?_⟩
      rw [eL] at *
      have t4 := same_upd (o := .tup [.int L, .ref p1]) m4
      refine ⟨q3, q4, _, [.int L, .ref p1], rfl, rfl, SqT.of (t4 _ _ upd_same), SqT.of upd_same, List.cons_ne_nil _ _, (by show 7 + 2 ≤ sizeLine; decide), (fun z => nomatch z), fun _ q5 m5 => ?_⟩
      have t5 := same_upd (o := .tup ([.str sSt] ++ [.int s, .int t, .int hp, .int nm, .int sv, .int wh] ++ [.int L, .ref p1])) m5
      exact q q5 _ (s1.trans (u1.trans (t13.trans (t4.trans t5)))) ⟨p1, _, _, _, _, _, rfl, SqT.of upd_same, SqT.of (t5 _ _ (t4 _ _ (t13 _ _ hv)))⟩
    | echo e i no dt =>
      obtain ⟨d, rfl, hD⟩ := hR
      have hB' : SqT K H1 ba [.str sEcho, .str (aw e), .int i, .int no, .ref d] := hB
      refine ⟨_, rfl, ba, _, _, _, rfl, rfl, hB', atI_nat (j := 1) rfl, _, rfl, ba, _, _, _, rfl, rfl, hB', atI_nat (j := 2) rfl, _, rfl, ba, _, _, _, rfl, rfl, hB', atI_nat (j := 3) rfl, by show 4 ≤ sizeLine; decide, fun p1 n1 => ?_⟩
      have u1 := same_upd (o := .tup [.str sTcp, .str (aw e), .int i, .int no]) n1
      refine ⟨_, rfl, ba, _, _, _, rfl, rfl, (sqT_same u1 hB'), atI_nat (j := 0) rfl, rfl, _, rfl, ?_⟩
      refine ⟨_, rfl, ba, _, _, _, rfl, rfl, (sqT_same u1 hB'), atI_nat (j := 0) rfl, rfl, _, rfl, ?_⟩
      have hB2 := sqT_same u1 hB'
      have eC : cutV ((hd ++ B).map V.int) (some ((22 : Nat) : Int)) (some ((24 : Nat) : Int)) = (o2 (lsum (echoO e i no dt))).map V.int := by
        rw [show B = [kb e, 0] ++ o2 (lsum (echoO e i no dt)) ++ (o2 i ++ o2 no ++ dt) from hbo, show hd ++ ([kb e, 0] ++ o2 (lsum (echoO e i no dt)) ++ (o2 i ++ o2 no ++ dt)) = hd ++ [kb e, 0] ++ o2 (lsum (echoO e i no dt)) ++ (o2 i ++ o2 no ++ dt) from by simp only [List.append_assoc]]
        exact cut_two (hd ++ [kb e, 0]) _ _ 22 24 (by rw [List.length_append, hhd]; rfl) rfl
      refine ⟨_, rfl, 4, rfl, ba, _, rfl, hB2, (fun z => absurd z.2 (by show ¬ (HT.sIx 5 5 (some 4) = 5); decide)), fun p4 n4 => ?_⟩
      have u4 := same_upd (o := .tup [.str sEcho, .str (aw e), .int i, .int no]) n4
      refine ⟨_, rfl, 22, rfl, 24, rfl, o, _, rfl, SqL.of (u4 _ _ (u1 _ _ g1)), fun p2 n2 => ?_⟩
      have u2 := same_upd (o := .lst (cutV ((hd ++ B).map V.int) (some ((22 : Nat) : Int)) (some ((24 : Nat) : Int)))) n2
      refine ⟨p2, o2 (lsum (echoO e i no dt)), rfl, SqL.of (upd_same.trans (congrArg (fun z => some (HO.lst z)) eC)), ?_⟩
      rw [val_two]
      refine ⟨by show 1 ≤ sizeLine; decide, fun p3 n3 => ?_⟩
      have u3 := same_upd (o := .tup [.int (lsum (echoO e i no dt))]) n3
      refine ⟨p4, p3, [.str sEcho, .str (aw e), .int i, .int no], [.int (lsum (echoO e i no dt))], rfl, rfl, SqT.of (u3 _ _ (u2 _ _ upd_same)), SqT.of upd_same, List.cons_ne_nil _ _, (by show 4 + 1 ≤ sizeLine; decide), (fun z => nomatch z), fun _ p5 n5 => ?_⟩
      have u5 := same_upd (o := .tup ([.str sEcho, .str (aw e), .int i, .int no] ++ [.int (lsum (echoO e i no dt))])) n5
      have hv := upd_same (H := upd (upd (upd (upd H1 p1 (.tup [.str sTcp, .str (aw e), .int i, .int no])) p4 (.tup [.str sEcho, .str (aw e), .int i, .int no])) p2 (.lst (cutV ((hd ++ B).map V.int) (some ((22 : Nat) : Int)) (some ((24 : Nat) : Int))))) p3 (.tup [.int (lsum (echoO e i no dt))])) (a := p5) (o := .tup ([.str sEcho, .str (aw e), .int i, .int no] ++ [.int (lsum (echoO e i no dt))]))
      have u15 := u1.trans (u4.trans (u2.trans (u3.trans u5)))
      refine ⟨by show 1 ≤ sizeLine; decide, fun q1 m1 => ?_⟩
      have t1 := same_upd (o := .tup [.str sSt]) m1
      refine ⟨_, rfl, 1, rfl, 7, rfl, a, _, rfl, sqT_same (u15.trans t1) hS, (fun z => absurd z.1 (by show ¬ (HT.sIx 8 0 (some 1) = 0); decide)), fun q2 m2 => ?_⟩
      have t2 := same_upd (o := .tup [.int s, .int t, .int hp, .int nm, .int sv, .int wh]) m2
      refine ⟨q1, q2, [.str sSt], [.int s, .int t, .int hp, .int nm, .int sv, .int wh], rfl, rfl, SqT.of (t2 _ _ upd_same), SqT.of upd_same, List.cons_ne_nil _ _, (by show 1 + 6 ≤ sizeLine; decide), (fun z => nomatch z), fun _ q3 m3 => ?_⟩
      have t3 := same_upd (o := .tup ([.str sSt] ++ [.int s, .int t, .int hp, .int nm, .int sv, .int wh])) m3
      have t13 := t1.trans (t2.trans t3)
      refine ⟨_, rfl, o, _, rfl, .inl (SqL.of (t13 _ _ (u15 _ _ g1))), _, rfl, by show 2 ≤ sizeLine; decide, fun q4 m4 => ?_⟩
      rw [eL] at *
      have t4 := same_upd (o := .tup [.int L, .ref p5]) m4
      refine ⟨q3, q4, _, [.int L, .ref p5], rfl, rfl, SqT.of (t4 _ _ upd_same), SqT.of upd_same, List.cons_ne_nil _ _, (by show 7 + 2 ≤ sizeLine; decide), (fun z => nomatch z), fun _ q5 m5 => ?_⟩
      have t5 := same_upd (o := .tup ([.str sSt] ++ [.int s, .int t, .int hp, .int nm, .int sv, .int wh] ++ [.int L, .ref p5])) m5
      exact q q5 _ (s1.trans (u15.trans (t13.trans (t4.trans t5)))) ⟨p5, _, _, _, _, _, rfl, SqT.of upd_same, SqT.of (t5 _ _ (t4 _ _ (t13 _ _ hv)))⟩
end

section
variable {P : Program} {w : World} {K : PySem.W.Frag} {mg : Str → Option Value} {base : Heap}
def spPlainN : Sp := fun vs H Q _ => ∃ (p c : Addr), vs = [.ref p] ∧ LS H p c ∧ ∀ (r : Int) (H' : Hp), 0 ≤ r → r ≤ 4294967295 → LS H' p c → Kp p c H H' → Q (.int r) H'
def spDataT : Sp := fun vs H Q _ => ∃ (p c : Addr) (m : Int), vs = [.ref p, .int m] ∧ LS H p c ∧ 0 ≤ m ∧ m ≤ 1500 ∧
  ∀ (t : Addr) (ns : List Int) (H' : Hp), Oc ns → (ns.length : Int) ≤ m → H' t = some (.tup (ns.map V.int)) → LS H' p c → Kp p c H H' → Q (.ref t) H'
def spFieldsT : Sp := fun vs H Q _ => ∃ (p c : Addr), vs = [.ref p] ∧ LS H p c ∧
  ∀ (x : Addr) (s t hp nm sv wh : Int) (H' : Hp), 0 ≤ s → s ≤ 4294967295 → 0 ≤ t → t ≤ 4294967295 → H' x = some (.tup [.int s, .int t, .int hp, .int nm, .int sv, .int wh]) → LS H' p c → Kp p c H H' → Q (.ref x) H'
theorem sqT_kp {H H' : Hp} {p c a : Addr} {xs : List V} (hL : LS H p c) (k : Kp p c H H') (h : SqT K H a xs) : SqT K H' a xs := by
  obtain ⟨n, ns, h1, h2, _⟩ := hL
  rcases h with (h | ⟨o, h⟩) | h
  · refine .inl (.inl (k _ _ h (fun e => ?_) (fun e => ?_)))
    · rw [e, h1] at h; cases h
    · rw [e, h2] at h; cases h
  · refine .inl (.inr ⟨o, k _ _ h (fun e => ?_) (fun e => ?_)⟩)
    · rw [e, h1] at h; cases h
    · rw [e, h2] at h; cases h
  · exact .inr h
theorem rSlA_join {H : Hp} {a : Addr} {xs ys : List V} {lo hi : Option Int} {Q : VK} (h : SqT K H a xs) (e : cutV xs lo hi = ys) (k : ∀ (p : Addr) (H' : Hp), Same H H' → SqT K H' p ys → Q (.ref p) H') : rSlA K (.ref a) lo hi H Q := by
  refine ⟨a, xs, rfl, h, fun z => k a H (Same.refl H) ?_, fun _ p n => k p _ (same_upd n) (SqT.of (by rw [upd_same, e]))⟩
  rw [← e]
  unfold cutV
  rw [z.1, z.2, List.drop_zero, Nat.sub_zero, List.take_length]
  exact h
theorem ok_law_plain (T : Tx K mg) : FnOk P w K mg base CX0 3 T.ad_law_plain T.fd_law_plain ["state"] spPlainN := by
  refine T.d_law_plain.F.ok x_law_plain (fun vs H Q E h => ?_) (fun cdv A outer s H vs Q E hr h => ?_)
  · obtain ⟨p, c, rfl, _⟩ := h
    rfl
  · obtain ⟨p, c, rfl, hL, q⟩ := h
    have nd := x_law_plain.nd
    refine ⟨_, (pss_cons (ps_set (i := 1) nd rfl (Or.inl rfl) (pe_call (ok_law_take T) (hr.mono (by decide)) (by rfl) T.d_law_take.g T.d_law_take.F.kp T.d_law_take.b .nil pass0 (pa_cons (pv 0) (pa_cons pe_int pa_nil))))
        (pss_cons (ps_if (pt_cmpR op_eq (pv 1) pe_int (nomark _)) (pss_one (ps_ret (pe_call (ok_law_pick T) hr (by rfl) T.d_law_pick.g T.d_law_pick.F.kp T.d_law_pick.b .nil pass0 (pa_cons (pv 0) (pa_cons (pe_lst (pa_cons pe_int (pa_cons pe_int (pa_cons pe_int (pa_cons pe_int pa_nil))))) pa_nil))))) pss_nil)
        (pss_cons (ps_set (i := 2) nd rfl (Or.inl rfl) (pe_callTy call_int1 (by rfl) T.b_int (by decide +kernel) (pa_cons (pe_call (ok_law_number T) hr (by rfl) T.d_law_number.g T.d_law_number.F.kp T.d_law_number.b .nil pass0 (pa_cons (pv 0) (pa_cons pe_int (pa_cons pe_int pa_nil)))) pa_nil)))
        (pss_cons (ps_if (pt_cmpR op_ge (pv 2) pe_int (nomark _)) (pss_one (ps_set (i := 2) nd rfl (Or.inl rfl) (pe_op op_add (pv 2) pe_int))) pss_nil)
        (pss_one (ps_ret (pe_op op_add (pe_op op_mul (pv 2) pe_int) (pe_call (ok_law_number T) hr (by rfl) T.d_law_number.g T.d_law_number.F.kp T.d_law_number.b .nil pass0 (pa_cons (pv 0) (pa_cons pe_int (pa_cons pe_int pa_nil))))))))))), ?_⟩
    refine ⟨_, rfl, p, c, 5, rfl, hL, by decide, fun r H1 _ _ hL1 k1 => ?_⟩
    refine ⟨_, rfl, rfl, _, rfl, ite2 (fun _ => ?_) (fun _ => ?_)⟩
    · refine ⟨_, rfl, by show 4 ≤ sizeLine; decide, fun l hl => ?_⟩
      refine ⟨p, c, l, _, rfl, hL1.new hl, hL1.ne1 hl, hL1.ne2 hl, upd_same, List.cons_ne_nil _ _, (by show 4 < 1073741824; decide), fun v H5 hv hL5 k5 => ?_⟩
      have hx : ∃ x, v = V.int x ∧ 0 ≤ x ∧ x ≤ 4294967295 := by
        simp only [List.mem_cons, List.not_mem_nil, or_false] at hv
        rcases hv with rfl | rfl | rfl | rfl
        all_goals exact ⟨_, rfl, by omega, by omega⟩
      obtain ⟨x, rfl, hx0, hx1⟩ := hx
      exact q x H5 hx0 hx1 hL5 (k1.trans ((kp_same (same_upd hl)).trans k5))
    · refine ⟨_, rfl, p, c, 1, 222, rfl, hL1, by decide, fun n H2 n0 n1 hL2 k2 => .inl ⟨_, rfl, ?_⟩⟩
      refine ⟨_, rfl, _, _, rfl, rfl, _, rfl, ite2 (fun _ => ?_) (fun _ => ?_)⟩
      · refine ⟨_, rfl, _, _, rfl, rfl, _, rfl, _, _, rfl, rfl, .inr ⟨by decide, by decide⟩, _, rfl, p, c, 0, 16777215, rfl, hL2, by decide, fun m H3 m0 m1 hL3 k3 => ⟨_, _, rfl, rfl, ?_⟩⟩
        exact q _ H3 (by omega) (by omega) hL3 (k1.trans (k2.trans k3))
      · refine ⟨_, rfl, _, _, rfl, rfl, .inr ⟨by decide, by decide⟩, _, rfl, p, c, 0, 16777215, rfl, hL2, by decide, fun m H3 m0 m1 hL3 k3 => ⟨_, _, rfl, rfl, ?_⟩⟩
        exact q _ H3 (by omega) (by omega) hL3 (k1.trans (k2.trans k3))
theorem ok_law_data (T : Tx K mg) : FnOk P w K mg base CX0 3 T.ad_law_data T.fd_law_data ["state", "most"] spDataT := by
  refine T.d_law_data.F.ok x_law_data (fun vs H Q E h => ?_) (fun cdv A outer s H vs Q E hr h => ?_)
  · obtain ⟨p, c, m, rfl, _⟩ := h
    rfl
  · obtain ⟨p, c, m, rfl, hL, hm0, hm1, q⟩ := h
    have nd := x_law_data.nd
    refine ⟨_, (pss_cons (ps_set (i := 2) nd rfl (Or.inl rfl) (pe_ifExp (pt_cmpR op_eq (pe_call (ok_law_take T) (hr.mono (by decide)) (by rfl) T.d_law_take.g T.d_law_take.F.kp T.d_law_take.b .nil pass0 (pa_cons (pv 0) (pa_cons pe_int pa_nil))) pe_int (nomark _)) (pe_call (ok_law_number T) hr (by rfl) T.d_law_number.g T.d_law_number.F.kp T.d_law_number.b .nil pass0 (pa_cons (pv 0) (pa_cons pe_int (pa_cons (pv 1) pa_nil)))) (pe_call (ok_law_take T) (hr.mono (by decide)) (by rfl) T.d_law_take.g T.d_law_take.F.kp T.d_law_take.b .nil pass0 (pa_cons (pv 0) (pa_cons (pe_op op_add (pe_callB (call_min2 rfl) (by rfl) T.b_min (by decide +kernel) (pa_cons (pv 1) (pa_cons pe_int pa_nil))) pe_int) pa_nil)))))
        (pss_cons (ps_set (i := 3) nd rfl (Or.inr rfl) (pe_call (ok_law_take T) (hr.mono (by decide)) (by rfl) T.d_law_take.g T.d_law_take.F.kp T.d_law_take.b .nil pass0 (pa_cons (pv 0) (pa_cons pe_int pa_nil))))
        (pss_cons (ps_if (pt_cmpR op_eq (pv 3) pe_int (nomark _)) (pss_one (ps_ret (pe_op op_rep2 (pe_tup (pa_cons (pe_call (ok_law_pick T) hr (by rfl) T.d_law_pick.g T.d_law_pick.F.kp T.d_law_pick.b .nil pass0 (pa_cons (pv 0) (pa_cons (pe_lst (pa_cons pe_int (pa_cons pe_int (pa_cons pe_int (pa_cons pe_int pa_nil))))) pa_nil))) pa_nil)) (pv 2)))) pss_nil)
        (pss_cons (ps_asg (pe_tup (pa_cons (pe_call (ok_law_take T) (hr.mono (by decide)) (by rfl) T.d_law_take.g T.d_law_take.F.kp T.d_law_take.b .nil pass0 (pa_cons (pv 0) (pa_cons pe_int pa_nil))) (pa_cons (pe_call (ok_law_take T) (hr.mono (by decide)) (by rfl) T.d_law_take.g T.d_law_take.F.kp T.d_law_take.b .nil pass0 (pa_cons (pv 0) (pa_cons pe_int pa_nil))) pa_nil))) (pg_tup rfl (pgs_cons (pg_name (i := 4) nd rfl (Or.inr rfl)) (pgs_cons (pg_name (i := 5) nd rfl (Or.inr rfl)) pgs_nil))))
        (pss_one (ps_ret (pe_callTy call_tuple_of (by rfl) T.b_tuple (by decide +kernel) (pa_cons (pe_lc (own := [("k", 6)]) (g := gName 6) rfl nd (pi_range1 (by rfl) T.b_range (pa_cons (pv 2) pa_nil)) (blkOk_by (own := [("k", 6)]) (N := Ns_law_data) (sc := defScope s_law_data) (by decide +kernel)) (fun _ _ _ _ _ => (pg_name (i := 6) nd rfl (Or.inl rfl))) (fun _ _ _ _ _ => pts_nil) (fun _ _ _ _ _ => (pe_op op_mod (pe_callTy call_int1 (by rfl) T.b_int (by decide +kernel) (pa_cons (pe_op op_add (pe_op op_add (pv 4) (pe_op op_mul (pv 6) (pv 5))) (pe_op op_mul (pe_op op_mul (pv 6) (pv 6)) (pv 3))) pa_nil)) pe_int))) pa_nil)))))))), ?_⟩
    refine ⟨_, rfl, p, c, 4, rfl, hL, by decide, fun r H2 _ _ hL2 k2 => ?_⟩
    refine ⟨rfl, _, rfl, ite2 (fun _ => ?g1) (fun _ => ?g2)⟩
    case' g1 => refine ⟨_, rfl, _, rfl, p, c, 0, m, rfl, hL2, hm0, fun z H3 z0 z1 hL3 k3 => ?_⟩
    case' g2 =>
      refine ⟨_, rfl, _, rfl, _, _, rfl, _, _, rfl, rfl, p, c, _, rfl, hL2, (by split <;> omega), fun z H3 z0 zz hL3 k3 => ?_⟩
      have z1 : z ≤ m := by split at zz <;> omega
    all_goals
      refine ⟨_, rfl, p, c, 4, rfl, hL3, by decide, fun kd H4 kd0 kd1 hL4 k4 => ?_⟩
      refine ⟨_, rfl, rfl, _, rfl, ite2 (fun _ => ?_) (fun _ => ?_)⟩
      · refine ⟨_, rfl, by show 4 ≤ sizeLine; decide, fun l hl => ?_⟩
        refine ⟨p, c, l, _, rfl, hL4.new hl, hL4.ne1 hl, hL4.ne2 hl, upd_same, List.cons_ne_nil _ _, (by show 4 < 1073741824; decide), fun v H5 hv hL5 k5 => ?_⟩
        have hx : ∃ x, v = V.int x ∧ 0 ≤ x ∧ x ≤ 255 := by
          simp only [List.mem_cons, List.not_mem_nil, or_false] at hv
          rcases hv with rfl | rfl | rfl | rfl
          all_goals exact ⟨_, rfl, by omega, by omega⟩
        obtain ⟨x, rfl, hx0, hx1⟩ := hx
        have hk : Kp p c H H5 := k2.trans (k3.trans (k4.trans ((kp_same (same_upd hl)).trans k5)))
        refine ⟨by show 1 ≤ sizeLine; decide, fun t ht => ?_⟩
        have s1 := same_upd (o := .tup [.int x]) ht
        have hO : Oc (List.replicate z.toNat x) := fun y hy => by
          rw [(List.mem_replicate.mp hy).2]
          exact ⟨hx0, hx1⟩
        refine ⟨_, rfl, t, z, [.int x], rfl, rfl, SqT.of upd_same, List.cons_ne_nil _ _, z0, by omega, by show 1 ≤ 100; decide, ?_⟩
        by_cases e : z = 1
        · subst e
          exact .inl ⟨rfl, q t [x] _ (fun y hy => by rw [List.mem_singleton.mp hy]; exact ⟨hx0, hx1⟩) (by simpa using z1) upd_same (hL5.same s1) (hk.trans (kp_same s1))⟩
        · refine .inr ⟨e, fun t2 ht2 => ?_⟩
          have s2 := same_upd (o := .tup (List.replicate z.toNat [V.int x]).flatten) ht2
          refine q t2 _ _ hO (by rw [List.length_replicate]; omega) ?_ (hL5.same (s1.trans s2)) (hk.trans (kp_same (s1.trans s2)))
          rw [upd_same, List.flatten_replicate_singleton, List.map_replicate]
      · refine ⟨_, rfl, p, c, 256, rfl, hL4, by decide, fun f1 H5 _ _ hL5 k5 => ⟨_, rfl, p, c, 256, rfl, hL5, by decide, fun f2 H6 _ _ hL6 k6 => ?_⟩⟩
        refine ⟨by show 2 ≤ sizeLine; decide, fun tt htt => ⟨tt, _, rfl, SqT.of upd_same, rfl, _, _, rfl, _, _, rfl, rfl, ?_⟩⟩
        have hk : Kp p c H (upd H6 tt (.tup [.int f1, .int f2])) := k2.trans (k3.trans (k4.trans (k5.trans (k6.trans (kp_same (same_upd htt))))))
        have hL6 := hL6.same (same_upd (o := .tup [.int f1, .int f2]) htt)
        generalize upd H6 tt (.tup [.int f1, .int f2]) = H6 at hk hL6 ⊢
        refine ⟨_, rfl, z, rfl, by omega, by omega, fun D hD => ?_⟩
        refine lc_range (lo := 0) (n := z.toNat) (fun i H1 => Same H6 H1 ∧ ∃ ns : List Int, Oc ns ∧ ns.length = i ∧ H1 D = some (.lst (ns.map V.int))) ⟨same_upd hD, [], (fun y hy => nomatch hy), rfl, upd_same⟩ ?_ ?_
        · rintro i H7 hi ⟨s7, ns, hO, hl, g7⟩
          refine ⟨rfl, _, rfl, _, rfl, _, rfl, _, _, rfl, rfl, .inl ⟨by omega, by omega⟩, _, _, rfl, rfl, _, rfl, _, rfl, _, _, rfl, rfl, .inl ⟨by omega, by omega⟩, _, rfl, _, _, rfl, rfl, .inr ⟨by omega, by omega⟩, _, _, rfl, rfl, .inl ⟨_, rfl, _, _, rfl, rfl, (by show (0 : Int) < 256; decide), _, g7, ?_, ?_⟩⟩
          · rw [List.length_map]
            exact Nat.lt_of_le_of_lt (m := 1500) (by omega) (by decide)
          · refine ⟨fun b o e => by rw [upd_ne (ne_of_none e hD)]; exact s7 _ _ e, ns ++ [_], ?_, ?_, by rw [upd_same, List.map_append]; rfl⟩
            · intro y hy
              rcases List.mem_append.mp hy with hy | hy
              · exact hO y hy
              · rw [List.mem_singleton.mp hy]
                have r := emod_rng (0 + (f1 + (0 + (i : Int)) * f2 + (0 + (i : Int)) * (0 + (i : Int)) * kd)) (m := 256) (by decide)
                rw [Int.zero_add] at r
                exact ⟨r.1, by omega⟩
            · rw [List.length_append, hl]
              rfl
        · rintro H7 ⟨s7, ns, hO, hl, g7⟩
          refine ⟨D, _, rfl, .inl ⟨SqL.of g7, fun t ht => ?_⟩⟩
          have s8 := same_upd (o := .tup (ns.map V.int)) ht
          exact q t ns _ hO (by omega) upd_same (hL6.same (s7.trans s8)) (hk.trans (kp_same (s7.trans s8)))
theorem ok_law_fields (T : Tx K mg) : FnOk P w K mg base CX0 4 T.ad_law_fields T.fd_law_fields ["state"] spFieldsT := by
  refine T.d_law_fields.F.ok x_law_fields (fun vs H Q E h => ?_) (fun cdv A outer s H vs Q E hr h => ?_)
  · obtain ⟨p, c, rfl, _⟩ := h
    rfl
  · obtain ⟨p, c, rfl, hL, q⟩ := h
    have nd := x_law_fields.nd
    refine ⟨_, (pss_cons (ps_par (i := 1) (j := 2) (by rfl) nd rfl rfl (by decide) rfl rfl (pa_cons (pe_call (ok_law_number T) (hr.mono (by decide)) (by rfl) T.d_law_number.g T.d_law_number.F.kp T.d_law_number.b .nil pass0 (pa_cons (pv 0) (pa_cons pe_int (pa_cons pe_int pa_nil)))) (pa_cons (pe_call (ok_law_number T) (hr.mono (by decide)) (by rfl) T.d_law_number.g T.d_law_number.F.kp T.d_law_number.b .nil pass0 (pa_cons (pv 0) (pa_cons pe_int (pa_cons pe_int pa_nil)))) pa_nil)) (by rfl))
        (pss_one (ps_ret (pe_tup (pa_cons (pe_call (ok_law_plain T) hr (by rfl) T.d_law_plain.g T.d_law_plain.F.kp T.d_law_plain.b .nil pass0 (pa_cons (pv 0) pa_nil)) (pa_cons (pe_call (ok_law_plain T) hr (by rfl) T.d_law_plain.g T.d_law_plain.F.kp T.d_law_plain.b .nil pass0 (pa_cons (pv 0) pa_nil)) (pa_cons (pv 1) (pa_cons (pv 2) (pa_cons (pe_call (ok_law_number T) (hr.mono (by decide)) (by rfl) T.d_law_number.g T.d_law_number.F.kp T.d_law_number.b .nil pass0 (pa_cons (pv 0) (pa_cons pe_int (pa_cons pe_int pa_nil)))) (pa_cons (pe_call (ok_law_take T) (hr.mono (by decide)) (by rfl) T.d_law_take.g T.d_law_take.F.kp T.d_law_take.b .nil pass0 (pa_cons (pv 0) (pa_cons pe_int pa_nil))) pa_nil)))))))))), ?_⟩
    refine ⟨_, rfl, p, c, 1, 255, rfl, hL, by decide, fun hp H1 _ _ hL1 k1 => ?_⟩
    refine ⟨_, rfl, p, c, 0, 65535, rfl, hL1, by decide, fun nm H2 _ _ hL2 k2 => ?_⟩
    refine ⟨_, _, rfl, ?_⟩
    refine ⟨_, rfl, p, c, rfl, hL2, fun s1 H3 s10 s11 hL3 k3 => ?_⟩
    refine ⟨_, rfl, p, c, rfl, hL3, fun t1 H4 t10 t11 hL4 k4 => ?_⟩
    refine ⟨_, rfl, _, rfl, _, rfl, p, c, 0, 255, rfl, hL4, by decide, fun sv H5 _ _ hL5 k5 => ?_⟩
    refine ⟨_, rfl, p, c, 2, rfl, hL5, by decide, fun wh H6 _ _ hL6 k6 => ?_⟩
    refine ⟨by show 6 ≤ sizeLine; decide, fun x n => ?_⟩
    have z := same_upd (o := .tup [.int s1, .int t1, .int hp, .int nm, .int sv, .int wh]) n
    exact q x s1 t1 hp nm sv wh _ s10 s11 t10 t11 upd_same (hL6.same z) (k1.trans (k2.trans (k3.trans (k4.trans (k5.trans (k6.trans (kp_same z)))))))
/-- an end of a kind like that of e -/
def likeE : En → En → Prop
  | .udp _ _, .udp f t => 1 ≤ f ∧ f ≤ 65535 ∧ 1 ≤ t ∧ t ≤ 65535
  | .tcp _ _, .tcp f t => 1 ≤ f ∧ f ≤ 65535 ∧ 1 ≤ t ∧ t ≤ 65535
  | .echo a _, .echo b i => b = a ∧ 1 ≤ i ∧ i ≤ 65535
  | _, _ => False
def kd : Bd → Str
  | .udp .. => sUdp
  | .tcp .. => sTcp
  | .echo .. => sEcho
def spBodyOf (K : PySem.W.Frag) : Sp := fun vs H Q _ => ∃ (p c : Addr) (k : Str) (m : Int), vs = [.ref p, .str k, .int m] ∧ (k = sUdp ∨ k = sTcp ∨ k = sEcho) ∧ 0 ≤ m ∧ m ≤ 1400 ∧ LS H p c ∧
  ∀ (x : Addr) (b : Bd) (r : List V) (H' : Hp), kd b = k → SqT K H' x (enV b.en ++ r) → BR K H' b r → BB b → LS H' p c → Kp p c H H' → Q (.ref x) H'
theorem ok_law_body_of (T : Tx K mg) : FnOk P w K mg base CX0 6 T.ad_law_body_of T.fd_law_body_of ["state", "kind", "most"] (spBodyOf K) := by
  refine T.d_law_body_of.F.ok x_law_body_of (fun vs H Q E h => ?_) (fun cdv A outer s H vs Q E hr h => ?_)
  · obtain ⟨p, c, k, m, rfl, _⟩ := h
    rfl
  · obtain ⟨p, c, k, m, rfl, hk, hm0, hm1, hL, q⟩ := h
    have nd := x_law_body_of.nd
    refine ⟨_, (pss_cons (ps_set (i := 3) nd rfl (Or.inl rfl) (pe_lst (pa_cons (pe_call (ok_law_number T) (hr.mono (by decide)) (by rfl) T.d_law_number.g T.d_law_number.F.kp T.d_law_number.b .nil pass0 (pa_cons (pv 0) (pa_cons pe_int (pa_cons pe_int pa_nil)))) (pa_cons (pe_call (ok_law_number T) (hr.mono (by decide)) (by rfl) T.d_law_number.g T.d_law_number.F.kp T.d_law_number.b .nil pass0 (pa_cons (pv 0) (pa_cons pe_int (pa_cons pe_int pa_nil)))) pa_nil))))
        (pss_cons (ps_if (pt_cmpR op_eq (pv 1) pe_str (nomark _)) (pss_one (ps_ret (pe_tup (pa_cons (pv 1) (pa_cons (pe_ix ix_list (pv 3) pe_int (fun _ _ => rfl)) (pa_cons (pe_ix ix_list (pv 3) pe_int (fun _ _ => rfl)) (pa_cons (pe_callTy call_int1 (by rfl) T.b_int (by decide +kernel) (pa_cons (pe_cmpR op_gt (pe_call (ok_law_take T) (hr.mono (by decide)) (by rfl) T.d_law_take.g T.d_law_take.F.kp T.d_law_take.b .nil pass0 (pa_cons (pv 0) (pa_cons pe_int pa_nil))) pe_int (nomark _)) pa_nil)) (pa_cons (pe_call (ok_law_data T) (hr.mono (by decide)) (by rfl) T.d_law_data.g T.d_law_data.F.kp T.d_law_data.b .nil pass0 (pa_cons (pv 0) (pa_cons (pv 2) pa_nil))) pa_nil)))))))) pss_nil)
        (pss_cons (ps_if (pt_cmpR op_eq (pv 1) pe_str (nomark _)) (pss_cons (ps_set (i := 4) nd rfl (Or.inl rfl) (pe_call (ok_law_data T) (hr.mono (by decide)) (by rfl) T.d_law_data.g T.d_law_data.F.kp T.d_law_data.b .nil pass0 (pa_cons (pv 0) (pa_cons pe_int pa_nil))))
        (pss_cons (ps_set (i := 4) nd rfl (Or.inl rfl) (pe_slice sl_tupA (pv 4) po_none (po_some (pe_op op_mul (pe_op op_fdiv (pe_callB call_len_seq (by rfl) T.b_len (by decide +kernel) (pa_cons (pv 4) pa_nil)) pe_int) pe_int))))
        (pss_cons (ps_set (i := 5) nd rfl (Or.inl rfl) (pe_tup (pa_cons (pe_call (ok_law_number T) (hr.mono (by decide)) (by rfl) T.d_law_number.g T.d_law_number.F.kp T.d_law_number.b .nil pass0 (pa_cons (pv 0) (pa_cons pe_int (pa_cons pe_int pa_nil)))) (pa_cons (pe_call (ok_law_number T) (hr.mono (by decide)) (by rfl) T.d_law_number.g T.d_law_number.F.kp T.d_law_number.b .nil pass0 (pa_cons (pv 0) (pa_cons pe_int (pa_cons pe_int pa_nil)))) (pa_cons (pv 4) pa_nil)))))
        (pss_cons (ps_set (i := 6) nd rfl (Or.inl rfl) (pe_tup (pa_cons (pe_call (ok_law_number T) (hr.mono (by decide)) (by rfl) T.d_law_number.g T.d_law_number.F.kp T.d_law_number.b .nil pass0 (pa_cons (pv 0) (pa_cons pe_int (pa_cons pe_int pa_nil)))) (pa_cons (pe_call (ok_law_number T) (hr.mono (by decide)) (by rfl) T.d_law_number.g T.d_law_number.F.kp T.d_law_number.b .nil pass0 (pa_cons (pv 0) (pa_cons pe_int (pa_cons pe_int pa_nil)))) (pa_cons (pe_call (ok_law_number T) (hr.mono (by decide)) (by rfl) T.d_law_number.g T.d_law_number.F.kp T.d_law_number.b .nil pass0 (pa_cons (pv 0) (pa_cons pe_int (pa_cons pe_int pa_nil)))) pa_nil)))))
        (pss_one (ps_ret (pe_op op_catT (pe_op op_catT (pe_op op_catT (pe_tup (pa_cons (pv 1) (pa_cons (pe_ix ix_list (pv 3) pe_int (fun _ _ => rfl)) (pa_cons (pe_ix ix_list (pv 3) pe_int (fun _ _ => rfl)) pa_nil)))) (pv 6)) (pv 5)) (pe_tup (pa_cons (pe_call (ok_law_data T) (hr.mono (by decide)) (by rfl) T.d_law_data.g T.d_law_data.F.kp T.d_law_data.b .nil pass0 (pa_cons (pv 0) (pa_cons (pe_callB (call_max2 rfl) (by rfl) T.b_max (by decide +kernel) (pa_cons pe_int (pa_cons (pe_op op_sub (pe_op op_sub (pv 2) pe_int) (pe_callB call_len_seq (by rfl) T.b_len (by decide +kernel) (pa_cons (pv 4) pa_nil))) pa_nil))) pa_nil))) pa_nil))))))))) pss_nil)
        (pss_cons (ps_if (pt_cmpR op_eq (pv 1) pe_str (nomark _)) (pss_cons (ps_set (i := 7) nd rfl (Or.inl rfl) (pe_call (ok_law_pick T) (hr.mono (by decide)) (by rfl) T.d_law_pick.g T.d_law_pick.F.kp T.d_law_pick.b .nil pass0 (pa_cons (pv 0) (pa_cons (pe_lst (pa_cons pe_str (pa_cons pe_str pa_nil))) pa_nil))))
        (pss_one (ps_ret (pe_tup (pa_cons (pv 1) (pa_cons (pv 7) (pa_cons (pe_ix ix_list (pv 3) pe_int (fun _ _ => rfl)) (pa_cons (pe_call (ok_law_number T) (hr.mono (by decide)) (by rfl) T.d_law_number.g T.d_law_number.F.kp T.d_law_number.b .nil pass0 (pa_cons (pv 0) (pa_cons pe_int (pa_cons pe_int pa_nil)))) (pa_cons (pe_call (ok_law_data T) (hr.mono (by decide)) (by rfl) T.d_law_data.g T.d_law_data.F.kp T.d_law_data.b .nil pass0 (pa_cons (pv 0) (pa_cons (pv 2) pa_nil))) pa_nil))))))))) pss_nil)
        pss_never)))), ?_⟩
    refine ⟨_, rfl, p, c, 1, 65535, rfl, hL, by decide, fun n0 H1 n00 n01 hL1 k1 => ?_⟩
    refine ⟨_, rfl, p, c, 1, 65535, rfl, hL1, by decide, fun n1 H2 n10 n11 hL2 k2 => ?_⟩
    refine ⟨by show 2 ≤ sizeLine; decide, fun l hl => ?_⟩
    have s2 := same_upd (o := .lst [.int n0, .int n1]) hl
    have gl := upd_same (H := H2) (a := l) (o := .lst [.int n0, .int n1])
    have lp := hL2.ne1 hl
    have lc := hL2.ne2 hl
    have hL3 := hL2.same s2
    have k3 := k1.trans (k2.trans (kp_same s2))
    generalize upd H2 l (.lst [.int n0, .int n1]) = H3 at gl hL3 k3 ⊢
    rcases hk with rfl | rfl | rfl
    · refine ⟨_, rfl, rfl, _, rfl, ?_⟩
      refine ⟨_, rfl, _, rfl, l, _, _, _, rfl, rfl, SqL.of gl, atI_nat (j := 0) rfl, _, rfl, l, _, _, _, rfl, rfl, SqL.of gl, atI_nat (j := 1) rfl, ?_⟩
      refine ⟨_, rfl, p, c, 4, rfl, hL3, by decide, fun z H4 _ _ hL4 k4 => ⟨_, _, rfl, rfl, .inr ⟨_, rfl, ?_⟩⟩⟩
      refine ⟨_, rfl, _, rfl, p, c, m, rfl, hL4, hm0, by omega, fun d dt H5 hO hl5 g5 hL5 k5 => ⟨by show 5 ≤ sizeLine; decide, fun x n => ?_⟩⟩
      have s6 := same_upd (o := .tup [.str sUdp, .int n0, .int n1, .int (if decide (0 < z) = true then 1 else 0), .ref d]) n
      refine q x (.udp n0 n1 (if decide (0 < z) = true then 1 else 0) dt) [.int _, .ref d] _ rfl (SqT.of upd_same) ⟨d, rfl, SqT.of (s6 _ _ g5)⟩ ⟨n00, n01, n10, n11, ?_, ?_, hO, by omega⟩ (hL5.same s6) (k3.trans (k4.trans (k5.trans (kp_same s6))))
      · split <;> decide
      · split <;> decide
    · refine ⟨_, rfl, rfl, _, rfl, ?_⟩
      refine ⟨_, rfl, rfl, _, rfl, ?_⟩
      refine ⟨_, rfl, p, c, 40, rfl, hL3, by decide, by decide, fun o os H4 _ hl4 g4 hL4 k4 => ?_⟩
      have eJ : ((os.map V.int).length : Int) / 4 * 4 = ((os.length / 4 * 4 : Nat) : Int) := by rw [List.length_map]; omega
      refine ⟨_, rfl, _, rfl, o, _, rfl, .inr (SqT.of g4), _, _, rfl, rfl, ⟨by decide, by decide⟩, _, _, rfl, rfl, .inl ⟨by omega, by omega⟩, _, rfl, rSlA_join (ys := (os.take (os.length / 4 * 4)).map V.int) (SqT.of g4) (by rw [eJ, cut_any, List.map_take]) fun o2 H5 s5 g5 => ?_⟩
      have hL5 := hL4.same s5
      refine ⟨_, rfl, p, c, 0, 65535, rfl, hL5, by decide, fun wi H6 _ _ hL6 k6 => ?_⟩
      refine ⟨_, rfl, p, c, 0, 65535, rfl, hL6, by decide, fun ur H7 _ _ hL7 k7 => ?_⟩
      refine ⟨_, rfl, by show 3 ≤ sizeLine; decide, fun la n8 => ?_⟩
      have s8 := same_upd (o := .tup [.int wi, .int ur, .ref o2]) n8
      have hL8 := hL7.same s8
      refine ⟨_, rfl, p, c, 0, 4294967295, rfl, hL8, by decide, fun sq H9 _ _ hL9 k9 => ?_⟩
      refine ⟨_, rfl, p, c, 0, 4294967295, rfl, hL9, by decide, fun ak Ha _ _ hLa ka => ?_⟩
      refine ⟨_, rfl, p, c, 0, 255, rfl, hLa, by decide, fun fl Hb _ _ hLb kb => ?_⟩
      refine ⟨by show 3 ≤ sizeLine; decide, fun fi nc => ?_⟩
      have sc := same_upd (o := .tup [.int sq, .int ak, .int fl]) nc
      have hLc := hLb.same sc
      have k5b := k6.trans (k7.trans ((kp_same s8).trans (k9.trans (ka.trans kb))))
      have k8b := k9.trans (ka.trans kb)
      have k3c := (k4.trans (kp_same s5)).trans (k5b.trans (kp_same sc))
      have glc := k3c _ _ gl lp lc
      have g5c := sqT_same sc (sqT_kp hL5 k5b g5)
      have glac := sqT_same (K := K) sc (sqT_kp hL8 k8b (SqT.of upd_same))
      have gfi : SqT K (upd Hb fi (.tup [.int sq, .int ak, .int fl])) fi [.int sq, .int ak, .int fl] := SqT.of upd_same
      have kc := k3.trans k3c
      generalize upd Hb fi (.tup [.int sq, .int ak, .int fl]) = Hc at hLc glc g5c glac gfi kc ⊢
      refine ⟨_, rfl, _, rfl, l, _, _, _, rfl, rfl, SqL.of glc, atI_nat (j := 0) rfl, _, rfl, l, _, _, _, rfl, rfl, SqL.of glc, atI_nat (j := 1) rfl, by show 3 ≤ sizeLine; decide, fun t1 m1 => ?_⟩
      have z1 := same_upd (o := .tup [.str sTcp, .int n0, .int n1]) m1
      refine ⟨_, rfl, t1, fi, _, _, rfl, rfl, SqT.of upd_same, sqT_same z1 gfi, List.cons_ne_nil _ _, (by show 3 + 3 ≤ sizeLine; decide), (fun z => nomatch z), fun _ t2 m2 => ?_⟩
      have z2 := same_upd (o := .tup ([.str sTcp, .int n0, .int n1] ++ [.int sq, .int ak, .int fl])) m2
      refine ⟨_, rfl, t2, la, _, _, rfl, rfl, SqT.of upd_same, sqT_same (z1.trans z2) glac, List.cons_ne_nil _ _, (by show 6 + 3 ≤ sizeLine; decide), (fun z => nomatch z), fun _ t3 m3 => ?_⟩
      have z3 := same_upd (o := .tup ([.str sTcp, .int n0, .int n1] ++ [.int sq, .int ak, .int fl] ++ [.int wi, .int ur, .ref o2])) m3
      have z13 := z1.trans (z2.trans z3)
      have lo : (os.take (os.length / 4 * 4)).length ≤ 40 := by rw [List.length_take]; omega
      refine ⟨_, rfl, _, rfl, _, _, rfl, rfl, _, rfl, o2, _, rfl, .inr (sqT_same z13 g5c), _, _, rfl, rfl, _, _, rfl, ?_⟩
      refine ⟨p, c, _, rfl, hLc.same z13, (by split <;> omega), (by split <;> omega), fun d dt Hd hO hld gd hLd kd' => ?_⟩
      refine ⟨by show 1 ≤ sizeLine; decide, fun t4 m4 => ?_⟩
      have z4 := same_upd (o := .tup [.ref d]) m4
      have g3 : SqT K (upd (upd (upd Hc t1 (.tup [.str sTcp, .int n0, .int n1])) t2 (.tup ([.str sTcp, .int n0, .int n1] ++ [.int sq, .int ak, .int fl]))) t3 (.tup ([.str sTcp, .int n0, .int n1] ++ [.int sq, .int ak, .int fl] ++ [.int wi, .int ur, .ref o2]))) t3 ([.str sTcp, .int n0, .int n1] ++ [.int sq, .int ak, .int fl] ++ [.int wi, .int ur, .ref o2]) := SqT.of upd_same
      have g3d := sqT_kp (hLc.same z13) kd' g3
      refine ⟨t3, t4, _, [.ref d], rfl, rfl, sqT_same z4 g3d, SqT.of upd_same, List.cons_ne_nil _ _, (by show 9 + 1 ≤ sizeLine; decide), (fun z => nomatch z), fun _ t5 m5 => ?_⟩
      have z5 := same_upd (o := .tup ([.str sTcp, .int n0, .int n1] ++ [.int sq, .int ak, .int fl] ++ [.int wi, .int ur, .ref o2] ++ [.ref d])) m5
      have z45 := z4.trans z5
      refine q t5 (.tcp n0 n1 sq ak fl wi ur (os.take (os.length / 4 * 4)) dt) [.int sq, .int ak, .int fl, .int wi, .int ur, .ref o2, .ref d] _ rfl (SqT.of upd_same) ⟨o2, d, rfl, sqT_same z45 (sqT_kp (hLc.same z13) kd' (sqT_same z13 g5c)), SqT.of (z45 _ _ gd)⟩ ⟨n00, n01, n10, n11, lo, ?_⟩ (hLd.same z45) (kc.trans ((kp_same z13).trans (kd'.trans (kp_same z45))))
      split at hld <;> omega
    · refine ⟨_, rfl, rfl, _, rfl, ?_⟩
      refine ⟨_, rfl, rfl, _, rfl, ?_⟩
      refine ⟨_, rfl, rfl, _, rfl, ?_⟩
      refine ⟨_, rfl, by show 2 ≤ sizeLine; decide, fun l2 hl2 => ?_⟩
      have gl3 := same_upd (o := .lst [.str sAsk, .str sAns]) hl2 _ _ gl
      refine ⟨p, c, l2, _, rfl, hL3.new hl2, hL3.ne1 hl2, hL3.ne2 hl2, upd_same, List.cons_ne_nil _ _, (by show 2 < 1073741824; decide), fun v H5 hv hL5 k5 => ?_⟩
      have hx : ∃ b, v = V.str (aw b) := by
        simp only [List.mem_cons, List.not_mem_nil, or_false] at hv
        rcases hv with rfl | rfl
        · exact ⟨true, rfl⟩
        · exact ⟨false, rfl⟩
      obtain ⟨b, rfl⟩ := hx
      have gl5 := k5 _ _ gl3 lp lc
      refine ⟨_, rfl, _, rfl, _, rfl, l, _, _, _, rfl, rfl, SqL.of gl5, atI_nat (j := 0) rfl, ?_⟩
      refine ⟨_, rfl, p, c, 0, 65535, rfl, hL5, by decide, fun no H6 no0 no1 hL6 k6 => ?_⟩
      refine ⟨_, rfl, _, rfl, p, c, m, rfl, hL6, hm0, by omega, fun d dt H7 hO hl5 g5 hL7 k7 => ⟨by show 5 ≤ sizeLine; decide, fun x n => ?_⟩⟩
      have s6 := same_upd (o := .tup [.str sEcho, .str (aw b), .int n0, .int no, .ref d]) n
      exact q x (.echo b n0 no dt) [.int no, .ref d] _ rfl (SqT.of upd_same) ⟨d, rfl, SqT.of (s6 _ _ g5)⟩ ⟨n00, n01, no0, no1, hO, by omega⟩ (hL7.same s6) (k3.trans ((kp_same (same_upd hl2)).trans (k5.trans (k6.trans (k7.trans (kp_same s6))))))
end

def U32 (x : Int) : Prop := 0 ≤ x ∧ x ≤ 4294967295
theorem nameE_like {S T : Int} : ∀ {e e' : En}, likeE e e' → nameE (wayE S T e') e = e'
  | .udp _ _, .udp _ _, _ => rfl
  | .tcp _ _, .tcp _ _, _ => rfl
  | .echo a _, .echo b i, h => by
    obtain ⟨rfl, _⟩ := h
    cases b <;> rfl
  | .udp _ _, .tcp _ _, h => h.elim
  | .udp _ _, .echo _ _, h => h.elim
  | .tcp _ _, .udp _ _, h => h.elim
  | .tcp _ _, .echo _ _, h => h.elim
  | .echo _ _, .udp _ _, h => h.elim
  | .echo _ _, .tcp _ _, h => h.elim
/-- with other ends -/
def Bd.nm : Bd → En → Bd
  | .udp _ _ sm dt, .udp f t => .udp f t sm dt
  | .tcp _ _ sq ak fl wi ur op dt, .tcp f t => .tcp f t sq ak fl wi ur op dt
  | .echo _ _ no dt, .echo a i => .echo a i no dt
  | b, _ => b
theorem nm_en : ∀ {b : Bd} {e : En}, likeE b.en e → (b.nm e).en = e
  | .udp _ _ _ _, .udp _ _, _ => rfl
  | .tcp _ _ _ _ _ _ _ _ _, .tcp _ _, _ => rfl
  | .echo _ _ _ _, .echo _ _, _ => rfl
  | .udp _ _ _ _, .tcp _ _, h => h.elim
  | .udp _ _ _ _, .echo _ _, h => h.elim
  | .tcp _ _ _ _ _ _ _ _ _, .udp _ _, h => h.elim
  | .tcp _ _ _ _ _ _ _ _ _, .echo _ _, h => h.elim
  | .echo _ _ _ _, .udp _ _, h => h.elim
  | .echo _ _ _ _, .tcp _ _, h => h.elim
theorem nm_back : ∀ {b : Bd} {e : En}, likeE b.en e → (b.nm e).nm b.en = b
  | .udp _ _ _ _, .udp _ _, _ => rfl
  | .tcp _ _ _ _ _ _ _ _ _, .tcp _ _, _ => rfl
  | .echo _ _ _ _, .echo _ _, _ => rfl
  | .udp _ _ _ _, .tcp _ _, h => h.elim
  | .udp _ _ _ _, .echo _ _, h => h.elim
  | .tcp _ _ _ _ _ _ _ _ _, .udp _ _, h => h.elim
  | .tcp _ _ _ _ _ _ _ _ _, .echo _ _, h => h.elim
  | .echo _ _ _ _, .udp _ _, h => h.elim
  | .echo _ _ _ _, .tcp _ _, h => h.elim
theorem nm_BR {K : PySem.W.Frag} {H : Hp} {r : List V} : ∀ {b : Bd} {e : En}, likeE b.en e → BR K H b r → BR K H (b.nm e) r
  | .udp _ _ _ _, .udp _ _, _, h => h
  | .tcp _ _ _ _ _ _ _ _ _, .tcp _ _, _, h => h
  | .echo _ _ _ _, .echo _ _, _, h => h
  | .udp _ _ _ _, .tcp _ _, h, _ => h.elim
  | .udp _ _ _ _, .echo _ _, h, _ => h.elim
  | .tcp _ _ _ _ _ _ _ _ _, .udp _ _, h, _ => h.elim
  | .tcp _ _ _ _ _ _ _ _ _, .echo _ _, h, _ => h.elim
  | .echo _ _ _ _, .udp _ _, h, _ => h.elim
  | .echo _ _ _ _, .tcp _ _, h, _ => h.elim
theorem nm_len : ∀ {b : Bd} {e : En}, likeE b.en e → blen (b.nm e) = blen b
  | .udp _ _ _ _, .udp _ _, _ => rfl
  | .tcp _ _ _ _ _ _ _ _ _, .tcp _ _, _ => rfl
  | .echo _ _ _ _, .echo _ _, _ => rfl
  | .udp _ _ _ _, .tcp _ _, h => h.elim
  | .udp _ _ _ _, .echo _ _, h => h.elim
  | .tcp _ _ _ _ _ _ _ _ _, .udp _ _, h => h.elim
  | .tcp _ _ _ _ _ _ _ _ _, .echo _ _, h => h.elim
  | .echo _ _ _ _, .udp _ _, h => h.elim
  | .echo _ _ _ _, .tcp _ _, h => h.elim
theorem nm_BB : ∀ {b : Bd} {e : En}, likeE b.en e → BB b → BB (b.nm e)
  | .udp _ _ _ _, .udp _ _, h, ⟨_, _, _, _, z⟩ => ⟨h.1, h.2.1, h.2.2.1, h.2.2.2, z⟩
  | .tcp _ _ _ _ _ _ _ _ _, .tcp _ _, h, ⟨_, _, _, _, z⟩ => ⟨h.1, h.2.1, h.2.2.1, h.2.2.2, z⟩
  | .echo _ _ _ _, .echo _ _, h, ⟨_, _, z⟩ => ⟨h.2.1, h.2.2, z⟩
  | .udp _ _ _ _, .tcp _ _, h, _ => h.elim
  | .udp _ _ _ _, .echo _ _, h, _ => h.elim
  | .tcp _ _ _ _ _ _ _ _ _, .udp _ _, h, _ => h.elim
  | .tcp _ _ _ _ _ _ _ _ _, .echo _ _, h, _ => h.elim
  | .echo _ _ _ _, .udp _ _, h, _ => h.elim
  | .echo _ _ _ _, .tcp _ _, h, _ => h.elim
theorem BB.like : ∀ {b : Bd}, BB b → likeE b.en b.en
  | .udp _ _ _ _, ⟨h1, h2, h3, h4, _⟩ => ⟨h1, h2, h3, h4⟩
  | .tcp _ _ _ _ _ _ _ _ _, ⟨h1, h2, h3, h4, _⟩ => ⟨h1, h2, h3, h4⟩
  | .echo _ _ _ _, ⟨h1, h2, _⟩ => ⟨rfl, h1, h2⟩
theorem likeE.swap : ∀ {e e' : En}, likeE e e' → likeE e e → likeE e' e
  | .udp _ _, .udp _ _, _, h => h
  | .tcp _ _, .tcp _ _, _, h => h
  | .echo _ _, .echo _ _, h, z => ⟨h.1.symm, z.2⟩
  | .udp _ _, .tcp _ _, h, _ => h.elim
  | .udp _ _, .echo _ _, h, _ => h.elim
  | .tcp _ _, .udp _ _, h, _ => h.elim
  | .tcp _ _, .echo _ _, h, _ => h.elim
  | .echo _ _, .udp _ _, h, _ => h.elim
  | .echo _ _, .tcp _ _, h, _ => h.elim
theorem udp_wt (s t f to : Int) (dt : List Int) : wt true (udpO s t f to dt) = s / 65536 + s % 65536 + (t / 65536 + t % 65536) + 17 + (8 + (dt.length : Int)) + f + to + (8 + (dt.length : Int)) + wt true dt := by
  unfold udpO
  simp only [List.append_assoc, wt_o4, wt_o2]
  rw [show ∀ z : List Int, ([0, 17] : List Int) ++ z = 0 :: 17 :: z from fun _ => rfl, wt_two, wt_o2, wt_o2, wt_o2, wt_o2, show ∀ z : List Int, ([0, 0] : List Int) ++ z = 0 :: 0 :: z from fun _ => rfl, wt_two]
  omega
theorem echo_wt (a : Bool) (i no : Int) (dt : List Int) : wt true (echoO a i no dt) = 256 * kb a + i + no + wt true dt := by
  unfold echoO
  rw [show ∀ z : List Int, ([kb a, 0] : List Int) ++ z = kb a :: 0 :: z from fun _ => rfl, wt_two, List.append_assoc, wt_o2, wt_o2]
  omega
theorem mv_udp {S S' A B : Int} (h : S' - S = A - B) (h0 : 0 < S) (h1 : 0 < S') : mv (if 65535 - fo S = 0 then 65535 else 65535 - fo S) B A = 65535 - fo S' := by
  unfold mv fo
  rw [if_neg (by omega : ¬ S = 0), if_neg (by omega : ¬ S' = 0)]
  split <;> split <;> omega
theorem udpS_eq {s t f to : Int} {dt : List Int} (hs : U32 s) (ht : U32 t) (h1 : 1 ≤ f) (h2 : f ≤ 65535) (h3 : 1 ≤ to) (h4 : to ≤ 65535) (hO : Oc dt) (hl : dt.length ≤ 1500) :
    ∃ S : Int, S = s / 65536 + s % 65536 + (t / 65536 + t % 65536) + 17 + (8 + (dt.length : Int)) + f + to + (8 + (dt.length : Int)) + wt true dt ∧ 0 < S ∧ lsum (udpO s t f to dt) = 65535 - fo S := by
  have b := wt_bnd dt hO
  obtain ⟨s0, s1⟩ := hs
  obtain ⟨t0, t1⟩ := ht
  refine ⟨_, rfl, by omega, lsum_eq (udp_wt s t f to dt) (by omega) (by omega)⟩
theorem echoS_eq {a : Bool} {i no : Int} {dt : List Int} (h1 : 1 ≤ i) (h2 : i ≤ 65535) (h3 : 0 ≤ no) (h4 : no ≤ 65535) (hO : Oc dt) (hl : dt.length ≤ 1500) :
    ∃ S : Int, S = 256 * kb a + i + no + wt true dt ∧ 0 < S ∧ lsum (echoO a i no dt) = 65535 - fo S := by
  have b := wt_bnd dt hO
  have k : 0 ≤ kb a ∧ kb a ≤ 8 := by cases a <;> decide
  refine ⟨_, rfl, by omega, lsum_eq (echo_wt a i no dt) (by omega) (by omega)⟩
theorem fo_rng {S : Int} (h : 0 < S) : 1 ≤ fo S ∧ fo S ≤ 65535 := by
  unfold fo
  rw [if_neg (by omega : ¬ S = 0)]
  omega
/-- what the moved stub's part is made of -/
theorem mv_st {s t S T : Int} (hs : U32 s) (ht : U32 t) (hS : U32 S) (hT : U32 T) : ∀ {b : Bd} {e : En}, likeE b.en e → BB b → mvR s t (wayE S T e) b.en (stR s t b) (stR S T (b.nm e))
  | .udp f to sm dt, .udp f' to', h, ⟨a1, a2, a3, a4, m0, m1, hO, hl⟩ => by
    obtain ⟨b1, b2, b3, b4⟩ := h
    obtain ⟨X, eX, pX, lX⟩ := udpS_eq hs ht a1 a2 a3 a4 hO hl
    obtain ⟨Y, eY, pY, lY⟩ := udpS_eq hS hT b1 b2 b3 b4 hO hl
    refine ⟨udpS s t f to dt * sm, rfl, ?_⟩
    show [V.int (udpS S T f' to' dt * sm)] = [V.int (mvU ⟨sUdp, s, f, t, to⟩ ⟨sUdp, S, f', T, to'⟩ (udpS s t f to dt * sm))]
    have hd : Y - X = (wyP ⟨sUdp, S, f', T, to'⟩).sum - (wyP ⟨sUdp, s, f, t, to⟩).sum := by
      simp only [wyP, List.sum_cons, List.sum_nil]
      omega
    have m := mv_udp hd pX pY
    have fX := fo_rng pX
    have fY := fo_rng pY
    have eu : udpS s t f to dt = if 65535 - fo X = 0 then 65535 else 65535 - fo X := by
      unfold udpS
      rw [lX]
    have ev : udpS S T f' to' dt = if 65535 - fo Y = 0 then 65535 else 65535 - fo Y := by
      unfold udpS
      rw [lY]
    rw [← eu] at m
    have u0 : udpS s t f to dt ≠ 0 := by
      rw [eu]
      split <;> omega
    rcases (by omega : sm = 0 ∨ sm = 1) with rfl | rfl
    · rw [Int.mul_zero, Int.mul_zero]
      rfl
    · rw [Int.mul_one, Int.mul_one]
      unfold mvU
      rw [if_neg u0, m, ev]
  | .tcp f to sq ak fl wi ur op dt, .tcp f' to', h, _ => ⟨rfl, _, rfl⟩
  | .echo a i no dt, .echo a' i', h, ⟨a1, a2, a3, a4, hO, hl⟩ => by
    obtain ⟨rfl, b1, b2⟩ := h
    obtain ⟨X, eX, pX, lX⟩ := echoS_eq (a := a') a1 a2 a3 a4 hO hl
    obtain ⟨Y, eY, pY, lY⟩ := echoS_eq (a := a') b1 b2 a3 a4 hO hl
    refine ⟨.int no, lsum (echoO a' i no dt), rfl, ?_⟩
    show [V.int no, V.int (lsum (echoO a' i' no dt))] = _
    have e : (if a' = true then (wayE S T (.echo a' i')).sp else (wayE S T (.echo a' i')).tp) = i' := by cases a' <;> rfl
    rw [e, lX, lY, mv_right (S := X) (S' := Y) (by omega) pX pY]
  | .udp _ _ _ _, .tcp _ _, h, _ => h.elim
  | .udp _ _ _ _, .echo _ _, h, _ => h.elim
  | .tcp _ _ _ _ _ _ _ _ _, .udp _ _, h, _ => h.elim
  | .tcp _ _ _ _ _ _ _ _ _, .echo _ _, h, _ => h.elim
  | .echo _ _ _ _, .udp _ _, h, _ => h.elim
  | .echo _ _ _ _, .tcp _ _, h, _ => h.elim

def spNewWay (K : PySem.W.Frag) : Sp := fun vs H Q _ => ∃ (p c a : Addr) (s t : Int) (m r : List V) (e : En), vs = [.ref p, .ref a] ∧ LS H p c ∧ PkAt K H a s t m e r ∧ likeE e e ∧ U32 s ∧
  ∀ (x : Addr) (S T : Int) (e' : En) (H' : Hp), likeE e e' → U32 S → U32 T → SqT K H' x (wyV (wayE S T e')) → LS H' p c → Kp p c H H' → Q (.ref x) H'
def spMovedBody (K : PySem.W.Frag) : Sp := fun vs H Q _ => ∃ (a wa : Addr) (e e' : En) (r : List V) (S T : Int), vs = [.ref a, .ref wa] ∧ SqT K H a (enV e ++ r) ∧ r ≠ [] ∧ r.length ≤ 100 ∧ SqT K H wa (wyV (wayE S T e')) ∧ likeE e e' ∧
  NewT K H (enV e' ++ r) Q
def spZeroWay (K : PySem.W.Frag) : Sp := fun vs H Q _ => ∃ (a wa : Addr) (s t hp nm sv wh : Int) (b : Bd) (r : List V) (S T : Int) (e' : En), vs = [.ref a, .ref wa] ∧ PkAt K H a s t [.int hp, .int nm, .int sv, .int wh] b.en r ∧ BR K H b r ∧ BB b ∧ kd b ≠ sTcp ∧
  SqT K H wa (wyV (wayE S T e')) ∧ likeE b.en e' ∧ U32 S ∧ U32 T ∧ ∀ (x : Addr) (e2 : En) (H' : Hp), Same H H' → likeE b.en e2 → SqT K H' x (wyV (wayE S T e2)) → Q (.ref x) H'
theorem Kp.off {p c l : Addr} {o : HO} {H H2 H4 : Hp} (k2 : Kp p c H H2) (hl : H2 l = none) (k4 : Kp p c H2 H4) : Kp p c H (upd H4 l o) := fun b x e n1 n2 => by
  have z := k2 b x e n1 n2
  rw [upd_ne (ne_of_none z hl)]
  exact k4 _ _ z n1 n2
theorem LS.upd {H : Hp} {p c l : Addr} {o : HO} (h : LS H p c) (lp : l ≠ p) (lc : l ≠ c) : LS (upd H l o) p c := by
  obtain ⟨k, cs, z1, z2, z3⟩ := h
  exact ⟨k, cs, by rw [upd_ne lp.symm]; exact z1, by rw [upd_ne lc.symm]; exact z2, z3⟩
section
variable {P : Program} {w : World} {K : PySem.W.Frag} {mg : Str → Option Value} {base : Heap}
theorem ok_law_way (T : Tx K mg) : FnOk P w K mg base CX0 1 T.ad_law_way T.fd_law_way ["source", "target", "body"] (spBetween K) := by
  refine T.d_law_way.F.ok x_law_way (fun vs H Q E h => ?_) (fun cdv A outer s H vs Q E hr h => ?_)
  · obtain ⟨s, t, a, e, r, rfl, _⟩ := h
    rfl
  · obtain ⟨s, t, a, e, r, rfl, hS, q⟩ := h
    have nd := x_law_way.nd
    refine ⟨_, (pss_cons (ps_if (pt_cmpR op_eq (pe_ix ix_tup (pv 2) pe_int (fun _ _ => rfl)) pe_str (nomark _)) (pss_cons (ps_set (i := 3) nd rfl (Or.inl rfl) (pe_ix ix_tup (pv 2) pe_int (fun _ _ => rfl)))
        (pss_one (ps_ret (pe_ifExp (pt_cmpR op_eq (pe_ix ix_tup (pv 2) pe_int (fun _ _ => rfl)) pe_str (nomark _)) (pe_tup (pa_cons pe_str (pa_cons (pv 0) (pa_cons (pv 3) (pa_cons (pv 1) (pa_cons pe_int pa_nil)))))) (pe_tup (pa_cons pe_str (pa_cons (pv 0) (pa_cons pe_int (pa_cons (pv 1) (pa_cons (pv 3) pa_nil)))))))))) pss_nil)
        (pss_one (ps_ret (pe_tup (pa_cons (pe_ix ix_tup (pv 2) pe_int (fun _ _ => rfl)) (pa_cons (pv 0) (pa_cons (pe_ix ix_tup (pv 2) pe_int (fun _ _ => rfl)) (pa_cons (pv 1) (pa_cons (pe_ix ix_tup (pv 2) pe_int (fun _ _ => rfl)) pa_nil))))))))), ?_⟩
    cases e with
    | udp f to =>
      refine ⟨_, rfl, a, _, _, _, rfl, rfl, hS, atI_nat (j := 0) rfl, rfl, _, rfl, ?_⟩
      refine ⟨_, rfl, a, _, _, _, rfl, rfl, hS, atI_nat (j := 0) rfl, _, rfl, _, rfl, a, _, _, _, rfl, rfl, hS, atI_nat (j := 1) rfl, _, rfl, _, rfl, a, _, _, _, rfl, rfl, hS, atI_nat (j := 2) rfl, by show 5 ≤ sizeLine; decide, ?_⟩
      exact fun p n => q.mk (Same.refl _) p n
    | tcp f to =>
      refine ⟨_, rfl, a, _, _, _, rfl, rfl, hS, atI_nat (j := 0) rfl, rfl, _, rfl, ?_⟩
      refine ⟨_, rfl, a, _, _, _, rfl, rfl, hS, atI_nat (j := 0) rfl, _, rfl, _, rfl, a, _, _, _, rfl, rfl, hS, atI_nat (j := 1) rfl, _, rfl, _, rfl, a, _, _, _, rfl, rfl, hS, atI_nat (j := 2) rfl, by show 5 ≤ sizeLine; decide, ?_⟩
      exact fun p n => q.mk (Same.refl _) p n
    | echo b i =>
      refine ⟨_, rfl, a, _, _, _, rfl, rfl, hS, atI_nat (j := 0) rfl, rfl, _, rfl, ?_⟩
      refine ⟨_, rfl, a, _, _, _, rfl, rfl, hS, atI_nat (j := 2) rfl, ?_⟩
      cases b with
      | true =>
        refine ⟨_, rfl, a, _, _, _, rfl, rfl, hS, atI_nat (j := 1) rfl, rfl, _, rfl, ?_⟩
        exact ⟨_, rfl, _, rfl, _, rfl, by show 5 ≤ sizeLine; decide, fun p n => q.mk (Same.refl _) p n⟩
      | false =>
        refine ⟨_, rfl, a, _, _, _, rfl, rfl, hS, atI_nat (j := 1) rfl, rfl, _, rfl, ?_⟩
        exact ⟨_, rfl, _, rfl, _, rfl, by show 5 ≤ sizeLine; decide, fun p n => q.mk (Same.refl _) p n⟩
theorem ok_law_moved_body (T : Tx K mg) : FnOk P w K mg base CX0 1 T.ad_law_moved_body T.fd_law_moved_body ["body", "way"] (spMovedBody K) := by
  refine T.d_law_moved_body.F.ok x_law_moved_body (fun vs H Q E h => ?_) (fun cdv A outer s H vs Q E hr h => ?_)
  · obtain ⟨a, wa, e, e', r, S, T', rfl, _⟩ := h
    rfl
  · obtain ⟨a, wa, e, e', r, S, T', rfl, hS, hr0, hrl, hW, hl, q⟩ := h
    have nd := x_law_moved_body.nd
    refine ⟨_, (pss_cons (ps_if (pt_cmpR op_eq (pe_ix ix_tup (pv 0) pe_int (fun _ _ => rfl)) pe_str (nomark _)) (pss_one (ps_ret (pe_op op_catT (pe_op op_catT (pe_slice sl_tup (pv 0) po_none (po_some pe_int)) (pe_tup (pa_cons (pe_op op_add (pe_ix ix_tup (pv 1) pe_int (fun _ _ => rfl)) (pe_ix ix_tup (pv 1) pe_int (fun _ _ => rfl))) pa_nil))) (pe_slice sl_tup (pv 0) (po_some pe_int) po_none)))) pss_nil)
        (pss_one (ps_ret (pe_op op_catT (pe_tup (pa_cons (pe_ix ix_tup (pv 0) pe_int (fun _ _ => rfl)) (pa_cons (pe_ix ix_tup (pv 1) pe_int (fun _ _ => rfl)) (pa_cons (pe_ix ix_tup (pv 1) pe_int (fun _ _ => rfl)) pa_nil)))) (pe_slice sl_tup (pv 0) (po_some pe_int) po_none))))), ?_⟩
    cases e with
    | udp f to =>
      cases e' with
      | udp f' to' =>
        refine ⟨_, rfl, a, _, _, _, rfl, rfl, hS, atI_nat (j := 0) rfl, rfl, _, rfl, ?_⟩
        refine ⟨_, rfl, a, _, _, _, rfl, rfl, hS, atI_nat (j := 0) rfl, _, rfl, wa, _, _, _, rfl, rfl, hW, atI_nat (j := 2) rfl, _, rfl, wa, _, _, _, rfl, rfl, hW, atI_nat (j := 4) rfl, by show 3 ≤ sizeLine; decide, fun p1 n1 => ?_⟩
        have s1 := same_upd (o := .tup (enV (.udp f' to'))) n1
        refine ⟨_, rfl, 3, rfl, a, _, rfl, sqT_same s1 hS, nw3 (.udp f to) r, fun p2 n2 => ?_⟩
        have s2 := same_upd (o := .tup (cutV (enV (.udp f to) ++ r) (some 3) none)) n2
        refine ⟨p1, p2, enV (.udp f' to'), r, rfl, rfl, SqT.of (s2 _ _ upd_same), SqT.of (by rw [upd_same, drop3]), enV_ne (.udp f' to'), slen (by rw [enV_len]; omega), (fun z => absurd z hr0), fun _ p3 n3 => ?_⟩
        exact q.mk (s1.trans s2) p3 n3
      | tcp _ _ => exact hl.elim
      | echo _ _ => exact hl.elim
    | tcp f to =>
      cases e' with
      | tcp f' to' =>
        refine ⟨_, rfl, a, _, _, _, rfl, rfl, hS, atI_nat (j := 0) rfl, rfl, _, rfl, ?_⟩
        refine ⟨_, rfl, a, _, _, _, rfl, rfl, hS, atI_nat (j := 0) rfl, _, rfl, wa, _, _, _, rfl, rfl, hW, atI_nat (j := 2) rfl, _, rfl, wa, _, _, _, rfl, rfl, hW, atI_nat (j := 4) rfl, by show 3 ≤ sizeLine; decide, fun p1 n1 => ?_⟩
        have s1 := same_upd (o := .tup (enV (.tcp f' to'))) n1
        refine ⟨_, rfl, 3, rfl, a, _, rfl, sqT_same s1 hS, nw3 (.tcp f to) r, fun p2 n2 => ?_⟩
        have s2 := same_upd (o := .tup (cutV (enV (.tcp f to) ++ r) (some 3) none)) n2
        refine ⟨p1, p2, enV (.tcp f' to'), r, rfl, rfl, SqT.of (s2 _ _ upd_same), SqT.of (by rw [upd_same, drop3]), enV_ne (.tcp f' to'), slen (by rw [enV_len]; omega), (fun z => absurd z hr0), fun _ p3 n3 => ?_⟩
        exact q.mk (s1.trans s2) p3 n3
      | udp _ _ => exact hl.elim
      | echo _ _ => exact hl.elim
    | echo b i =>
      cases e' with
      | echo b' i' =>
        obtain ⟨rfl, i1, i2⟩ := hl
        refine ⟨_, rfl, a, _, _, _, rfl, rfl, hS, atI_nat (j := 0) rfl, rfl, _, rfl, ?_⟩
        have hcut : cutV (enV (.echo b' i) ++ r) none (some 2) = [.str sEcho, .str (aw b')] := by
          rw [show (2 : Int) = ((2 : Nat) : Int) from rfl, cut_any]
          rfl
        have nw : ¬ (HT.sIx (enV (.echo b' i) ++ r).length 0 none = 0 ∧ HT.sIx (enV (.echo b' i) ++ r).length (enV (.echo b' i) ++ r).length (some 2) = (enV (.echo b' i) ++ r).length) := by
          intro z
          have h : 3 ≤ (enV (.echo b' i) ++ r).length := by simp [enV]
          have := z.2
          rw [show (2 : Int) = ((2 : Nat) : Int) from rfl, HT.sIx_nat] at this
          omega
        refine ⟨_, rfl, 2, rfl, a, _, rfl, hS, nw, fun p1 n1 => ?_⟩
        rw [hcut] at *
        have s1 := same_upd (o := .tup [.str sEcho, .str (aw b')]) n1
        have hW1 := sqT_same s1 hW
        obtain ⟨u, v, hW2, eI⟩ : ∃ u v : Int, SqT K (upd H p1 (.tup [.str sEcho, .str (aw b')])) wa [.str sEcho, .int S, .int u, .int T', .int v] ∧ i' = u + v := by
          cases b'
          · exact ⟨0, i', hW1, by omega⟩
          · exact ⟨i', 0, hW1, by omega⟩
        subst eI
        refine ⟨_, rfl, wa, _, _, _, rfl, rfl, hW2, atI_nat (j := 2) rfl, _, rfl, wa, _, _, _, rfl, rfl, hW2, atI_nat (j := 4) rfl, _, _, rfl, rfl, by show 1 ≤ sizeLine; decide, fun p2 n2 => ?_⟩
        have s2 := same_upd (o := .tup [.int (u + v)]) n2
        refine ⟨p1, p2, [.str sEcho, .str (aw b')], [.int (u + v)], rfl, rfl, SqT.of (s2 _ _ upd_same), SqT.of upd_same, List.cons_ne_nil _ _, (by show 2 + 1 ≤ sizeLine; decide), (fun z => nomatch z), fun _ p3 n3 => ?_⟩
        have s3 := same_upd (o := .tup (enV (.echo b' (u + v)))) n3
        have s13 := s1.trans (s2.trans s3)
        refine ⟨_, rfl, 3, rfl, a, _, rfl, sqT_same s13 hS, nw3 (.echo b' i) r, fun p4 n4 => ?_⟩
        have s4 := same_upd (o := .tup (cutV (enV (.echo b' i) ++ r) (some 3) none)) n4
        refine ⟨p3, p4, enV (.echo b' (u + v)), r, rfl, rfl, SqT.of (s4 _ _ upd_same), SqT.of (by rw [upd_same, drop3]), enV_ne (.echo b' (u + v)), slen (by rw [enV_len]; omega), (fun z => absurd z hr0), fun _ p5 n5 => ?_⟩
        exact q.mk (s13.trans s4) p5 n5
      | udp _ _ => exact hl.elim
      | tcp _ _ => exact hl.elim
theorem ok_law_new_way (T : Tx K mg) : FnOk P w K mg base CX0 4 T.ad_law_new_way T.fd_law_new_way ["state", "packet"] (spNewWay K) := by
  refine T.d_law_new_way.F.ok x_law_new_way (fun vs H Q E h => ?_) (fun cdv A outer s H vs Q E hr h => ?_)
  · obtain ⟨p, c, a, s, t, m, r, e, rfl, _⟩ := h
    rfl
  · obtain ⟨p, c, a, s1, t1, m, r, e, rfl, hL, hA, hee, hs, q⟩ := h
    have nd := x_law_new_way.nd
    refine ⟨_, (pss_cons (ps_set (i := 2) nd rfl (Or.inl rfl) (pe_ix ix_tup (pv 1) pe_int (fun _ _ => rfl)))
        (pss_cons (ps_par (i := 3) (j := 4) (by rfl) nd rfl rfl (by decide) rfl rfl (pa_cons (pe_call (ok_law_plain T) hr (by rfl) T.d_law_plain.g T.d_law_plain.F.kp T.d_law_plain.b .nil pass0 (pa_cons (pv 0) pa_nil)) (pa_cons (pe_call (ok_law_plain T) hr (by rfl) T.d_law_plain.g T.d_law_plain.F.kp T.d_law_plain.b .nil pass0 (pa_cons (pv 0) pa_nil)) pa_nil)) (by rfl))
        (pss_cons (ps_set (i := 5) nd rfl (Or.inl rfl) (pe_lst (pa_cons (pe_call (ok_law_number T) (hr.mono (by decide)) (by rfl) T.d_law_number.g T.d_law_number.F.kp T.d_law_number.b .nil pass0 (pa_cons (pv 0) (pa_cons pe_int (pa_cons pe_int pa_nil)))) (pa_cons (pe_call (ok_law_number T) (hr.mono (by decide)) (by rfl) T.d_law_number.g T.d_law_number.F.kp T.d_law_number.b .nil pass0 (pa_cons (pv 0) (pa_cons pe_int (pa_cons pe_int pa_nil)))) pa_nil))))
        (pss_cons (ps_if (pt_cmpR op_eq (pe_call (ok_law_take T) (hr.mono (by decide)) (by rfl) T.d_law_take.g T.d_law_take.F.kp T.d_law_take.b .nil pass0 (pa_cons (pv 0) (pa_cons pe_int pa_nil))) pe_int (nomark _)) (pss_one (ps_asg (pe_tup (pa_cons (pe_ix ix_tup (pv 1) pe_int (fun _ _ => rfl)) (pa_cons (pe_ifExp (pt_cmpR op_ne (pe_ix ix_tup (pv 2) pe_int (fun _ _ => rfl)) pe_str (nomark _)) (pe_ix ix_tup (pv 2) pe_int (fun _ _ => rfl)) (pe_ix ix_list (pv 5) pe_int (fun _ _ => rfl))) pa_nil))) (pg_tup rfl (pgs_cons (pg_name (i := 3) nd rfl (Or.inl rfl)) (pgs_cons (pg_sub (pv 5) pe_int set_list) pgs_nil))))) pss_nil)
        (pss_cons (ps_if (pt_cmpR op_eq (pe_ix ix_tup (pv 2) pe_int (fun _ _ => rfl)) pe_str (nomark _)) (pss_one (ps_set (i := 5) nd rfl (Or.inl rfl) (pe_ifExp (pt_cmpR op_eq (pe_ix ix_tup (pv 2) pe_int (fun _ _ => rfl)) pe_str (nomark _)) (pe_lst (pa_cons (pe_ix ix_list (pv 5) pe_int (fun _ _ => rfl)) (pa_cons pe_int pa_nil))) (pe_lst (pa_cons pe_int (pa_cons (pe_ix ix_list (pv 5) pe_int (fun _ _ => rfl)) pa_nil)))))) pss_nil)
        (pss_one (ps_ret (pe_tup (pa_cons (pe_ix ix_tup (pv 2) pe_int (fun _ _ => rfl)) (pa_cons (pv 3) (pa_cons (pe_ix ix_list (pv 5) pe_int (fun _ _ => rfl)) (pa_cons (pv 4) (pa_cons (pe_ix ix_list (pv 5) pe_int (fun _ _ => rfl)) pa_nil))))))))))))), ?_⟩
    obtain ⟨ba, x1, x2, x3, x4, rfl, hS, hB⟩ := id hA
    refine ⟨_, rfl, a, _, _, _, rfl, rfl, hS, atI_nat (j := 7) rfl, ?_⟩
    refine ⟨_, rfl, p, c, rfl, hL, fun S H1 S0 S1 hL1 k1 => ?_⟩
    refine ⟨_, rfl, p, c, rfl, hL1, fun T' H2 T0 T1 hL2 k2 => ⟨_, _, rfl, ?_⟩⟩
    refine ⟨_, rfl, p, c, 1, 65535, rfl, hL2, by decide, fun n0 H3 n00 n01 hL3 k3 => ?_⟩
    refine ⟨_, rfl, p, c, 1, 65535, rfl, hL3, by decide, fun n1 H4 n10 n11 hL4 k4 => ?_⟩
    refine ⟨by show 2 ≤ sizeLine; decide, fun l hl => ?_⟩
    have s5 := same_upd (o := .lst [.int n0, .int n1]) hl
    have gl := upd_same (H := H4) (a := l) (o := .lst [.int n0, .int n1])
    have lp := hL4.ne1 hl
    have lc := hL4.ne2 hl
    have hL5 := hL4.same s5
    have k14 := k1.trans (k2.trans (k3.trans k4))
    have k45 := kp_same (p := p) (c := c) s5
    generalize upd H4 l (.lst [.int n0, .int n1]) = H5 at gl hL5 k45 ⊢
    refine gn (nx_go ?_)
    refine seq_if (fun σ' H' => ∃ S' P0 : Int, σ' = [some (.ref p), some (.ref a), some (.ref ba), some (.int S'), some (.int T'), some (.ref l)] ∧ U32 S' ∧ 1 ≤ P0 ∧ P0 ≤ 65535 ∧ H' l = some (.lst [.int P0, .int n1]) ∧ LS H' p c ∧ Kp p c H4 H') ?rest (fun key => ?_)
    rotate_left
    · refine ⟨_, rfl, p, c, 3, rfl, hL5, by decide, fun z H6 _ _ hL6 k6 => ⟨rfl, _, rfl, ite2 (fun _ => ?_) (fun _ => ?_)⟩⟩
      · have kH6 := k14.trans (k45.trans k6)
        have hS6 := sqT_kp hL kH6 hS
        have hB6 := sqT_kp hL kH6 hB
        have gl6 := k6 _ _ gl lp lc
        have fin : ∀ P0 : Int, 1 ≤ P0 → P0 ≤ 65535 → ∀ tt : Addr, H6 tt = none → ∃ S' P1 : Int, [some (V.ref p), some (.ref a), some (.ref ba), some (.int s1), some (.int T'), some (.ref l)] = [some (V.ref p), some (.ref a), some (.ref ba), some (.int S'), some (.int T'), some (.ref l)] ∧ U32 S' ∧ 1 ≤ P1 ∧ P1 ≤ 65535 ∧ (upd (upd H6 tt (.tup [.int s1, .int P0])) l (.lst ([V.int n0, V.int n1].set 0 (.int P0)))) l = some (.lst [.int P1, .int n1]) ∧ LS (upd (upd H6 tt (.tup [.int s1, .int P0])) l (.lst ([V.int n0, V.int n1].set 0 (.int P0)))) p c ∧ Kp p c H4 (upd (upd H6 tt (.tup [.int s1, .int P0])) l (.lst ([V.int n0, V.int n1].set 0 (.int P0)))) := by
          intro P0 h0 h1 tt htt
          have s7 := same_upd (o := .tup [.int s1, .int P0]) htt
          exact ⟨s1, P0, rfl, hs, h0, h1, upd_same, (hL6.same s7).upd lp lc, Kp.off (Kp.refl p c H4) hl (k45.trans (k6.trans (kp_same s7)))⟩
        cases e with
        | udp f to =>
          refine ⟨_, rfl, a, _, _, _, rfl, rfl, hS6, atI_nat (j := 1) rfl, _, rfl, ba, _, _, _, rfl, rfl, hB6, atI_nat (j := 0) rfl, rfl, _, rfl, _, rfl, ba, _, _, _, rfl, rfl, hB6, atI_nat (j := 1) rfl, by show 2 ≤ sizeLine; decide, fun tt htt => ⟨tt, _, rfl, SqT.of upd_same, rfl, _, _, rfl, _, _, rfl, _, rfl, _, _, _, 0, rfl, rfl, same_upd htt _ _ gl6, rfl, rfl, ?_⟩⟩
          exact key _ _ (fin f hee.1 hee.2.1 tt htt)
        | tcp f to =>
          refine ⟨_, rfl, a, _, _, _, rfl, rfl, hS6, atI_nat (j := 1) rfl, _, rfl, ba, _, _, _, rfl, rfl, hB6, atI_nat (j := 0) rfl, rfl, _, rfl, _, rfl, ba, _, _, _, rfl, rfl, hB6, atI_nat (j := 1) rfl, by show 2 ≤ sizeLine; decide, fun tt htt => ⟨tt, _, rfl, SqT.of upd_same, rfl, _, _, rfl, _, _, rfl, _, rfl, _, _, _, 0, rfl, rfl, same_upd htt _ _ gl6, rfl, rfl, ?_⟩⟩
          exact key _ _ (fin f hee.1 hee.2.1 tt htt)
        | echo b i =>
          refine ⟨_, rfl, a, _, _, _, rfl, rfl, hS6, atI_nat (j := 1) rfl, _, rfl, ba, _, _, _, rfl, rfl, hB6, atI_nat (j := 0) rfl, rfl, _, rfl, _, rfl, l, _, _, _, rfl, rfl, SqL.of gl6, atI_nat (j := 0) rfl, by show 2 ≤ sizeLine; decide, fun tt htt => ⟨tt, _, rfl, SqT.of upd_same, rfl, _, _, rfl, _, _, rfl, _, rfl, _, _, _, 0, rfl, rfl, same_upd htt _ _ gl6, rfl, rfl, ?_⟩⟩
          exact key _ _ (fin n0 n00 n01 tt htt)
      · exact key _ _ ⟨S, n0, rfl, ⟨S0, S1⟩, n00, n01, k6 _ _ gl lp lc, hL6, k45.trans k6⟩
    rintro σ' H7 ⟨S', P0, rfl, hS', P00, P01, gl7, hL7, k7⟩
    have kH7 := k14.trans k7
    have hB7 := sqT_kp hL kH7 hB
    have T3 : U32 T' := ⟨T0, T1⟩
    cases e with
    | udp f to =>
      refine ⟨_, rfl, ba, _, _, _, rfl, rfl, hB7, atI_nat (j := 0) rfl, rfl, _, rfl, ?_⟩
      refine ⟨_, rfl, ba, _, _, _, rfl, rfl, hB7, atI_nat (j := 0) rfl, _, rfl, _, rfl, l, _, _, _, rfl, rfl, SqL.of gl7, atI_nat (j := 0) rfl, _, rfl, _, rfl, l, _, _, _, rfl, rfl, SqL.of gl7, atI_nat (j := 1) rfl, by show 5 ≤ sizeLine; decide, fun x n => ?_⟩
      have z := same_upd (o := .tup (wyV (wayE S' T' (.udp P0 n1)))) n
      exact q x S' T' (.udp P0 n1) _ ⟨P00, P01, n10, n11⟩ hS' T3 (SqT.of upd_same) (hL7.same z) (kH7.trans (kp_same z))
    | tcp f to =>
      refine ⟨_, rfl, ba, _, _, _, rfl, rfl, hB7, atI_nat (j := 0) rfl, rfl, _, rfl, ?_⟩
      refine ⟨_, rfl, ba, _, _, _, rfl, rfl, hB7, atI_nat (j := 0) rfl, _, rfl, _, rfl, l, _, _, _, rfl, rfl, SqL.of gl7, atI_nat (j := 0) rfl, _, rfl, _, rfl, l, _, _, _, rfl, rfl, SqL.of gl7, atI_nat (j := 1) rfl, by show 5 ≤ sizeLine; decide, fun x n => ?_⟩
      have z := same_upd (o := .tup (wyV (wayE S' T' (.tcp P0 n1)))) n
      exact q x S' T' (.tcp P0 n1) _ ⟨P00, P01, n10, n11⟩ hS' T3 (SqT.of upd_same) (hL7.same z) (kH7.trans (kp_same z))
    | echo b i =>
      refine ⟨_, rfl, ba, _, _, _, rfl, rfl, hB7, atI_nat (j := 0) rfl, rfl, _, rfl, ?_⟩
      cases b with
      | true =>
        refine ⟨_, rfl, ba, _, _, _, rfl, rfl, hB7, atI_nat (j := 1) rfl, rfl, _, rfl, _, rfl, l, _, _, _, rfl, rfl, SqL.of gl7, atI_nat (j := 0) rfl, by show 2 ≤ sizeLine; decide, fun l2 hl2 => ?_⟩
        have z2 := same_upd (o := .lst [.int P0, .int 0]) hl2
        have gl8 := upd_same (H := H7) (a := l2) (o := .lst [.int P0, .int 0])
        refine ⟨_, rfl, ba, _, _, _, rfl, rfl, (sqT_same z2 hB7), atI_nat (j := 0) rfl, _, rfl, _, rfl, l2, _, _, _, rfl, rfl, SqL.of gl8, atI_nat (j := 0) rfl, _, rfl, _, rfl, l2, _, _, _, rfl, rfl, SqL.of gl8, atI_nat (j := 1) rfl, by show 5 ≤ sizeLine; decide, fun x n => ?_⟩
        have z := same_upd (o := .tup (wyV (wayE S' T' (.echo true P0)))) n
        exact q x S' T' (.echo true P0) _ ⟨rfl, P00, P01⟩ hS' T3 (SqT.of upd_same) (hL7.same (z2.trans z)) (kH7.trans (kp_same (z2.trans z)))
      | false =>
        refine ⟨_, rfl, ba, _, _, _, rfl, rfl, hB7, atI_nat (j := 1) rfl, rfl, _, rfl, _, rfl, l, _, _, _, rfl, rfl, SqL.of gl7, atI_nat (j := 1) rfl, by show 2 ≤ sizeLine; decide, fun l2 hl2 => ?_⟩
        have z2 := same_upd (o := .lst [.int 0, .int n1]) hl2
        have gl8 := upd_same (H := H7) (a := l2) (o := .lst [.int 0, .int n1])
        refine ⟨_, rfl, ba, _, _, _, rfl, rfl, (sqT_same z2 hB7), atI_nat (j := 0) rfl, _, rfl, _, rfl, l2, _, _, _, rfl, rfl, SqL.of gl8, atI_nat (j := 0) rfl, _, rfl, _, rfl, l2, _, _, _, rfl, rfl, SqL.of gl8, atI_nat (j := 1) rfl, by show 5 ≤ sizeLine; decide, fun x n => ?_⟩
        have z := same_upd (o := .tup (wyV (wayE S' T' (.echo false n1)))) n
        exact q x S' T' (.echo false n1) _ ⟨rfl, n10, n11⟩ hS' T3 (SqT.of upd_same) (hL7.same (z2.trans z)) (kH7.trans (kp_same (z2.trans z)))
end

/-- a new tuple, a new list; cats and cuts of tuples -/
theorem mkT {xs : List V} {H : Hp} {Q : VK} (k : ∀ (p : Addr) (H' : Hp), Same H H' → H' p = some (.tup xs) → Q (.ref p) H') : ∀ p, H p = none → Q (.ref p) (upd H p (.tup xs)) := fun p n => k p _ (same_upd n) upd_same
theorem mkL {xs : List V} {H : Hp} {Q : VK} (k : ∀ (p : Addr) (H' : Hp), Same H H' → H' p = some (.lst xs) → Q (.ref p) H') : ∀ p, H p = none → Q (.ref p) (upd H p (.lst xs)) := fun p n => k p _ (same_upd n) upd_same
theorem catT {K : PySem.W.Frag} {H : Hp} {a b : Addr} {xs ys : List V} {Q : VK} (ha : SqT K H a xs) (hb : SqT K H b ys) (hx : xs ≠ []) (hy : ys ≠ []) (hl : xs.length + ys.length ≤ 1000)
    (k : ∀ (p : Addr) (H' : Hp), Same H H' → SqT K H' p (xs ++ ys) → Q (.ref p) H') : rCatT K (.ref a) (.ref b) H Q :=
  ⟨a, b, xs, ys, rfl, rfl, ha, hb, hx, Nat.le_trans hl (by decide), (fun z => absurd z hy), fun _ p n => k p _ (same_upd n) (SqT.of upd_same)⟩
theorem catT0 {K : PySem.W.Frag} {H : Hp} {a b : Addr} {xs : List V} {Q : VK} (ha : SqT K H a xs) (hb : SqT K H b []) (hx : xs ≠ []) (hl : xs.length ≤ 1000)
    (k : Q (.ref a) H) : rCatT K (.ref a) (.ref b) H Q :=
  ⟨a, b, xs, [], rfl, rfl, ha, hb, hx, Nat.le_trans hl (by decide), (fun _ => k), fun z => absurd rfl z⟩
theorem slT {K : PySem.W.Frag} {H : Hp} {a : Addr} {xs ys : List V} {lo hi : Option Int} {Q : VK} (h : SqT K H a xs) (nw : ¬ (HT.sIx xs.length 0 lo = 0 ∧ HT.sIx xs.length xs.length hi = xs.length)) (e : cutV xs lo hi = ys)
    (k : ∀ (p : Addr) (H' : Hp), Same H H' → SqT K H' p ys → Q (.ref p) H') : rSlT K (.ref a) lo hi H Q :=
  ⟨a, xs, rfl, h, nw, fun p n => k p _ (same_upd n) (SqT.of (by rw [upd_same, e]))⟩
theorem ixT {K : PySem.W.Frag} {H : Hp} {a : Addr} {xs : List V} {v : V} {Q : VK} (j : Nat) (h : SqT K H a xs) (e : xs[j]? = some v) (q : Q v H) : rIxT K (.ref a) (.int (j : Int)) H Q := ⟨a, xs, _, v, rfl, rfl, h, atI_nat e, q⟩
theorem ixL {K : PySem.W.Frag} {H : Hp} {a : Addr} {xs : List V} {v : V} {Q : VK} (j : Nat) (h : SqL K H a xs) (e : xs[j]? = some v) (q : Q v H) : rIxL K (.ref a) (.int (j : Int)) H Q := ⟨a, xs, _, v, rfl, rfl, h, atI_nat e, q⟩
theorem slHi {K : PySem.W.Frag} {H : Hp} {a : Addr} {xs : List V} {Q : VK} (j : Nat) {i : Int} (h : SqT K H a xs) (hj : j < xs.length) (e : i = (j : Int)) (k : ∀ (p : Addr) (H' : Hp), Same H H' → SqT K H' p (xs.take j) → Q (.ref p) H')   : rSlT K (.ref a) none (some i) H Q :=
  e ▸ slT h (fun z => by have := z.2; rw [HT.sIx_nat] at this; omega) (cut_any xs j) k
theorem slLo {K : PySem.W.Frag} {H : Hp} {a : Addr} {xs : List V} {Q : VK} (j : Nat) {i : Int} (e : i = (j : Int)) (h : SqT K H a xs) (h0 : 0 < j) (hj : j ≤ xs.length) (k : ∀ (p : Addr) (H' : Hp), Same H H' → SqT K H' p (xs.drop j) → Q (.ref p) H')   : rSlT K (.ref a) (some i) none H Q :=
  e ▸ slT h (fun z => by have := z.1; rw [HT.sIx_nat] at this; omega) (cut_hi xs j hj) k
theorem slMid {K : PySem.W.Frag} {H : Hp} {a : Addr} {xs : List V} {Q : VK} (i j : Nat) {i' j' : Int} (h : SqT K H a xs) (h0 : 0 < i) (hi : i ≤ j) (hj : j ≤ xs.length) (e1 : i' = (i : Int)) (e2 : j' = (j : Int)) (k : ∀ (p : Addr) (H' : Hp), Same H H' → SqT K H' p ((xs.drop i).take (j - i)) → Q (.ref p) H')   : rSlT K (.ref a) (some i') (some j') H Q :=
  e1 ▸ e2 ▸ slT h (fun z => by have := z.1; rw [HT.sIx_nat] at this; omega) (by unfold cutV; rw [HT.sIx_nat, HT.sIx_nat, Nat.min_eq_left hj, Nat.min_eq_left (by omega)]) k
theorem slInit {K : PySem.W.Frag} {H : Hp} {a : Addr} {xs : List V} {Q : VK} (h : SqT K H a xs) (hj : 0 < xs.length) (k : ∀ (p : Addr) (H' : Hp), Same H H' → SqT K H' p (xs.take (xs.length - 1)) → Q (.ref p) H') : rSlT K (.ref a) none (some (-1)) H Q :=
  slT h (fun z => by
    have := z.2
    unfold HT.sIx at this
    revert this
    simp
    omega) (by
    have e : HT.sIx xs.length xs.length (some (-1)) = xs.length - 1 := by
      unfold HT.sIx
      simp
      omega
    unfold cutV
    rw [HT.sIx_none, e, List.drop_zero, Nat.sub_zero]) k
theorem slLoN {K : PySem.W.Frag} {H : Hp} {a : Addr} {xs : List V} {Q : VK} {σ : L2.St} (j : Nat) {i : Int} (h : SqT K H a xs) (h0 : 0 < j) (hj : j ≤ xs.length) (e : i = (j : Int)) (k : ∀ (p : Addr) (H' : Hp), Same H H' → SqT K H' p (xs.drop j) → Q (.ref p) H') : tNoPart σ H (fun u H3 => rSlT K (.ref a) (some i) u H3 Q) := slLo j e h h0 hj k
theorem PkAt.kp {K : PySem.W.Frag} {H H' : Hp} {p c a : Addr} {s t : Int} {m r : List V} {e : En} (h : PkAt K H a s t m e r) (hL : LS H p c) (k : Kp p c H H') : PkAt K H' a s t m e r := by
  obtain ⟨ba, x1, x2, x3, x4, h1, h2, h3⟩ := h
  exact ⟨ba, x1, x2, x3, x4, h1, sqT_kp hL k h2, sqT_kp hL k h3⟩
theorem StAt.kp {K : PySem.W.Frag} {H H' : Hp} {p c a : Addr} {s t : Int} {m r : List V} {e : En} (h : StAt K H a s t m e r) (hL : LS H p c) (k : Kp p c H H') : StAt K H' a s t m e r := by
  obtain ⟨ba, x1, x2, x3, x4, x5, h1, h2, h3⟩ := h
  exact ⟨ba, x1, x2, x3, x4, x5, h1, sqT_kp hL k h2, sqT_kp hL k h3⟩
theorem BR.kp {K : PySem.W.Frag} {H H' : Hp} {p c : Addr} (hL : LS H p c) (z : Kp p c H H') : ∀ {b : Bd} {r : List V}, BR K H b r → BR K H' b r
  | .udp _ _ _ _, _, ⟨d, h1, h2⟩ => ⟨d, h1, sqT_kp hL z h2⟩
  | .tcp _ _ _ _ _ _ _ _ _, _, ⟨o, d, h1, h2, h3⟩ => ⟨o, d, h1, sqT_kp hL z h2, sqT_kp hL z h3⟩
  | .echo _ _ _ _, _, ⟨d, h1, h2⟩ => ⟨d, h1, sqT_kp hL z h2⟩
theorem Sm.tupA {K : PySem.W.Frag} {H : Hp} {n : Nat} {a b : Addr} {xs : List V} (ha : SqT K H a xs) (hb : SqT K H b xs) (hf : xs.all flt1 = true) (hl : xs.length ≤ 100000) : Sm K H (n + 1) (.ref a) (.ref b) := Sm.tup ha hb (List.all_eq_true.mp hf) hl
theorem flt_st : flt1 (.str sSt) = true := by decide +kernel
theorem flt_pk : flt1 (.str sPk) = true := by decide +kernel
theorem flt_udp : flt1 (.str sUdp) = true := by decide +kernel
theorem flt_tcp : flt1 (.str sTcp) = true := by decide +kernel
theorem flt_echo : flt1 (.str sEcho) = true := by decide +kernel
theorem flt_aw (b : Bool) : flt1 (.str (aw b)) = true := by cases b <;> decide +kernel
theorem flt_int (i : Int) : flt1 (.int i) = true := rfl

theorem wayE_s (S T : Int) (e : En) : (wayE S T e).s = S := by
  cases e with
  | echo a i => cases a <;> rfl
  | _ => rfl
theorem wayE_t (S T : Int) (e : En) : (wayE S T e).t = T := by
  cases e with
  | echo a i => cases a <;> rfl
  | _ => rfl
theorem wyV_E (S T : Int) (e : En) : wyV (wayE S T e) = [.str (wayE S T e).k, .int S, .int (wayE S T e).sp, .int T, .int (wayE S T e).tp] := by
  unfold wyV
  rw [wayE_s, wayE_t]
theorem at_two (A C : List Int) (n : Int) (i : Nat) (hA : A.length = i) : ((A ++ o2 n ++ C).map V.int)[i]? = some (.int (n / 256)) ∧ ((A ++ o2 n ++ C).map V.int)[i + 1]? = some (.int (n % 256)) := by
  have e : (A ++ o2 n ++ C) = A ++ (n / 256 :: n % 256 :: C) := by rw [List.append_assoc]; rfl
  rw [e, List.getElem?_map, List.getElem?_map, List.getElem?_append_right (by omega), List.getElem?_append_right (by omega), hA, Nat.sub_self, show i + 1 - i = 1 by omega]
  exact ⟨rfl, rfl⟩
theorem lsum_rng {S : Int} (h : 0 < S) : 0 ≤ 65535 - fo S ∧ 65535 - fo S ≤ 65534 := by
  have := fo_rng h
  omega
section
variable {P : Program} {w : World} {K : PySem.W.Frag} {mg : Str → Option Value} {base : Heap}
theorem ok_law_zero_way (T : Tx K mg) : FnOk P w K mg base CX0 6 T.ad_law_zero_way T.fd_law_zero_way ["packet", "way"] (spZeroWay K) := by
  refine T.d_law_zero_way.F.ok x_law_zero_way (fun vs H Q E h => ?_) (fun cdv A outer s H vs Q E hr h => ?_)
  · obtain ⟨a, wa, s, t, hp, nm, sv, wh, b, r, S, T', e', rfl, _⟩ := h
    rfl
  · obtain ⟨a, wa, s1, t1, hp, nm, sv, wh, b, r, S, T', e', rfl, hA, hR, hb, hk, hW, hl, hS', hT', q⟩ := h
    have nd := x_law_zero_way.nd
    refine ⟨_, (pss_cons (ps_set (i := 2) nd rfl (Or.inl rfl) (pe_call (ok_law_octets T) hr (by rfl) T.d_law_octets.g T.d_law_octets.F.kp T.d_law_octets.b .nil pass0 (pa_cons (pe_op op_catT (pe_op op_catT (pe_tup (pa_cons pe_str (pa_cons (pe_ix ix_tup (pv 1) pe_int (fun _ _ => rfl)) (pa_cons (pe_ix ix_tup (pv 1) pe_int (fun _ _ => rfl)) pa_nil)))) (pe_slice sl_tup (pv 0) (po_some pe_int) (po_some pe_int))) (pe_tup (pa_cons (pe_call (ok_law_moved_body T) (hr.mono (by decide)) (by rfl) T.d_law_moved_body.g T.d_law_moved_body.F.kp T.d_law_moved_body.b .nil pass0 (pa_cons (pe_ix ix_tup (pv 0) pe_int (fun _ _ => rfl)) (pa_cons (pv 1) pa_nil))) pa_nil))) pa_nil)))
        (pss_cons (ps_set (i := 3) nd rfl (Or.inl rfl) (pe_ifExp (pt_cmpR op_eq (pe_ix ix_tup (pv 1) pe_int (fun _ _ => rfl)) pe_str (nomark _)) (pe_op op_add (pe_op op_mul (pe_ix ix_list (pv 2) pe_int (fun _ _ => rfl)) pe_int) (pe_ix ix_list (pv 2) pe_int (fun _ _ => rfl))) (pe_op op_add (pe_op op_mul (pe_ix ix_list (pv 2) pe_int (fun _ _ => rfl)) pe_int) (pe_ix ix_list (pv 2) pe_int (fun _ _ => rfl)))))
        (pss_cons (ps_if (PW.pt (pw_and (pt_cmpR op_eq (pe_ix ix_tup (pv 1) pe_int (fun _ _ => rfl)) pe_str (nomark _)) (pw_and1 (PW.pt (pw_or (pt_cmpR op_eq (pe_ix ix_seq (pe_ix ix_tup (pv 0) pe_int (fun _ _ => rfl)) pe_int (fun _ _ => rfl)) pe_int (nomark _)) (pw_or1 (pt_cmpR op_eq (pv 3) pe_int (nomark _)))))))) (pss_one (ps_ret (pv 1))) pss_nil)
        (pss_cons (ps_set (i := 4) nd rfl (Or.inl rfl) (pe_ifExp (PW.pt (pw_or (pt_cmpR op_eq (pe_ix ix_tup (pv 1) pe_int (fun _ _ => rfl)) pe_str (nomark _)) (pw_or1 (pt_cmpR op_eq (pe_ix ix_tup (pv 1) pe_int (fun _ _ => rfl)) pe_int (nomark _))))) pe_int pe_int))
        (pss_cons (ps_set (i := 5) nd rfl (Or.inl rfl) (pe_op op_add (pe_ix ix_tup (pv 1) (pv 4) (fun _ _ => rfl)) (pv 3)))
        (pss_one (ps_ret (pe_op op_catT (pe_op op_catT (pe_slice sl_tup (pv 1) po_none (po_some (pv 4))) (pe_tup (pa_cons (pe_ifExp (pt_cmpR op_lt (pv 5) pe_int (nomark _)) (pv 5) (pe_op op_sub (pv 5) pe_int)) pa_nil))) (pe_slice sl_tup (pv 1) (po_some (pe_op op_add (pv 4) pe_int)) po_none))))))))), ?_⟩
    obtain ⟨ba, x1, x2, x3, x4, hx, hS, hB⟩ := id hA
    injection hx with e1 hx
    injection hx with e2 hx
    injection hx with e3 hx
    injection hx with e4 hx
    subst e1 e2 e3 e4
    have hWe := hW
    rw [wyV_E] at hWe
    have hr0 : r ≠ [] ∧ r.length ≤ 100 := by
      cases b with
      | udp f to sm dt => obtain ⟨d, rfl, _⟩ := hR; exact ⟨List.cons_ne_nil _ _, by simp⟩
      | tcp f to sq ak fl wi ur op dt => obtain ⟨o, d, rfl, _⟩ := hR; exact ⟨List.cons_ne_nil _ _, by simp⟩
      | echo e i no dt => obtain ⟨d, rfl, _⟩ := hR; exact ⟨List.cons_ne_nil _ _, by simp⟩
    refine ⟨_, rfl, wa, _, _, _, rfl, rfl, hWe, atI_nat (j := 1) rfl, _, rfl, wa, _, _, _, rfl, rfl, hWe, atI_nat (j := 3) rfl, by show 3 ≤ sizeLine; decide, fun p1 n1 => ?_⟩
    have u1 := same_upd (o := .tup [.str sPk, .int S, .int T']) n1
    refine ⟨_, rfl, 3, rfl, 7, rfl, a, _, rfl, sqT_same u1 hS, (fun z => absurd z.1 (by show ¬ (HT.sIx 8 0 (some 3) = 0); decide)), fun p2 n2 => ?_⟩
    have u2 := same_upd (o := .tup [.int hp, .int nm, .int sv, .int wh]) n2
    refine ⟨p1, p2, [.str sPk, .int S, .int T'], [.int hp, .int nm, .int sv, .int wh], rfl, rfl, SqT.of (u2 _ _ upd_same), SqT.of upd_same, List.cons_ne_nil _ _, (by show 3 + 4 ≤ sizeLine; decide), (fun z => nomatch z), fun _ p3 n3 => ?_⟩
    have u3 := same_upd (o := .tup ([.str sPk, .int S, .int T'] ++ [.int hp, .int nm, .int sv, .int wh])) n3
    have u13 := u1.trans (u2.trans u3)
    refine ⟨_, rfl, a, _, _, _, rfl, rfl, sqT_same u13 hS, atI_nat (j := 7) rfl, _, rfl, ba, wa, b.en, e', r, S, T', rfl, sqT_same u13 hB, hr0.1, hr0.2, sqT_same u13 hW, hl, fun x H4 u4 g4 => ?_⟩
    refine ⟨by show 1 ≤ sizeLine; decide, fun p6 n6 => ?_⟩
    have u6 := same_upd (o := .tup [.ref x]) n6
    have u46 := u4.trans u6
    refine ⟨p3, p6, _, [.ref x], rfl, rfl, SqT.of (u46 _ _ upd_same), SqT.of upd_same, List.cons_ne_nil _ _, (by show 7 + 1 ≤ sizeLine; decide), (fun z => nomatch z), fun _ p7 n7 => ?_⟩
    have u7 := same_upd (o := .tup ([.str sPk, .int S, .int T'] ++ [.int hp, .int nm, .int sv, .int wh] ++ [.ref x])) n7
    have u17 := u13.trans (u46.trans u7)
    have gx : SqT K _ x (enV (b.nm e').en ++ r) := sqT_same (u6.trans u7) (by rw [nm_en hl]; exact g4)
    refine ⟨p7, S, T', hp, nm, sv, wh, b.nm e', r, rfl, ⟨x, _, _, _, _, rfl, SqT.of upd_same, gx⟩, (nm_BR hl hR).same u17, nm_BB hl hb, fun o hd B H8 u8 hhd hbo g8 => ?_⟩
    have u18 := u17.trans u8
    have hW8 := sqT_same u18 hWe
    have hS8 := sqT_same u18 hS
    have hB8 := sqT_same u18 hB
    cases b with
    | tcp f to sq ak fl wi ur op dt => exact absurd rfl hk
    | udp f to sm dt =>
      cases e' with
      | udp f' to' =>
        obtain ⟨d, rfl, hD⟩ := hR
        obtain ⟨_, _, _, _, sm0, sm1, hO, hdl⟩ := hb
        obtain ⟨Y, eY, pY, lY⟩ := udpS_eq hS' hT' hl.1 hl.2.1 hl.2.2.1 hl.2.2.2 hO hdl
        have rY := lsum_rng pY
        have hu : 0 ≤ udpS S T' f' to' dt * sm ∧ udpS S T' f' to' dt * sm ≤ 65535 := by
          have : 0 ≤ udpS S T' f' to' dt ∧ udpS S T' f' to' dt ≤ 65535 := by
            unfold udpS
            rw [lY]
            split <;> omega
          rcases (by omega : sm = 0 ∨ sm = 1) with rfl | rfl
          · rw [Int.mul_zero]
            omega
          · rw [Int.mul_one]
            exact this
        have eB : hd ++ B = hd ++ (o2 f' ++ o2 to' ++ o2 (8 + (dt.length : Int))) ++ o2 (udpS S T' f' to' dt * sm) ++ dt := by
          rw [show B = o2 f' ++ o2 to' ++ o2 (8 + (dt.length : Int)) ++ o2 (udpS S T' f' to' dt * sm) ++ dt from hbo]
          simp only [List.append_assoc]
        have a26 := at_two (hd ++ (o2 f' ++ o2 to' ++ o2 (8 + (dt.length : Int)))) dt (udpS S T' f' to' dt * sm) 26 (by rw [List.length_append, hhd]; rfl)
        rw [← eB] at a26
        generalize udpS S T' f' to' dt * sm = n at hu a26
        have hW8 : SqT K H8 wa [.str sUdp, .int S, .int f', .int T', .int to'] := hW8
        refine ⟨_, rfl, wa, _, _, _, rfl, rfl, hW8, atI_nat (j := 0) rfl, rfl, _, rfl, ?_⟩
        refine ⟨_, rfl, o, _, _, _, rfl, rfl, SqL.of g8, atI_nat (j := 26) a26.1, _, _, rfl, rfl, .inr ⟨by decide, by decide⟩, _, rfl, o, _, _, _, rfl, rfl, SqL.of g8, atI_nat (j := 27) a26.2, _, _, rfl, rfl, ?_⟩
        refine ⟨_, rfl, wa, _, _, _, rfl, rfl, hW8, atI_nat (j := 0) rfl, rfl, _, rfl, ?_⟩
        have ret : Q (.ref wa) H8 := q wa (.udp f' to') H8 u18 hl hW8
        refine ⟨_, rfl, a, _, _, _, rfl, rfl, hS8, atI_nat (j := 7) rfl, ix_sq (.inr hB8) (atI_nat (j := 3) rfl) ⟨rfl, _, rfl, ite2 (fun _ => ⟨_, rfl, ret⟩) (fun _ => ?_)⟩⟩
        refine ⟨_, rfl, rfl, _, rfl, ite2 (fun _ => ⟨_, rfl, ret⟩) (fun _ => ?_)⟩
        refine ⟨_, rfl, wa, _, _, _, rfl, rfl, hW8, atI_nat (j := 0) rfl, rfl, _, rfl, ?_⟩
        refine ⟨_, rfl, _, rfl, wa, _, _, _, rfl, rfl, hW8, atI_nat (j := 2) rfl, _, rfl, _, _, rfl, rfl, ?_⟩
        refine ⟨_, rfl, _, rfl, _, rfl, slHi 2 hW8 (by show 2 < 5; decide) rfl fun q1 G1 t1' c1 => ?_⟩
        refine ⟨_, rfl, _, _, rfl, rfl, _, rfl, ite2 (fun e => ?ga1) (fun e => ?gb1)⟩
        case' ga1 =>
          have e' := of_decide_eq_true e
          refine ⟨_, rfl, ?_⟩
        case' gb1 =>
          have e' := of_decide_eq_false (Bool.not_eq_true _ ▸ e)
          refine ⟨_, rfl, _, _, rfl, rfl, ?_⟩
        all_goals
          refine ⟨by show 1 ≤ sizeLine; decide, fun q2 m2 => ?_⟩
          refine catT (sqT_same (same_upd m2) c1) (SqT.of upd_same) (List.cons_ne_nil _ _) (List.cons_ne_nil _ _) (by show 2 + 1 ≤ 1000; decide) fun q3 G3 t3 c3 => ?_
          have t13 := t1'.trans ((same_upd m2).trans t3)
          refine ⟨_, rfl, _, rfl, _, _, rfl, rfl, _, rfl, slLoN 3 (sqT_same t13 hW8) (by decide) (by show 3 ≤ 5; decide) rfl fun q4 G4 t4 c4 => ?_⟩
          refine catT (sqT_same t4 c3) c4 (List.cons_ne_nil _ _) (List.cons_ne_nil _ _) (by show 3 + 2 ≤ 1000; decide) fun q5 G5 t5 c5 => ?_
          exact q _ (.udp _ to') _ (u18.trans (t13.trans (t4.trans t5))) ⟨by have := hl.1; omega, by have := hl.2.1; omega, hl.2.2.1, hl.2.2.2⟩ c5
      | _ => exact hl.elim
    | echo c i no dt =>
      cases e' with
      | echo c' i' =>
        obtain ⟨d, rfl, hD⟩ := hR
        obtain ⟨_, _, no0, no1, hO, hdl⟩ := hb
        obtain ⟨hcc, i0, i1⟩ := id hl
        have hcc : c' = c := hcc
        subst hcc
        obtain ⟨Y, eY, pY, lY⟩ := echoS_eq (a := c') i0 i1 no0 no1 hO hdl
        have rY := lsum_rng pY
        rw [← lY] at rY
        have eB : hd ++ B = hd ++ [kb c', 0] ++ o2 (lsum (echoO c' i' no dt)) ++ (o2 i' ++ o2 no ++ dt) := by
          rw [show B = [kb c', 0] ++ o2 (lsum (echoO c' i' no dt)) ++ (o2 i' ++ o2 no ++ dt) from hbo]
          simp only [List.append_assoc]
        have a22 := at_two (hd ++ [kb c', 0]) (o2 i' ++ o2 no ++ dt) (lsum (echoO c' i' no dt)) 22 (by rw [List.length_append, hhd]; rfl)
        rw [← eB] at a22
        generalize lsum (echoO c' i' no dt) = n at rY a22
        have stp : ∀ (D : Ends), True := fun _ => trivial
        cases c' with
        | true =>
          have hW8 : SqT K H8 wa [.str sEcho, .int S, .int i', .int T', .int 0] := hW8
          refine ⟨_, rfl, wa, _, _, _, rfl, rfl, hW8, atI_nat (j := 0) rfl, rfl, _, rfl, ?_⟩
          refine ⟨_, rfl, o, _, _, _, rfl, rfl, SqL.of g8, atI_nat (j := 22) a22.1, _, _, rfl, rfl, .inr ⟨by decide, by decide⟩, _, rfl, o, _, _, _, rfl, rfl, SqL.of g8, atI_nat (j := 23) a22.2, _, _, rfl, rfl, ?_⟩
          refine ⟨_, rfl, wa, _, _, _, rfl, rfl, hW8, atI_nat (j := 0) rfl, rfl, _, rfl, ?_⟩
          refine ⟨_, rfl, wa, _, _, _, rfl, rfl, hW8, atI_nat (j := 0) rfl, rfl, _, rfl, ?_⟩
          refine ⟨_, rfl, wa, _, _, _, rfl, rfl, hW8, atI_nat (j := 4) rfl, rfl, _, rfl, ?_⟩
          refine ⟨_, rfl, _, rfl, wa, _, _, _, rfl, rfl, hW8, atI_nat (j := 2) rfl, _, rfl, _, _, rfl, rfl, ?_⟩
          refine ⟨_, rfl, _, rfl, _, rfl, slHi 2 hW8 (by show 2 < 5; decide) rfl fun q1 G1 t1' c1 => ?_⟩
          refine ⟨_, rfl, _, _, rfl, rfl, _, rfl, ite2 (fun e => ?ga2) (fun e => ?gb2)⟩
          case' ga2 =>
            have e' := of_decide_eq_true e
            refine ⟨_, rfl, ?_⟩
          case' gb2 =>
            have e' := of_decide_eq_false (Bool.not_eq_true _ ▸ e)
            refine ⟨_, rfl, _, _, rfl, rfl, ?_⟩
          all_goals
            refine ⟨by show 1 ≤ sizeLine; decide, fun q2 m2 => ?_⟩
            refine catT (sqT_same (same_upd m2) c1) (SqT.of upd_same) (List.cons_ne_nil _ _) (List.cons_ne_nil _ _) (by show 2 + 1 ≤ 1000; decide) fun q3 G3 t3 c3 => ?_
            have t13 := t1'.trans ((same_upd m2).trans t3)
            refine ⟨_, rfl, _, rfl, _, _, rfl, rfl, _, rfl, slLoN 3 (sqT_same t13 hW8) (by decide) (by show 3 ≤ 5; decide) rfl fun q4 G4 t4 c4 => ?_⟩
            refine catT (sqT_same t4 c3) c4 (List.cons_ne_nil _ _) (List.cons_ne_nil _ _) (by show 3 + 2 ≤ 1000; decide) fun q5 G5 t5 c5 => ?_
            exact q _ (.echo true _) _ (u18.trans (t13.trans (t4.trans t5))) ⟨rfl, by omega, by omega⟩ c5
        | false =>
          have hW8 : SqT K H8 wa [.str sEcho, .int S, .int 0, .int T', .int i'] := hW8
          refine ⟨_, rfl, wa, _, _, _, rfl, rfl, hW8, atI_nat (j := 0) rfl, rfl, _, rfl, ?_⟩
          refine ⟨_, rfl, o, _, _, _, rfl, rfl, SqL.of g8, atI_nat (j := 22) a22.1, _, _, rfl, rfl, .inr ⟨by decide, by decide⟩, _, rfl, o, _, _, _, rfl, rfl, SqL.of g8, atI_nat (j := 23) a22.2, _, _, rfl, rfl, ?_⟩
          refine ⟨_, rfl, wa, _, _, _, rfl, rfl, hW8, atI_nat (j := 0) rfl, rfl, _, rfl, ?_⟩
          refine ⟨_, rfl, wa, _, _, _, rfl, rfl, hW8, atI_nat (j := 0) rfl, rfl, _, rfl, ?_⟩
          refine ⟨_, rfl, wa, _, _, _, rfl, rfl, hW8, atI_nat (j := 4) rfl, rfl, _, rfl, ite2 (fun e => absurd (V.int.inj (of_decide_eq_true e)) (by omega)) (fun _ => ?_)⟩
          refine ⟨_, rfl, _, rfl, wa, _, _, _, rfl, rfl, hW8, atI_nat (j := 4) rfl, _, rfl, _, _, rfl, rfl, ?_⟩
          refine ⟨_, rfl, _, rfl, _, rfl, slHi 4 hW8 (by show 4 < 5; decide) rfl fun q1 G1 t1' c1 => ?_⟩
          refine ⟨_, rfl, _, _, rfl, rfl, _, rfl, ite2 (fun e => ?ga3) (fun e => ?gb3)⟩
          case' ga3 =>
            have e' := of_decide_eq_true e
            refine ⟨_, rfl, ?_⟩
          case' gb3 =>
            have e' := of_decide_eq_false (Bool.not_eq_true _ ▸ e)
            refine ⟨_, rfl, _, _, rfl, rfl, ?_⟩
          all_goals
            refine ⟨by show 1 ≤ sizeLine; decide, fun q2 m2 => ?_⟩
            refine catT (sqT_same (same_upd m2) c1) (SqT.of upd_same) (List.cons_ne_nil _ _) (List.cons_ne_nil _ _) (by show 4 + 1 ≤ 1000; decide) fun q3 G3 t3 c3 => ?_
            have t13 := t1'.trans ((same_upd m2).trans t3)
            refine ⟨_, rfl, _, rfl, _, _, rfl, rfl, _, rfl, slLoN 5 (sqT_same t13 hW8) (by decide) (by show 5 ≤ 5; decide) rfl fun q4 G4 t4 c4 => ?_⟩
            refine catT0 (sqT_same t4 c3) c4 (List.cons_ne_nil _ _) (by show 5 ≤ 1000; decide) ?_
            exact q _ (.echo false _) _ (u18.trans (t13.trans t4)) ⟨rfl, by omega, by omega⟩ (sqT_same t4 c3)
      | _ => exact hl.elim
end

def spAnySum (K : PySem.W.Frag) : Sp := fun vs H Q _ => ∃ (p c a wa : Addr) (s t hp nm sv wh : Int) (b : Bd) (r : List V) (S T : Int) (e' : En), vs = [.ref p, .ref a, .ref wa] ∧ LS H p c ∧ PkAt K H a s t [.int hp, .int nm, .int sv, .int wh] b.en r ∧ BR K H b r ∧ BB b ∧
  SqT K H wa (wyV (wayE S T e')) ∧ likeE b.en e' ∧ ∀ H', LS H' p c → Kp p c H H' → Q (.bl true) H'
theorem wyE_udp (S T f t : Int) : wyV (wayE S T (.udp f t)) = [.str sUdp, .int S, .int f, .int T, .int t] := rfl
section
variable {P : Program} {w : World} {K : PySem.W.Frag} {mg : Str → Option Value} {base : Heap}
theorem ok_law_any_sum_right (T : Tx K mg) : FnOk P w K mg base CX0 7 T.ad_law_any_sum_right T.fd_law_any_sum_right ["state", "packet", "way"] (spAnySum K) := by
  refine T.d_law_any_sum_right.F.ok x_law_any_sum_right (fun vs H Q E h => ?_) (fun cdv A outer s H vs Q E hr h => ?_)
  · obtain ⟨p, c, a, wa, s, t, hp, nm, sv, wh, b, r, S, T', e', rfl, _⟩ := h
    rfl
  · obtain ⟨p, c, a, wa, s1, t1, hp, nm, sv, wh, b, r, S, T', e', rfl, hL, hA, hR, hb, hW, hl, q⟩ := h
    have nd := x_law_any_sum_right.nd
    refine ⟨_, (pss_cons (ps_set (i := 3) nd rfl (Or.inl rfl) (pe_call (ok_law_stub_of T) hr (by rfl) T.d_law_stub_of.g T.d_law_stub_of.F.kp T.d_law_stub_of.b .nil pass0 (pa_cons (pv 1) pa_nil)))
        (pss_cons (ps_set (i := 4) nd rfl (Or.inl rfl) (pe_ix ix_tup (pv 3) pe_int (fun _ _ => rfl)))
        (pss_cons (ps_if (pt_cmpR op_eq (pe_ix ix_tup (pv 4) pe_int (fun _ _ => rfl)) pe_str (nomark _)) (pss_one (ps_ret pe_bl)) pss_nil)
        (pss_cons (ps_set (i := 5) nd rfl (Or.inl rfl) (pe_call (ok_law_pick T) (hr.mono (by decide)) (by rfl) T.d_law_pick.g T.d_law_pick.F.kp T.d_law_pick.b .nil pass0 (pa_cons (pv 0) (pa_cons (pe_lst (pa_cons pe_int (pa_cons pe_int (pa_cons pe_int (pa_cons pe_int (pa_cons (pe_call (ok_law_take T) (hr.mono (by decide)) (by rfl) T.d_law_take.g T.d_law_take.F.kp T.d_law_take.b .nil pass0 (pa_cons (pv 0) (pa_cons pe_int pa_nil))) pa_nil)))))) pa_nil))))
        (pss_cons (ps_set (i := 3) nd rfl (Or.inl rfl) (pe_op op_catT (pe_slice sl_tup (pv 3) po_none (po_some pe_int)) (pe_tup (pa_cons (pe_op op_catT (pe_slice sl_tup (pv 4) po_none (po_some (pe_un un_neg pe_int))) (pe_tup (pa_cons (pv 5) pa_nil))) pa_nil))))
        (pss_cons (ps_set (i := 6) nd rfl (Or.inl rfl) (pe_op op_catT (pe_tup (pa_cons pe_str (pa_cons (pe_ix ix_tup (pv 2) pe_int (fun _ _ => rfl)) (pa_cons (pe_ix ix_tup (pv 2) pe_int (fun _ _ => rfl)) pa_nil)))) (pe_slice sl_tup (pv 3) (po_some pe_int) (po_some pe_int))))
        (pss_cons (ps_set (i := 7) nd rfl (Or.inl rfl) (pe_call (ok_moved_stub T) (hr.mono (by decide)) (by rfl) T.d_moved_stub.g T.d_moved_stub.F.kp T.d_moved_stub.b .nil pass0 (pa_cons (pv 3) (pa_cons (pv 2) pa_nil))))
        (pss_cons (ps_if (PW.pt (pw_or (pt_not (pt_val (pe_callB call_isi (by rfl) T.b_isinstance (by decide +kernel) (pa_cons (pv 7) (pa_cons (pe_bltn (v := .ty "tuple") (by rfl) T.b_tuple (by decide +kernel) rfl) pa_nil))))) (pw_or (pt_cmpR op_ne (pe_callB call_len_seq (by rfl) T.b_len (by decide +kernel) (pa_cons (pv 7) pa_nil)) pe_int (nomark _)) (pw_or1 (pt_not (pt_val (pe_call (ok_same T 4) (hr.mono (by decide)) (by rfl) T.d_law_same.g T.d_law_same.F.kp T.d_law_same.b .nil pass0 (pa_cons (pe_slice sl_tup (pv 7) po_none (po_some pe_int)) (pa_cons (pv 6) pa_nil))))))))) (pss_one (ps_ret pe_bl)) pss_nil)
        (pss_cons (ps_if (PW.pt (pw_or (pt_not (pt_val (pe_callB call_isi (by rfl) T.b_isinstance (by decide +kernel) (pa_cons (pe_ix ix_tup (pv 7) pe_int (fun _ _ => rfl)) (pa_cons (pe_bltn (v := .ty "tuple") (by rfl) T.b_tuple (by decide +kernel) rfl) pa_nil))))) (pw_or1 (pt_not (pt_val (pe_call (ok_same T 4) (hr.mono (by decide)) (by rfl) T.d_law_same.g T.d_law_same.F.kp T.d_law_same.b .nil pass0 (pa_cons (pe_slice sl_tup (pe_ix ix_tup (pv 7) pe_int (fun _ _ => rfl)) po_none (po_some (pe_un un_neg pe_int))) (pa_cons (pe_slice sl_tup (pe_call (ok_law_moved_body T) (hr.mono (by decide)) (by rfl) T.d_law_moved_body.g T.d_law_moved_body.F.kp T.d_law_moved_body.b .nil pass0 (pa_cons (pv 4) (pa_cons (pv 2) pa_nil))) po_none (po_some (pe_un un_neg pe_int))) pa_nil)))))))) (pss_one (ps_ret pe_bl)) pss_nil)
        (pss_cons (ps_set (i := 8) nd rfl (Or.inl rfl) (pe_ix ix_seq (pe_ix ix_tup (pv 7) pe_int (fun _ _ => rfl)) (pe_un un_neg pe_int) (fun _ _ => rfl)))
        (pss_cons (ps_if (PW.pt (pw_or (pt_val (pe_callB call_isi (by rfl) T.b_isinstance (by decide +kernel) (pa_cons (pv 8) (pa_cons (pe_bltn (v := .ty "bool") (by rfl) T.b_bool (by decide +kernel) rfl) pa_nil)))) (pw_or (pt_not (pt_val (pe_callB call_isi (by rfl) T.b_isinstance (by decide +kernel) (pa_cons (pv 8) (pa_cons (pe_bltn (v := .ty "int") (by rfl) T.b_int (by decide +kernel) rfl) pa_nil))))) (pw_or (pt_cmpR op_lt (pv 8) pe_int (nomark _)) (pw_or1 (pt_cmpR op_gt (pv 8) pe_int (nomark _))))))) (pss_one (ps_ret pe_bl)) pss_nil)
        (pss_cons (ps_par (i := 9) (j := 10) (by rfl) nd rfl rfl (by decide) rfl rfl (pa_cons (pe_lst (pa_cons (pe_ix ix_tup (pv 4) pe_int (fun _ _ => rfl)) pa_nil)) (pa_cons (pe_lst (pa_cons (pe_ix ix_seq (pe_ix ix_tup (pv 7) pe_int (fun _ _ => rfl)) pe_int (fun _ _ => rfl)) pa_nil)) pa_nil)) (by rfl))
        (pss_cons (ps_if (pt_cmpR op_eq (pe_ix ix_tup (pv 4) pe_int (fun _ _ => rfl)) pe_str (nomark _)) (pss_cons (ps_if (pt_cmpR op_eq (pv 5) pe_int (nomark _)) (pss_one (ps_ret (pe_cmpR op_eq (pv 8) pe_int (nomark _)))) pss_nil)
        (pss_cons (ps_if (pt_cmpR op_eq (pv 8) pe_int (nomark _)) (pss_one (ps_ret pe_bl)) pss_nil)
        (pss_cons (ps_set (i := 9) nd rfl (Or.inl rfl) (pe_lst (pa_cons (pe_op op_fdiv (pe_ix ix_tup (pv 1) pe_int (fun _ _ => rfl)) pe_int) (pa_cons (pe_op op_mod (pe_callTy call_int1 (by rfl) T.b_int (by decide +kernel) (pa_cons (pe_ix ix_tup (pv 1) pe_int (fun _ _ => rfl)) pa_nil)) pe_int) (pa_cons (pe_op op_fdiv (pe_ix ix_tup (pv 1) pe_int (fun _ _ => rfl)) pe_int) (pa_cons (pe_op op_mod (pe_callTy call_int1 (by rfl) T.b_int (by decide +kernel) (pa_cons (pe_ix ix_tup (pv 1) pe_int (fun _ _ => rfl)) pa_nil)) pe_int) (pa_cons (pe_ix ix_tup (pv 4) pe_int (fun _ _ => rfl)) (pa_cons (pe_ix ix_tup (pv 4) pe_int (fun _ _ => rfl)) pa_nil))))))))
        (pss_one (ps_set (i := 10) nd rfl (Or.inl rfl) (pe_lst (pa_cons (pe_op op_fdiv (pe_ix ix_tup (pv 2) pe_int (fun _ _ => rfl)) pe_int) (pa_cons (pe_op op_mod (pe_callTy call_int1 (by rfl) T.b_int (by decide +kernel) (pa_cons (pe_ix ix_tup (pv 2) pe_int (fun _ _ => rfl)) pa_nil)) pe_int) (pa_cons (pe_op op_fdiv (pe_ix ix_tup (pv 2) pe_int (fun _ _ => rfl)) pe_int) (pa_cons (pe_op op_mod (pe_callTy call_int1 (by rfl) T.b_int (by decide +kernel) (pa_cons (pe_ix ix_tup (pv 2) pe_int (fun _ _ => rfl)) pa_nil)) pe_int) (pa_cons (pe_ix ix_tup (pv 2) pe_int (fun _ _ => rfl)) (pa_cons (pe_ix ix_tup (pv 2) pe_int (fun _ _ => rfl)) pa_nil)))))))))))) (pss_one (ps_if (pt_cmpR op_eq (pv 8) pe_int (nomark _)) (pss_one (ps_ret pe_bl)) pss_nil)))
        (pss_one (ps_ret (pe_cmpR op_eq (pe_op op_mod (pe_callTy call_int1 (by rfl) T.b_int (by decide +kernel) (pa_cons (pe_op op_add (pe_op op_sub (pe_op op_sub (pv 8) (pv 5)) (pe_callB (cr_sum rfl) (by rfl) T.b_sum (by decide +kernel) (pa_cons (pv 9) pa_nil))) (pe_callB (cr_sum rfl) (by rfl) T.b_sum (by decide +kernel) (pa_cons (pv 10) pa_nil))) pa_nil)) pe_int) pe_int (nomark _))))))))))))))))), ?_⟩
    have hW0 := hW
    rw [wyV_E] at hW0
    refine ⟨_, rfl, a, s1, t1, hp, nm, sv, wh, b, r, rfl, hA, hR, hb, fun st H1 u1 gst => ?_⟩
    obtain ⟨pa, x1, x2, x3, x4, x5, hx, hS, hP⟩ := gst
    injection hx with e1 hx
    injection hx with e2 hx
    injection hx with e3 hx
    injection hx with e4 hx
    injection hx with e5 hx
    subst e1 e2 e3 e4 e5
    generalize (20 + (blen b : Int)) = L at hS
    have hL1 := hL.same u1
    refine ⟨_, rfl, st, _, _, _, rfl, rfl, hS, atI_nat (j := 8) rfl, ?_⟩
    cases b with
    | tcp f to sq ak fl wi ur op dt =>
      refine ⟨_, rfl, pa, _, _, _, rfl, rfl, hP, atI_nat (j := 0) rfl, rfl, _, rfl, ?_⟩
      exact q H1 hL1 (kp_same u1)
    | udp f to sm dt =>
      cases e' with
      | udp f' to0 =>
        have hl4 := hl
        have hP : SqT K H1 pa [.str sUdp, .int f, .int to, .int (udpS s1 t1 f to dt * sm)] := hP
        refine ⟨_, rfl, pa, _, _, _, rfl, rfl, hP, atI_nat (j := 0) rfl, rfl, _, rfl, ?_⟩
        refine ⟨_, rfl, _, rfl, p, c, 65536, rfl, hL1, by decide, fun z H2 _ _ hL2 k2 => ⟨by show 5 ≤ sizeLine; decide, fun l hl' => ?_⟩⟩
        refine ⟨p, c, l, _, rfl, hL2.new hl', hL2.ne1 hl', hL2.ne2 hl', upd_same, List.cons_ne_nil _ _, (by show 5 < 1073741824; decide), fun v H3 hv hL3 k3 => ?_⟩
        obtain ⟨n, rfl⟩ : ∃ n, v = V.int n := by
          simp only [List.mem_cons, List.not_mem_nil, or_false] at hv
          rcases hv with rfl | rfl | rfl | rfl | rfl
          all_goals exact ⟨_, rfl⟩
        have k13 := k2.trans ((kp_same (same_upd hl')).trans k3)
        have kH3 := (kp_same (p := p) (c := c) u1).trans k13
        have hS3 := sqT_kp hL1 k13 hS
        have hP3 := sqT_kp hL1 k13 hP
        have hW3 := sqT_kp hL kH3 hW
        have hV3 := sqT_kp hL kH3 hW0
        have hA3 := hA.kp hL kH3
        refine ⟨_, rfl, 8, rfl, slHi 8 hS3 (by show 8 < 9; decide) rfl fun q1 H4 v4 c4 => ?_⟩
        refine ⟨_, rfl, _, rfl, -1, rfl, slInit (sqT_same v4 hP3) (by show 0 < 4; decide) fun q2 H5 v5 c5 => ?_⟩
        refine ⟨_, rfl, by show 1 ≤ sizeLine; decide, fun q3 m3 => ?_⟩
        have c5' : SqT K H5 q2 [.str sUdp, .int f, .int to] := c5
        refine catT (ys := [.int n]) (sqT_same (same_upd m3) c5') (SqT.of upd_same) (List.cons_ne_nil _ _) (List.cons_ne_nil _ _) (by show 4 - 1 + 1 ≤ 1000; decide) fun q4 H6 v6 c6 => ?_
        refine ⟨by show 1 ≤ sizeLine; decide, fun q5 m5 => ?_⟩
        have v56 := v5.trans ((same_upd m3).trans v6)
        have c4' : SqT K H4 q1 [.str sSt, .int s1, .int t1, .int hp, .int nm, .int sv, .int wh, .int L] := c4
        refine catT (ys := [.ref q4]) (sqT_same (same_upd m5) (sqT_same v56 c4')) (SqT.of upd_same) (List.cons_ne_nil _ _) (List.cons_ne_nil _ _) (by show 8 + 1 ≤ 1000; decide) fun q6 H7 v7 c7 => ?_
        have v57 := (same_upd m5).trans v7
        have v37 := v4.trans (v56.trans v57)
        have c6' := sqT_same v57 c6
        have hV7 := sqT_same v37 hV3
        have hA7 : StAt K H7 q6 s1 t1 [.int hp, .int nm, .int sv, .int wh, .int L] (.udp f to) [.int n] := ⟨q4, _, _, _, _, _, rfl, c7, c6'⟩
        refine ⟨_, rfl, wa, _, _, _, rfl, rfl, hV7, atI_nat (j := 1) rfl, _, rfl, wa, _, _, _, rfl, rfl, hV7, atI_nat (j := 3) rfl, by show 3 ≤ sizeLine; decide, fun q7 m7 => ?_⟩
        refine ⟨_, rfl, 3, rfl, 8, rfl, slMid 3 8 (sqT_same (same_upd m7) c7) (by decide) (by decide) (by show 8 ≤ 9; decide) rfl rfl fun q8 H8 v8 c8 => ?_⟩
        refine catT (xs := [.str sSt, .int S, .int T']) (SqT.of (v8 _ _ upd_same)) c8 (List.cons_ne_nil _ _) (List.cons_ne_nil _ _) (by show 3 + 5 ≤ 1000; decide) fun du H9 v9 c9 => ?_
        have v79 := (same_upd m7).trans (v8.trans v9)
        refine ⟨_, rfl, _, rfl, q6, wa, s1, t1, _, _, [.int (mvU ⟨sUdp, s1, f, t1, to⟩ (wayE S T' (.udp f' to0)) n)], .udp f to, wayE S T' (.udp f' to0), rfl, hA7.same v79, ⟨n, rfl, rfl⟩, sqT_same (v37.trans v79) hW3, fun to' Ha va hTo => ?_⟩
        obtain ⟨pb, y1, y2, y3, y4, y5, hy, hTS, hTP⟩ := hTo
        injection hy with f1 hy
        injection hy with f2 hy
        injection hy with f3 hy
        injection hy with f4 hy
        injection hy with f5 hy
        subst f1 f2 f3 f4 f5
        rw [wayE_s, wayE_t] at hTS
        rw [show nameE (wayE S T' (.udp f' to0)) (.udp f to) = .udp f' to0 from nameE_like hl] at hTP
        refine ⟨_, rfl, _, _, _, _, _, rfl, .ty _, tyx_T hTS, k_tt, _, rfl, ?_⟩
        refine ⟨_, rfl, to', _, rfl, .inr hTS, rfl, _, rfl, iteNS rfl ?_⟩
        refine ⟨_, rfl, 8, rfl, slHi 8 hTS (by show 8 < 9; decide) rfl fun r1 Hb vb cb => ?_⟩
        refine ⟨_, rfl, _, _, rfl, Sm.tupA (xs := [.str sSt, .int S, .int T', .int hp, .int nm, .int sv, .int wh, .int L]) cb (sqT_same (va.trans vb) c9) (by simp only [List.all_cons, List.all_nil, flt_st, flt_int, Bool.and_true, Bool.and_self]) (by show 8 ≤ 100000; decide), fun Hc vc => ⟨_, rfl, ?_⟩⟩
        have hTS2 := sqT_same (vb.trans vc) hTS
        have hTP2 := sqT_same (vb.trans vc) hTP
        refine ⟨_, rfl, to', _, _, _, rfl, rfl, hTS2, atI_nat (j := 8) rfl, _, _, _, _, _, rfl, .ty _, tyx_T hTP2, k_tt, _, rfl, ?_⟩
        refine ⟨_, rfl, to', _, _, _, rfl, rfl, hTS2, atI_nat (j := 8) rfl, _, rfl, -1, rfl, slInit hTP2 (by show 0 < 4; decide) fun r2 Hd vd cd => ?_⟩
        have H3d := v37.trans (v79.trans (va.trans (vb.trans (vc.trans vd))))
        refine ⟨_, rfl, _, rfl, pa, wa, .udp f to, .udp f' to0, [.int (udpS s1 t1 f to dt * sm)], S, T', rfl, sqT_same H3d hP3, List.cons_ne_nil _ _, (by show 4 - 3 ≤ 100; decide), sqT_same H3d hW3, hl, fun r3 He ve ce => ?_⟩
        refine ⟨_, rfl, -1, rfl, slInit ce (by show 0 < 4; decide) fun r4 Hf vf cf => ?_⟩
        refine ⟨_, _, rfl, Sm.tupA (xs := [.str sUdp, .int f', .int to0]) (sqT_same (ve.trans vf) cd) cf (by simp only [List.all_cons, List.all_nil, flt_udp, flt_int, Bool.and_true, Bool.and_self]) (by show 4 - 1 ≤ 100000; decide), fun Hg vg => ⟨_, rfl, ?_⟩⟩
        have vcg := vd.trans (ve.trans (vf.trans vg))
        have hTS3 := sqT_same vcg hTS2
        have hTP3 := sqT_same vcg hTP2
        refine ⟨_, rfl, to', _, _, _, rfl, rfl, hTS3, atI_nat (j := 8) rfl, _, rfl, ix_sq (i := -1) (.inr hTP3) (v := .int (mvU ⟨sUdp, s1, f, t1, to⟩ (wayE S T' (.udp f' to0)) n)) rfl ?_⟩
        have hF : 0 ≤ (mvU ⟨sUdp, s1, f, t1, to⟩ (wayE S T' (.udp f' to0)) n) ∧ (mvU ⟨sUdp, s1, f, t1, to⟩ (wayE S T' (.udp f' to0)) n) ≤ 65535 := by
          unfold mvU
          have m1 := mv_any n (wyP (wayE S T' (.udp f' to0))).sum (wyP ⟨sUdp, s1, f, t1, to⟩).sum
          split
          · omega
          · split <;> omega
        generalize hFo : (mvU ⟨sUdp, s1, f, t1, to⟩ (wayE S T' (.udp f' to0)) n) = F at hF hTS3 hTP3 ⊢
        refine ⟨_, rfl, _, _, _, _, _, rfl, .ty _, .base (.int _), k_ib, _, rfl, ?_⟩
        refine ⟨_, rfl, _, _, _, _, _, rfl, .ty _, .base (.int _), k_ii, _, rfl, ?_⟩
        refine ⟨_, rfl, _, _, rfl, rfl, _, rfl, ite2 (fun e => absurd (of_decide_eq_true e) (by omega)) (fun _ => ?_)⟩
        refine ⟨_, rfl, _, _, rfl, rfl, _, rfl, ite2 (fun e => absurd (of_decide_eq_true e) (by omega)) (fun _ => ?_)⟩
        have H3g := H3d.trans (ve.trans (vf.trans vg))
        have hPg := sqT_same H3g hP3
        have hWg := sqT_same H3g hV3
        obtain ⟨ba, z1, z2, z3, z4, _, hAS, _⟩ := hA3.same H3g
        have fin : ∀ Hx, Same Hg Hx → Q (.bl true) Hx := fun Hx sx => q Hx (hL3.same (H3g.trans sx)) (kH3.trans (kp_same (H3g.trans sx)))
        refine ⟨_, rfl, pa, _, _, _, rfl, rfl, hPg, atI_nat (j := 2) rfl, by show 1 ≤ sizeLine; decide, fun l1 n1 => ?_⟩
        have w1 := same_upd (o := .lst [.int to]) n1
        refine ⟨_, rfl, to', _, _, _, rfl, rfl, (sqT_same w1 hTS3), atI_nat (j := 8) rfl, ix_sq (.inr (sqT_same w1 hTP3)) (atI_nat (j := 2) rfl) ⟨by show 1 ≤ sizeLine; decide, fun l2 n2 => ⟨_, _, rfl, ?_⟩⟩⟩
        have w2 := same_upd (o := .lst [.int to0]) n2
        have w12 := w1.trans w2
        refine ⟨_, rfl, pa, _, _, _, rfl, rfl, (sqT_same w12 hPg), atI_nat (j := 0) rfl, rfl, _, rfl, ?_⟩
        have hW2 : SqT K (upd (upd Hg l1 (.lst [.int to])) l2 (.lst [.int to0])) wa [.str sUdp, .int S, .int f', .int T', .int to0] := sqT_same w12 hWg
        have hA2 := sqT_same w12 hAS
        have hP2 := sqT_same w12 hPg
        refine ⟨_, rfl, rfl, _, rfl, ite2 (fun e => ?_) (fun e => ?_)⟩
        · have z : n = 0 := V.int.inj (of_decide_eq_true e)
          have zF : F = 0 := by rw [← hFo, z]; rfl
          subst zF
          exact ⟨_, rfl, rfl, fin _ w12⟩
        have nz : ¬ n = 0 := fun z => e (decide_eq_true (congrArg V.int z))
        have hM : F ≠ 0 ∧ (F - n - (wyP ⟨sUdp, s1, f, t1, to⟩).sum + (wyP ⟨sUdp, S, f', T', to0⟩).sum) % 65535 = 0 := by
          rw [← hFo]
          have m1 := mv_any n (wyP ⟨sUdp, S, f', T', to0⟩).sum (wyP ⟨sUdp, s1, f, t1, to⟩).sum
          show mvU ⟨sUdp, s1, f, t1, to⟩ ⟨sUdp, S, f', T', to0⟩ n ≠ 0 ∧ (mvU ⟨sUdp, s1, f, t1, to⟩ ⟨sUdp, S, f', T', to0⟩ n - n - (wyP ⟨sUdp, s1, f, t1, to⟩).sum + (wyP ⟨sUdp, S, f', T', to0⟩).sum) % 65535 = 0
          unfold mvU
          rw [if_neg nz]
          generalize (wyP ⟨sUdp, s1, f, t1, to⟩).sum = X at m1 ⊢
          generalize (wyP ⟨sUdp, S, f', T', to0⟩).sum = Y at m1 ⊢
          split
          · omega
          · omega
        refine ⟨_, rfl, rfl, _, rfl, ite2 (fun e2 => absurd (V.int.inj (of_decide_eq_true e2)) hM.1) (fun _ => ?_)⟩
        refine ⟨_, rfl, a, _, _, _, rfl, rfl, hA2, atI_nat (j := 1) rfl, _, _, rfl, rfl, ⟨by decide, by decide⟩, _, rfl, a, _, _, _, rfl, rfl, hA2, atI_nat (j := 1) rfl, .inl ⟨_, rfl, _, _, rfl, rfl, (by show (0 : Int) < 65536; decide), ?_⟩⟩
        refine ⟨_, rfl, a, _, _, _, rfl, rfl, hA2, atI_nat (j := 2) rfl, _, _, rfl, rfl, ⟨by decide, by decide⟩, _, rfl, a, _, _, _, rfl, rfl, hA2, atI_nat (j := 2) rfl, .inl ⟨_, rfl, _, _, rfl, rfl, (by show (0 : Int) < 65536; decide), ?_⟩⟩
        refine ⟨_, rfl, pa, _, _, _, rfl, rfl, hP2, atI_nat (j := 1) rfl, _, rfl, pa, _, _, _, rfl, rfl, hP2, atI_nat (j := 2) rfl, by show 6 ≤ sizeLine; decide, fun l3 n3 => ?_⟩
        have w3 := same_upd (o := .lst ((wyP ⟨sUdp, s1, f, t1, to⟩).map V.int)) n3
        have hW3' := sqT_same w3 hW2
        refine ⟨_, rfl, wa, _, _, _, rfl, rfl, hW3', atI_nat (j := 1) rfl, _, _, rfl, rfl, ⟨by decide, by decide⟩, _, rfl, wa, _, _, _, rfl, rfl, hW3', atI_nat (j := 1) rfl, .inl ⟨_, rfl, _, _, rfl, rfl, (by show (0 : Int) < 65536; decide), ?_⟩⟩
        refine ⟨_, rfl, wa, _, _, _, rfl, rfl, hW3', atI_nat (j := 3) rfl, _, _, rfl, rfl, ⟨by decide, by decide⟩, _, rfl, wa, _, _, _, rfl, rfl, hW3', atI_nat (j := 3) rfl, .inl ⟨_, rfl, _, _, rfl, rfl, (by show (0 : Int) < 65536; decide), ?_⟩⟩
        refine ⟨_, rfl, wa, _, _, _, rfl, rfl, hW3', atI_nat (j := 2) rfl, _, rfl, wa, _, _, _, rfl, rfl, hW3', atI_nat (j := 4) rfl, by show 6 ≤ sizeLine; decide, fun l4 n4 => ?_⟩
        have w4 := same_upd (o := .lst ((wyP ⟨sUdp, S, f', T', to0⟩).map V.int)) n4
        refine ⟨_, rfl, _, rfl, _, _, rfl, rfl, _, rfl, l3, wyP ⟨sUdp, s1, f, t1, to⟩, rfl, SqL.of (w4 _ _ upd_same), _, _, rfl, rfl, _, rfl, l4, wyP ⟨sUdp, S, f', T', to0⟩, rfl, SqL.of upd_same, _, _, rfl, rfl, .inl ⟨_, rfl, _, _, rfl, rfl, (by show (0 : Int) < 65535; decide), rfl, ?_⟩⟩
        have eD : decide (V.int ((F - n - (wyP ⟨sUdp, s1, f, t1, to⟩).sum + (wyP ⟨sUdp, S, f', T', to0⟩).sum) % 65535) = V.int 0) = true := decide_eq_true (congrArg V.int hM.2)
        exact (congrArg (fun b => Q (V.bl b) _) eD).mpr (fin _ (w12.trans (w3.trans w4)))
      | _ => exact hl.elim
    | echo c' i no dt =>
      cases e' with
      | echo c0 i0 =>
        obtain ⟨hcc, j0, j1⟩ := id hl
        have hcc : c0 = c' := hcc
        subst hcc
        have eI : (if c0 = true then (wayE S T' (.echo c0 i0)).sp else (wayE S T' (.echo c0 i0)).tp) = i0 := by cases c0 <;> rfl
        have hP : SqT K H1 pa [.str sEcho, .str (aw c0), .int i, .int no, .int (lsum (echoO c0 i no dt))] := hP
        refine ⟨_, rfl, pa, _, _, _, rfl, rfl, hP, atI_nat (j := 0) rfl, rfl, _, rfl, ?_⟩
        refine ⟨_, rfl, _, rfl, p, c, 65536, rfl, hL1, by decide, fun z H2 _ _ hL2 k2 => ⟨by show 5 ≤ sizeLine; decide, fun l hl' => ?_⟩⟩
        refine ⟨p, c, l, _, rfl, hL2.new hl', hL2.ne1 hl', hL2.ne2 hl', upd_same, List.cons_ne_nil _ _, (by show 5 < 1073741824; decide), fun v H3 hv hL3 k3 => ?_⟩
        obtain ⟨n, rfl⟩ : ∃ n, v = V.int n := by
          simp only [List.mem_cons, List.not_mem_nil, or_false] at hv
          rcases hv with rfl | rfl | rfl | rfl | rfl
          all_goals exact ⟨_, rfl⟩
        have k13 := k2.trans ((kp_same (same_upd hl')).trans k3)
        have kH3 := (kp_same (p := p) (c := c) u1).trans k13
        have hS3 := sqT_kp hL1 k13 hS
        have hP3 := sqT_kp hL1 k13 hP
        have hW3 := sqT_kp hL kH3 hW
        have hV3 := sqT_kp hL kH3 hW0
        have hA3 := hA.kp hL kH3
        refine ⟨_, rfl, 8, rfl, slHi 8 hS3 (by show 8 < 9; decide) rfl fun q1 H4 v4 c4 => ?_⟩
        refine ⟨_, rfl, _, rfl, -1, rfl, slInit (sqT_same v4 hP3) (by show 0 < 5; decide) fun q2 H5 v5 c5 => ?_⟩
        refine ⟨_, rfl, by show 1 ≤ sizeLine; decide, fun q3 m3 => ?_⟩
        have c5' : SqT K H5 q2 [.str sEcho, .str (aw c0), .int i, .int no] := c5
        refine catT (ys := [.int n]) (sqT_same (same_upd m3) c5') (SqT.of upd_same) (List.cons_ne_nil _ _) (List.cons_ne_nil _ _) (by show 5 - 1 + 1 ≤ 1000; decide) fun q4 H6 v6 c6 => ?_
        refine ⟨by show 1 ≤ sizeLine; decide, fun q5 m5 => ?_⟩
        have v56 := v5.trans ((same_upd m3).trans v6)
        have c4' : SqT K H4 q1 [.str sSt, .int s1, .int t1, .int hp, .int nm, .int sv, .int wh, .int L] := c4
        refine catT (ys := [.ref q4]) (sqT_same (same_upd m5) (sqT_same v56 c4')) (SqT.of upd_same) (List.cons_ne_nil _ _) (List.cons_ne_nil _ _) (by show 8 + 1 ≤ 1000; decide) fun q6 H7 v7 c7 => ?_
        have v57 := (same_upd m5).trans v7
        have v37 := v4.trans (v56.trans v57)
        have c6' := sqT_same v57 c6
        have hV7 := sqT_same v37 hV3
        have hA7 : StAt K H7 q6 s1 t1 [.int hp, .int nm, .int sv, .int wh, .int L] (.echo c0 i) [.int no, .int n] := ⟨q4, _, _, _, _, _, rfl, c7, c6'⟩
        refine ⟨_, rfl, wa, _, _, _, rfl, rfl, hV7, atI_nat (j := 1) rfl, _, rfl, wa, _, _, _, rfl, rfl, hV7, atI_nat (j := 3) rfl, by show 3 ≤ sizeLine; decide, fun q7 m7 => ?_⟩
        refine ⟨_, rfl, 3, rfl, 8, rfl, slMid 3 8 (sqT_same (same_upd m7) c7) (by decide) (by decide) (by show 8 ≤ 9; decide) rfl rfl fun q8 H8 v8 c8 => ?_⟩
        refine catT (xs := [.str sSt, .int S, .int T']) (SqT.of (v8 _ _ upd_same)) c8 (List.cons_ne_nil _ _) (List.cons_ne_nil _ _) (by show 3 + 5 ≤ 1000; decide) fun du H9 v9 c9 => ?_
        have v79 := (same_upd m7).trans (v8.trans v9)
        refine ⟨_, rfl, _, rfl, q6, wa, s1, t1, _, _, [.int no, .int (mv n i i0)], .echo c0 i, wayE S T' (.echo c0 i0), rfl, hA7.same v79, ⟨.int no, n, rfl, by rw [eI]⟩, sqT_same (v37.trans v79) hW3, fun to' Ha va hTo => ?_⟩
        obtain ⟨pb, y1, y2, y3, y4, y5, hy, hTS, hTP⟩ := hTo
        injection hy with f1 hy
        injection hy with f2 hy
        injection hy with f3 hy
        injection hy with f4 hy
        injection hy with f5 hy
        subst f1 f2 f3 f4 f5
        rw [wayE_s, wayE_t] at hTS
        rw [show nameE (wayE S T' (.echo c0 i0)) (.echo c0 i) = .echo c0 i0 from nameE_like hl] at hTP
        refine ⟨_, rfl, _, _, _, _, _, rfl, .ty _, tyx_T hTS, k_tt, _, rfl, ?_⟩
        refine ⟨_, rfl, to', _, rfl, .inr hTS, rfl, _, rfl, iteNS rfl ?_⟩
        refine ⟨_, rfl, 8, rfl, slHi 8 hTS (by show 8 < 9; decide) rfl fun r1 Hb vb cb => ?_⟩
        refine ⟨_, rfl, _, _, rfl, Sm.tupA (xs := [.str sSt, .int S, .int T', .int hp, .int nm, .int sv, .int wh, .int L]) cb (sqT_same (va.trans vb) c9) (by simp only [List.all_cons, List.all_nil, flt_st, flt_int, Bool.and_true, Bool.and_self]) (by show 8 ≤ 100000; decide), fun Hc vc => ⟨_, rfl, ?_⟩⟩
        have hTS2 := sqT_same (vb.trans vc) hTS
        have hTP2 := sqT_same (vb.trans vc) hTP
        refine ⟨_, rfl, to', _, _, _, rfl, rfl, hTS2, atI_nat (j := 8) rfl, _, _, _, _, _, rfl, .ty _, tyx_T hTP2, k_tt, _, rfl, ?_⟩
        refine ⟨_, rfl, to', _, _, _, rfl, rfl, hTS2, atI_nat (j := 8) rfl, _, rfl, -1, rfl, slInit hTP2 (by show 0 < 5; decide) fun r2 Hd vd cd => ?_⟩
        have H3d := v37.trans (v79.trans (va.trans (vb.trans (vc.trans vd))))
        refine ⟨_, rfl, _, rfl, pa, wa, .echo c0 i, .echo c0 i0, [.int no, .int (lsum (echoO c0 i no dt))], S, T', rfl, sqT_same H3d hP3, List.cons_ne_nil _ _, (by show 5 - 3 ≤ 100; decide), sqT_same H3d hW3, hl, fun r3 He ve ce => ?_⟩
        refine ⟨_, rfl, -1, rfl, slInit ce (by show 0 < 5; decide) fun r4 Hf vf cf => ?_⟩
        refine ⟨_, _, rfl, Sm.tupA (xs := [.str sEcho, .str (aw c0), .int i0, .int no]) (sqT_same (ve.trans vf) cd) cf (by simp only [List.all_cons, List.all_nil, flt_echo, flt_aw, flt_int, Bool.and_true, Bool.and_self]) (by show 5 - 1 ≤ 100000; decide), fun Hg vg => ⟨_, rfl, ?_⟩⟩
        have vcg := vd.trans (ve.trans (vf.trans vg))
        have hTS3 := sqT_same vcg hTS2
        have hTP3 := sqT_same vcg hTP2
        refine ⟨_, rfl, to', _, _, _, rfl, rfl, hTS3, atI_nat (j := 8) rfl, _, rfl, ix_sq (i := -1) (.inr hTP3) (v := .int (mv n i i0)) rfl ?_⟩
        have hF : 0 ≤ (mv n i i0) ∧ (mv n i i0) ≤ 65535 := by
          have m1 := mv_any n i0 i
          omega
        generalize hFo : (mv n i i0) = F at hF hTS3 hTP3 ⊢
        refine ⟨_, rfl, _, _, _, _, _, rfl, .ty _, .base (.int _), k_ib, _, rfl, ?_⟩
        refine ⟨_, rfl, _, _, _, _, _, rfl, .ty _, .base (.int _), k_ii, _, rfl, ?_⟩
        refine ⟨_, rfl, _, _, rfl, rfl, _, rfl, ite2 (fun e => absurd (of_decide_eq_true e) (by omega)) (fun _ => ?_)⟩
        refine ⟨_, rfl, _, _, rfl, rfl, _, rfl, ite2 (fun e => absurd (of_decide_eq_true e) (by omega)) (fun _ => ?_)⟩
        have H3g := H3d.trans (ve.trans (vf.trans vg))
        have hPg := sqT_same H3g hP3
        have hWg := sqT_same H3g hV3
        obtain ⟨ba, z1, z2, z3, z4, _, hAS, _⟩ := hA3.same H3g
        have fin : ∀ Hx, Same Hg Hx → Q (.bl true) Hx := fun Hx sx => q Hx (hL3.same (H3g.trans sx)) (kH3.trans (kp_same (H3g.trans sx)))
        refine ⟨_, rfl, pa, _, _, _, rfl, rfl, hPg, atI_nat (j := 2) rfl, by show 1 ≤ sizeLine; decide, fun l1 n1 => ?_⟩
        have w1 := same_upd (o := .lst [.int i]) n1
        refine ⟨_, rfl, to', _, _, _, rfl, rfl, (sqT_same w1 hTS3), atI_nat (j := 8) rfl, ix_sq (.inr (sqT_same w1 hTP3)) (atI_nat (j := 2) rfl) ⟨by show 1 ≤ sizeLine; decide, fun l2 n2 => ⟨_, _, rfl, ?_⟩⟩⟩
        have w2 := same_upd (o := .lst [.int i0]) n2
        have w12 := w1.trans w2
        refine ⟨_, rfl, pa, _, _, _, rfl, rfl, (sqT_same w12 hPg), atI_nat (j := 0) rfl, rfl, _, rfl, ?_⟩
        have hM : F ≠ 65535 ∧ (F - n - ([i] : List Int).sum + ([i0] : List Int).sum) % 65535 = 0 := by
          rw [← hFo]
          have m1 := mv_any n i0 i
          simp only [List.sum_cons, List.sum_nil]
          omega
        refine ⟨_, rfl, rfl, _, rfl, ite2 (fun e2 => absurd (V.int.inj (of_decide_eq_true e2)) hM.1) (fun _ => ?_)⟩
        refine ⟨_, rfl, _, rfl, _, _, rfl, rfl, _, rfl, l1, [i], rfl, SqL.of (w2 _ _ upd_same), _, _, rfl, rfl, _, rfl, l2, [i0], rfl, SqL.of upd_same, _, _, rfl, rfl, .inl ⟨_, rfl, _, _, rfl, rfl, (by show (0 : Int) < 65535; decide), rfl, ?_⟩⟩
        have eD : decide (V.int ((F - n - ([i] : List Int).sum + ([i0] : List Int).sum) % 65535) = V.int 0) = true := decide_eq_true (congrArg V.int hM.2)
        exact (congrArg (fun b => Q (V.bl b) _) eD).mpr (fin _ w12)
      | _ => exact hl.elim
end

def All2 (R : V → V → Prop) : List V → List V → Prop
  | [], [] => True
  | x :: xs, y :: ys => R x y ∧ All2 R xs ys
  | _, _ => False
theorem All2.refl {R : V → V → Prop} : ∀ {xs : List V}, (∀ x ∈ xs, R x x) → All2 R xs xs
  | [], _ => trivial
  | x :: xs, h => ⟨h x List.mem_cons_self, All2.refl fun y hy => h y (List.mem_cons_of_mem _ hy)⟩
theorem All2.get {R : V → V → Prop} : ∀ {xs ys : List V}, All2 R xs ys → xs.length = ys.length ∧ ∀ (i : Nat) (u v : V), xs[i]? = some u → ys[i]? = some v → R u v
  | [], [], _ => ⟨rfl, fun i u v h => by simp at h⟩
  | x :: xs, y :: ys, ⟨h1, h2⟩ => by
    have ih := All2.get h2
    refine ⟨by rw [List.length_cons, List.length_cons, ih.1], fun i u v hu hv => ?_⟩
    cases i with
    | zero =>
      cases hu
      cases hv
      exact h1
    | succ i => exact ih.2 i u v hu hv
  | [], _ :: _, h => h.elim
  | _ :: _, [], h => h.elim
theorem Sm.t {K : PySem.W.Frag} {H : Hp} {n : Nat} {a b : Addr} {xs ys : List V} (ha : SqT K H a xs) (hb : SqT K H b ys) (h : All2 (Sm K H n) xs ys) (hl : xs.length ≤ 1000) : Sm K H (n + 1) (.ref a) (.ref b) :=
  .inr ⟨a, b, xs, ys, rfl, rfl, .inr ⟨ha, hb⟩, h.get.1, by omega, h.get.2⟩
theorem enV_sm {K : PySem.W.Frag} {H : Hp} {n : Nat} (e : En) : ∀ v ∈ enV e, Sm K H n v v := by
  intro v hv
  refine Sm.flat ?_
  cases e with
  | udp f t =>
    simp only [enV, List.mem_cons, List.not_mem_nil, or_false] at hv
    rcases hv with rfl | rfl | rfl
    · exact flt_udp
    · exact rfl
    · exact rfl
  | tcp f t =>
    simp only [enV, List.mem_cons, List.not_mem_nil, or_false] at hv
    rcases hv with rfl | rfl | rfl
    · exact flt_tcp
    · exact rfl
    · exact rfl
  | echo a i =>
    simp only [enV, List.mem_cons, List.not_mem_nil, or_false] at hv
    rcases hv with rfl | rfl | rfl
    · exact flt_echo
    · exact flt_aw a
    · exact rfl
theorem Sm.pk {K : PySem.W.Frag} {H : Hp} {a b : Addr} {s t x1 x2 x3 x4 : Int} {e : En} {r : List V} (h1 : PkAt K H a s t [.int x1, .int x2, .int x3, .int x4] e r) (h2 : PkAt K H b s t [.int x1, .int x2, .int x3, .int x4] e r) (hr : ∀ v ∈ r, Sm K H 2 v v) (hl : r.length ≤ 100) : Sm K H 4 (.ref a) (.ref b) := by
  obtain ⟨ba, y1, y2, y3, y4, e1, hS, hB⟩ := h1
  obtain ⟨bb, z1, z2, z3, z4, e2, hS', hB'⟩ := h2
  cases e1
  cases e2
  refine Sm.t (n := 3) hS hS' ⟨Sm.flat flt_pk, Sm.flat rfl, Sm.flat rfl, Sm.flat rfl, Sm.flat rfl, Sm.flat rfl, Sm.flat rfl, ?_, trivial⟩ (by show 8 ≤ 1000; decide)
  refine Sm.t (n := 2) hB hB' (All2.refl fun v hv => ?_) (by rw [List.length_append, enV_len]; omega)
  rcases List.mem_append.mp hv with hv | hv
  · exact enV_sm e v hv
  · exact hr v hv
theorem Sm.st {K : PySem.W.Frag} {H : Hp} {a b : Addr} {s t x1 x2 x3 x4 x5 : Int} {e : En} {r : List V} (h1 : StAt K H a s t [.int x1, .int x2, .int x3, .int x4, .int x5] e r) (h2 : StAt K H b s t [.int x1, .int x2, .int x3, .int x4, .int x5] e r) (hr : ∀ v ∈ r, Sm K H 2 v v) (hl : r.length ≤ 100) : Sm K H 4 (.ref a) (.ref b) := by
  obtain ⟨ba, y1, y2, y3, y4, y5, e1, hS, hB⟩ := h1
  obtain ⟨bb, z1, z2, z3, z4, z5, e2, hS', hB'⟩ := h2
  cases e1
  cases e2
  refine Sm.t (n := 3) hS hS' ⟨Sm.flat flt_st, Sm.flat rfl, Sm.flat rfl, Sm.flat rfl, Sm.flat rfl, Sm.flat rfl, Sm.flat rfl, Sm.flat rfl, ?_, trivial⟩ (by show 9 ≤ 1000; decide)
  refine Sm.t (n := 2) hB hB' (All2.refl fun v hv => ?_) (by rw [List.length_append, enV_len]; omega)
  rcases List.mem_append.mp hv with hv | hv
  · exact enV_sm e v hv
  · exact hr v hv
theorem ints_sm {K : PySem.W.Frag} {H : Hp} {d : Addr} {ns : List Int} (h : SqT K H d (ns.map V.int)) (hl : ns.length ≤ 1500) : Sm K H 2 (.ref d) (.ref d) :=
  Sm.tup (n := 1) h h (fun x hx => by obtain ⟨z, _, rfl⟩ := List.mem_map.mp hx; rfl) (by rw [List.length_map]; omega)
theorem BR.sm {K : PySem.W.Frag} {H : Hp} : ∀ {b : Bd} {r : List V}, BR K H b r → BB b → (∀ v ∈ r, Sm K H 2 v v) ∧ r.length ≤ 100 ∧ r ≠ []
  | .udp _ _ _ _, _, ⟨d, h1, h2⟩, ⟨_, _, _, _, _, _, _, hl⟩ => by
    subst h1
    refine ⟨fun v hv => ?_, by simp, List.cons_ne_nil _ _⟩
    simp only [List.mem_cons, List.not_mem_nil, or_false] at hv
    rcases hv with rfl | rfl
    · exact Sm.flat rfl
    · exact ints_sm h2 hl
  | .tcp _ _ _ _ _ _ _ _ _, _, ⟨o, d, h1, h2, h3⟩, ⟨_, _, _, _, ho, hl⟩ => by
    subst h1
    refine ⟨fun v hv => ?_, by simp, List.cons_ne_nil _ _⟩
    simp only [List.mem_cons, List.not_mem_nil, or_false] at hv
    rcases hv with rfl | rfl | rfl | rfl | rfl | rfl | rfl
    · exact Sm.flat rfl
    · exact Sm.flat rfl
    · exact Sm.flat rfl
    · exact Sm.flat rfl
    · exact Sm.flat rfl
    · exact ints_sm h2 (by omega)
    · exact ints_sm h3 hl
  | .echo _ _ _ _, _, ⟨d, h1, h2⟩, ⟨_, _, _, _, _, hl⟩ => by
    subst h1
    refine ⟨fun v hv => ?_, by simp, List.cons_ne_nil _ _⟩
    simp only [List.mem_cons, List.not_mem_nil, or_false] at hv
    rcases hv with rfl | rfl
    · exact Sm.flat rfl
    · exact ints_sm h2 hl
theorem stR_sm {K : PySem.W.Frag} {H : Hp} {s t : Int} (b : Bd) : (∀ v ∈ stR s t b, Sm K H 2 v v) ∧ (stR s t b).length ≤ 100 := by
  cases b with
  | udp f to sm dt =>
    refine ⟨fun v hv => ?_, by simp [stR]⟩
    simp only [stR, List.mem_cons, List.not_mem_nil, or_false] at hv
    subst hv
    exact Sm.flat rfl
  | tcp f to sq ak fl wi ur op dt =>
    refine ⟨fun v hv => ?_, by simp [stR]⟩
    simp only [stR, List.mem_cons, List.not_mem_nil, or_false] at hv
    subst hv
    exact Sm.flat rfl
  | echo a i no dt =>
    refine ⟨fun v hv => ?_, by simp [stR]⟩
    simp only [stR, List.mem_cons, List.not_mem_nil, or_false] at hv
    rcases hv with rfl | rfl
    all_goals exact Sm.flat rfl
theorem wayE_k (s t : Int) (b : Bd) : (wayE s t b.en).k = kd b := by
  cases b with
  | echo a i no dt => cases a <;> rfl
  | _ => rfl
theorem like_k {S T : Int} : ∀ {b : Bd} {e : En}, likeE b.en e → (wayE S T e).k = kd b
  | .udp _ _ _ _, .udp _ _, _ => rfl
  | .tcp _ _ _ _ _ _ _ _ _, .tcp _ _, _ => rfl
  | .echo _ _ _ _, .echo a _, _ => by cases a <;> rfl
  | .udp _ _ _ _, .tcp _ _, h => h.elim
  | .udp _ _ _ _, .echo _ _, h => h.elim
  | .tcp _ _ _ _ _ _ _ _ _, .udp _ _, h => h.elim
  | .tcp _ _ _ _ _ _ _ _ _, .echo _ _, h => h.elim
  | .echo _ _ _ _, .udp _ _, h => h.elim
  | .echo _ _ _ _, .tcp _ _, h => h.elim
theorem flt_kd (b : Bd) : flt1 (.str (kd b)) = true := by
  cases b with
  | udp f to sm dt => exact flt_udp
  | tcp f to sq ak fl wi ur op dt => exact flt_tcp
  | echo a i no dt => exact flt_echo
theorem Sm.wy {K : PySem.W.Frag} {H : Hp} {n : Nat} {a b : Addr} {w : Wy} (ha : SqT K H a (wyV w)) (hb : SqT K H b (wyV w)) (h : flt1 (.str w.k) = true) : Sm K H (n + 1) (.ref a) (.ref b) :=
  Sm.tupA ha hb (by simp only [wyV, List.all_cons, List.all_nil, h, flt_int, Bool.and_true, Bool.and_self]) (by show 5 ≤ 100000; decide)

def spLaw (K : PySem.W.Frag) : Sp := fun vs H Q _ => ∃ (a : Addr) (ns : List Int), vs = [.ref a] ∧ SqL K H a (ns.map V.int) ∧ ns.length ≤ 63 ∧ ∀ H', Q (.bl true) H'
section
variable {P : Program} {w : World} {K : PySem.W.Frag} {mg : Str → Option Value} {base : Heap}
theorem ok_law (T : Tx K mg) : FnOk P w K mg base CX0 8 T.ad_law T.fd_law ["script"] (spLaw K) := by
  refine T.d_law.F.ok x_law (fun vs H Q E h => ?_) (fun cdv A outer s H vs Q E hr h => ?_)
  · obtain ⟨a, ns, rfl, _⟩ := h
    rfl
  · obtain ⟨a0, ns, rfl, hS, hlen, q⟩ := h
    have nd := x_law.nd
    refine ⟨_, (pss_cons (ps_set (i := 1) nd rfl (Or.inl rfl) (pe_call (ok_law_state T) (hr.mono (by decide)) (by rfl) T.d_law_state.g T.d_law_state.F.kp T.d_law_state.b .nil pass0 (pa_cons (pv 0) pa_nil)))
        (pss_cons (ps_for PassesOwn.never rfl (pi_list (pe_lst (pa_cons pe_str (pa_cons pe_str (pa_cons pe_str pa_nil))))) (pg_name (i := 2) nd rfl (Or.inl rfl)) (pss_one (ps_for PassesOwn.never rfl (pi_range1 (by rfl) T.b_range (pa_cons pe_int pa_nil)) (pg_name (i := 3) nd rfl (Or.inl rfl)) (pss_cons (ps_set (i := 4) nd rfl (Or.inl rfl) (pe_op op_catT (pe_op op_catT (pe_tup (pa_cons pe_str pa_nil)) (pe_call (ok_law_fields T) (hr.mono (by decide)) (by rfl) T.d_law_fields.g T.d_law_fields.F.kp T.d_law_fields.b .nil pass0 (pa_cons (pv 1) pa_nil))) (pe_tup (pa_cons (pe_call (ok_law_body_of T) (hr.mono (by decide)) (by rfl) T.d_law_body_of.g T.d_law_body_of.F.kp T.d_law_body_of.b .nil pass0 (pa_cons (pv 1) (pa_cons (pv 2) (pa_cons pe_int pa_nil)))) pa_nil))))
        (pss_cons (ps_set (i := 5) nd rfl (Or.inl rfl) (pe_call (ok_law_way T) (hr.mono (by decide)) (by rfl) T.d_law_way.g T.d_law_way.F.kp T.d_law_way.b .nil pass0 (pa_cons (pe_ix ix_tup (pv 4) pe_int (fun _ _ => rfl)) (pa_cons (pe_ix ix_tup (pv 4) pe_int (fun _ _ => rfl)) (pa_cons (pe_ix ix_tup (pv 4) pe_int (fun _ _ => rfl)) pa_nil)))))
        (pss_cons (ps_set (i := 6) nd rfl (Or.inl rfl) (pe_call (ok_law_stub_of T) (hr.mono (by decide)) (by rfl) T.d_law_stub_of.g T.d_law_stub_of.F.kp T.d_law_stub_of.b .nil pass0 (pa_cons (pv 4) pa_nil)))
        (pss_cons (ps_if (PW.pt (pw_or (pt_not (pt_val (pe_call (ok_same T 4) (hr.mono (by decide)) (by rfl) T.d_law_same.g T.d_law_same.F.kp T.d_law_same.b .nil pass0 (pa_cons (pe_call (ok_way_of T) (hr.mono (by decide)) (by rfl) T.d_way_of.g T.d_way_of.F.kp T.d_way_of.b .nil pass0 (pa_cons (pv 4) pa_nil)) (pa_cons (pv 5) pa_nil))))) (pw_or1 (pt_not (pt_val (pe_call (ok_same T 4) (hr.mono (by decide)) (by rfl) T.d_law_same.g T.d_law_same.F.kp T.d_law_same.b .nil pass0 (pa_cons (pe_call (ok_way_of_stub T) (hr.mono (by decide)) (by rfl) T.d_way_of_stub.g T.d_way_of_stub.F.kp T.d_way_of_stub.b .nil pass0 (pa_cons (pv 6) pa_nil)) (pa_cons (pv 5) pa_nil)))))))) (pss_one (ps_ret pe_bl)) pss_nil)
        (pss_cons (ps_set (i := 7) nd rfl (Or.inl rfl) (pe_tup (pa_cons (pv 2) (pa_cons (pe_ix ix_tup (pv 5) pe_int (fun _ _ => rfl)) (pa_cons (pe_ix ix_tup (pv 5) pe_int (fun _ _ => rfl)) (pa_cons (pe_ix ix_tup (pv 5) pe_int (fun _ _ => rfl)) (pa_cons (pe_ix ix_tup (pv 5) pe_int (fun _ _ => rfl)) pa_nil)))))))
        (pss_cons (ps_if (PW.pt (pw_or (pt_not (pt_val (pe_call (ok_same T 4) (hr.mono (by decide)) (by rfl) T.d_law_same.g T.d_law_same.F.kp T.d_law_same.b .nil pass0 (pa_cons (pe_call (ok_turned T) (hr.mono (by decide)) (by rfl) T.d_turned.g T.d_turned.F.kp T.d_turned.b .nil pass0 (pa_cons (pv 5) pa_nil)) (pa_cons (pv 7) pa_nil))))) (pw_or1 (pt_not (pt_val (pe_call (ok_same T 4) (hr.mono (by decide)) (by rfl) T.d_law_same.g T.d_law_same.F.kp T.d_law_same.b .nil pass0 (pa_cons (pe_call (ok_turned T) (hr.mono (by decide)) (by rfl) T.d_turned.g T.d_turned.F.kp T.d_turned.b .nil pass0 (pa_cons (pv 7) pa_nil)) (pa_cons (pv 5) pa_nil)))))))) (pss_one (ps_ret pe_bl)) pss_nil)
        (pss_cons (ps_set (i := 8) nd rfl (Or.inl rfl) (pe_op op_catT (pe_op op_catT (pe_tup (pa_cons pe_str pa_nil)) (pe_call (ok_law_fields T) (hr.mono (by decide)) (by rfl) T.d_law_fields.g T.d_law_fields.F.kp T.d_law_fields.b .nil pass0 (pa_cons (pv 1) pa_nil))) (pe_tup (pa_cons (pe_tup (pa_cons pe_str (pa_cons pe_str (pa_cons pe_int (pa_cons pe_int (pa_cons (pv 6) pa_nil)))))) pa_nil))))
        (pss_cons (ps_if (pt_not (pt_val (pe_call (ok_same T 4) (hr.mono (by decide)) (by rfl) T.d_law_same.g T.d_law_same.F.kp T.d_law_same.b .nil pass0 (pa_cons (pe_call (ok_way_of T) (hr.mono (by decide)) (by rfl) T.d_way_of.g T.d_way_of.F.kp T.d_way_of.b .nil pass0 (pa_cons (pv 8) pa_nil)) (pa_cons (pv 7) pa_nil))))) (pss_one (ps_ret pe_bl)) pss_nil)
        (pss_cons (ps_set (i := 9) nd rfl (Or.inl rfl) (pe_call (ok_law_new_way T) (hr.mono (by decide)) (by rfl) T.d_law_new_way.g T.d_law_new_way.F.kp T.d_law_new_way.b .nil pass0 (pa_cons (pv 1) (pa_cons (pv 4) pa_nil))))
        (pss_cons (ps_if (PW.pt (pw_and (pt_cmpR op_eq (pv 3) pe_int (nomark _)) (pw_and1 (pt_cmpR op_ne (pv 2) pe_str (nomark _))))) (pss_one (ps_set (i := 9) nd rfl (Or.inl rfl) (pe_call (ok_law_zero_way T) (hr.mono (by decide)) (by rfl) T.d_law_zero_way.g T.d_law_zero_way.F.kp T.d_law_zero_way.b .nil pass0 (pa_cons (pv 4) (pa_cons (pv 9) pa_nil))))) pss_nil)
        (pss_cons (ps_set (i := 10) nd rfl (Or.inl rfl) (pe_op op_catT (pe_op op_catT (pe_tup (pa_cons pe_str (pa_cons (pe_ix ix_tup (pv 9) pe_int (fun _ _ => rfl)) (pa_cons (pe_ix ix_tup (pv 9) pe_int (fun _ _ => rfl)) pa_nil)))) (pe_slice sl_tup (pv 4) (po_some pe_int) (po_some pe_int))) (pe_tup (pa_cons (pe_call (ok_law_moved_body T) (hr.mono (by decide)) (by rfl) T.d_law_moved_body.g T.d_law_moved_body.F.kp T.d_law_moved_body.b .nil pass0 (pa_cons (pe_ix ix_tup (pv 4) pe_int (fun _ _ => rfl)) (pa_cons (pv 9) pa_nil))) pa_nil))))
        (pss_cons (ps_if (PW.pt (pw_or (pt_not (pt_val (pe_call (ok_same T 4) (hr.mono (by decide)) (by rfl) T.d_law_same.g T.d_law_same.F.kp T.d_law_same.b .nil pass0 (pa_cons (pe_call (ok_moved T) (hr.mono (by decide)) (by rfl) T.d_moved.g T.d_moved.F.kp T.d_moved.b .nil pass0 (pa_cons (pv 4) (pa_cons (pv 9) pa_nil))) (pa_cons (pv 10) pa_nil))))) (pw_or1 (pt_not (pt_val (pe_call (ok_same T 4) (hr.mono (by decide)) (by rfl) T.d_law_same.g T.d_law_same.F.kp T.d_law_same.b .nil pass0 (pa_cons (pe_call (ok_way_of T) (hr.mono (by decide)) (by rfl) T.d_way_of.g T.d_way_of.F.kp T.d_way_of.b .nil pass0 (pa_cons (pv 10) pa_nil)) (pa_cons (pv 9) pa_nil)))))))) (pss_one (ps_ret pe_bl)) pss_nil)
        (pss_cons (ps_if (pt_not (pt_val (pe_call (ok_same T 4) (hr.mono (by decide)) (by rfl) T.d_law_same.g T.d_law_same.F.kp T.d_law_same.b .nil pass0 (pa_cons (pe_call (ok_moved_stub T) (hr.mono (by decide)) (by rfl) T.d_moved_stub.g T.d_moved_stub.F.kp T.d_moved_stub.b .nil pass0 (pa_cons (pv 6) (pa_cons (pv 9) pa_nil))) (pa_cons (pe_call (ok_law_stub_of T) (hr.mono (by decide)) (by rfl) T.d_law_stub_of.g T.d_law_stub_of.F.kp T.d_law_stub_of.b .nil pass0 (pa_cons (pv 10) pa_nil)) pa_nil))))) (pss_one (ps_ret pe_bl)) pss_nil)
        (pss_cons (ps_if (PW.pt (pw_or (pt_not (pt_val (pe_call (ok_same T 4) (hr.mono (by decide)) (by rfl) T.d_law_same.g T.d_law_same.F.kp T.d_law_same.b .nil pass0 (pa_cons (pe_call (ok_moved_stub T) (hr.mono (by decide)) (by rfl) T.d_moved_stub.g T.d_moved_stub.F.kp T.d_moved_stub.b .nil pass0 (pa_cons (pe_call (ok_law_stub_of T) (hr.mono (by decide)) (by rfl) T.d_law_stub_of.g T.d_law_stub_of.F.kp T.d_law_stub_of.b .nil pass0 (pa_cons (pv 10) pa_nil)) (pa_cons (pv 5) pa_nil))) (pa_cons (pv 6) pa_nil))))) (pw_or1 (pt_not (pt_val (pe_call (ok_same T 4) (hr.mono (by decide)) (by rfl) T.d_law_same.g T.d_law_same.F.kp T.d_law_same.b .nil pass0 (pa_cons (pe_call (ok_moved T) (hr.mono (by decide)) (by rfl) T.d_moved.g T.d_moved.F.kp T.d_moved.b .nil pass0 (pa_cons (pv 10) (pa_cons (pv 5) pa_nil))) (pa_cons (pv 4) pa_nil)))))))) (pss_one (ps_ret pe_bl)) pss_nil)
        (pss_one (ps_if (pt_not (pt_val (pe_call (ok_law_any_sum_right T) hr (by rfl) T.d_law_any_sum_right.g T.d_law_any_sum_right.F.kp T.d_law_any_sum_right.b .nil pass0 (pa_cons (pv 1) (pa_cons (pv 4) (pa_cons (pv 9) pa_nil)))))) (pss_one (ps_ret pe_bl)) pss_nil)))))))))))))))))))
        (pss_one (ps_ret pe_bl)))), ?_⟩
    refine ⟨_, rfl, a0, ns, rfl, hS, hlen, fun p c H1 hL1 s1 np nc => ?_⟩
    refine ⟨by show 3 ≤ sizeLine; decide, fun l hl => ?_⟩
    have gl := upd_same (H := H1) (a := l) (o := .lst [.str sUdp, .str sTcp, .str sEcho])
    have lp := hL1.ne1 hl
    have lc := hL1.ne2 hl
    have hL2 := hL1.same (same_upd (o := .lst [.str sUdp, .str sTcp, .str sEcho]) hl)
    refine ⟨l, rfl, ⟨_, SqL.of gl⟩, for_list (K := K) (a := l) (xs := [.str sUdp, .str sTcp, .str sEcho]) (fun i σ H' => ∃ v2 v3 v4 v5 v6 v7 v8 v9 v10 : Option V, σ = [some (.ref a0), some (.ref p), v2, v3, v4, v5, v6, v7, v8, v9, v10] ∧ LS H' p c ∧ H' l = some (.lst [.str sUdp, .str sTcp, .str sEcho]))
      ⟨_, _, _, _, _, _, _, _, _, rfl, hL2, gl⟩ (fun i σ H' _ ⟨_, _, _, _, _, _, _, _, _, _, _, g⟩ => SqL.of g) ?_ ?_⟩
    · rintro i x σ H3 hx ⟨v2, v3, v4, v5, v6, v7, v8, v9, v10, rfl, hL3, gl3⟩
      obtain ⟨k, rfl, hk⟩ : ∃ k, x = V.str k ∧ (k = sUdp ∨ k = sTcp ∨ k = sEcho) := by
        have := List.mem_of_getElem? hx
        simp only [List.mem_cons, List.not_mem_nil, or_false] at this
        rcases this with rfl | rfl | rfl
        · exact ⟨_, rfl, .inl rfl⟩
        · exact ⟨_, rfl, .inr (.inl rfl)⟩
        · exact ⟨_, rfl, .inr (.inr rfl)⟩
      clear hL2 gl
      refine ⟨2, rfl, by decide, by decide, for_range (n := 2) (fun i σ H' => ∃ v3 v4 v5 v6 v7 v8 v9 v10 : Option V, σ = [some (.ref a0), some (.ref p), some (.str k), v3, v4, v5, v6, v7, v8, v9, v10] ∧ LS H' p c ∧ H' l = some (.lst [.str sUdp, .str sTcp, .str sEcho]))
        ⟨_, _, _, _, _, _, _, _, rfl, hL3, gl3⟩ ?_ ?_⟩
      · rintro j σ H4 hj ⟨v3, v4, v5, v6, v7, v8, v9, v10, rfl, hL4, gl4⟩
        refine ⟨by show 1 ≤ sizeLine; decide, fun p1 n1 => ?_⟩
        have u1 := same_upd (o := .tup [.str sPk]) n1
        refine ⟨_, rfl, p, c, rfl, hL4.same u1, fun f s t hp nm sv wh H5 s0 s1 t0 t1 gf hL5 k5 => ?_⟩
        refine catT (xs := [.str sPk]) (sqT_kp (hL4.same u1) k5 (SqT.of upd_same)) (SqT.of gf) (List.cons_ne_nil _ _) (List.cons_ne_nil _ _) (by show 1 + 6 ≤ 1000; decide) fun p2 H6 u6 c6 => ?_
        refine ⟨_, rfl, _, rfl, p, c, k, 90, rfl, hk, by decide, by decide, hL5.same u6, fun ba b r H7 hkd hBb hRb hbb hL7 k7 => ?_⟩
        subst hkd
        refine ⟨by show 1 ≤ sizeLine; decide, fun p3 n3 => ?_⟩
        refine catT (xs := [.str sPk, .int s, .int t, .int hp, .int nm, .int sv, .int wh]) (ys := [.ref ba]) (sqT_same (same_upd n3) (sqT_kp (hL5.same u6) k7 c6)) (SqT.of upd_same) (List.cons_ne_nil _ _) (List.cons_ne_nil _ _) (by show 7 + 1 ≤ 1000; decide) fun pk H8 u8 c8 => ?_
        have u78 := (same_upd n3).trans u8
        have hA : PkAt K H8 pk s t [.int hp, .int nm, .int sv, .int wh] b.en r := ⟨ba, _, _, _, _, rfl, c8, sqT_same u78 hBb⟩
        have hR := hRb.same u78
        have hL8 := hL7.same u78
        have k48 := (kp_same u1).trans (k5.trans ((kp_same u6).trans (k7.trans (kp_same u78))))
        have gl8 := k48 _ _ gl4 lp lc
        have hrr := hR.sm hbb
        have hUs : U32 s := ⟨s0, s1⟩
        have hUt : U32 t := ⟨t0, t1⟩
        clear gf c6 hRb k5 k7 hL5 hL7 u6 u1 hL4 gl4 k48
        have fk : flt1 (.str (wayE s t b.en).k) = true := by rw [wayE_k]; exact flt_kd b
        refine ⟨_, rfl, pk, _, _, _, rfl, rfl, c8, atI_nat (j := 1) rfl, _, rfl, pk, _, _, _, rfl, rfl, c8, atI_nat (j := 2) rfl, _, rfl, pk, _, _, _, rfl, rfl, c8, atI_nat (j := 7) rfl, s, t, ba, b.en, r, rfl, sqT_same u78 hBb, fun wa H9 u9 gw => ?_⟩
        refine ⟨_, rfl, pk, s, t, hp, nm, sv, wh, b, r, rfl, hA.same u9, hR.same u9, hbb, fun st Ha ua gst => ?_⟩
        have u9a := u9.trans ua
        replace hA := hA.same u9a
        replace hR := hR.same u9a
        replace gw := sqT_same ua gw
        replace hL8 := hL8.same u9a
        replace gl8 := u9a _ _ gl8
        clear u9 ua u9a c8 hBb
        refine ⟨_, rfl, pk, rfl, .inl ⟨s, t, _, r, b.en, hA, fun x Hb ub gx => ?_⟩⟩
        refine ⟨_, rfl, _, _, rfl, Sm.wy gx (sqT_same ub gw) fk, fun Hc uc => ⟨_, rfl, ?_⟩⟩
        have ubc := ub.trans uc
        refine ⟨_, rfl, st, s, t, _, _, b.en, rfl, gst.same ubc, fun x2 Hd ud gx2 => ?_⟩
        refine ⟨_, rfl, _, _, rfl, Sm.wy gx2 (sqT_same (ubc.trans ud) gw) fk, fun He ue => ⟨_, rfl, ?_⟩⟩
        have ube := ubc.trans (ud.trans ue)
        replace hA := hA.same ube
        replace hR := hR.same ube
        replace gw := sqT_same ube gw
        replace gst := gst.same ube
        replace hL8 := hL8.same ube
        replace gl8 := ube _ _ gl8
        clear ub uc ubc ud ue ube gx gx2
        refine ⟨_, rfl, _, rfl, wa, _, _, _, rfl, rfl, gw, atI_nat (j := 3) rfl, _, rfl, wa, _, _, _, rfl, rfl, gw, atI_nat (j := 4) rfl, _, rfl, wa, _, _, _, rfl, rfl, gw, atI_nat (j := 1) rfl, _, rfl, wa, _, _, _, rfl, rfl, gw, atI_nat (j := 2) rfl, by show 5 ≤ sizeLine; decide, fun bk n4 => ?_⟩
        have eB : [V.str (kd b), .int (wayE s t b.en).t, .int (wayE s t b.en).tp, .int (wayE s t b.en).s, .int (wayE s t b.en).sp] = wyV (wayE s t b.en).turn := by
          rw [← wayE_k s t b]
          rfl
        have w4 := same_upd (o := .tup [V.str (kd b), .int (wayE s t b.en).t, .int (wayE s t b.en).tp, .int (wayE s t b.en).s, .int (wayE s t b.en).sp]) n4
        have gbk : SqT K (upd He bk (.tup [V.str (kd b), .int (wayE s t b.en).t, .int (wayE s t b.en).tp, .int (wayE s t b.en).s, .int (wayE s t b.en).sp])) bk (wyV (wayE s t b.en).turn) := eB ▸ SqT.of upd_same
        replace hA := hA.same w4
        replace hR := hR.same w4
        replace gw := sqT_same w4 gw
        replace gst := gst.same w4
        replace hL8 := hL8.same w4
        replace gl8 := w4 _ _ gl8
        clear w4
        have fkt : flt1 (.str (wayE s t b.en).turn.k) = true := fk
        refine ⟨_, rfl, wa, _, rfl, gw, fun x Hb ub gx => ?_⟩
        refine ⟨_, rfl, _, _, rfl, Sm.wy gx (sqT_same ub gbk) fkt, fun Hc uc => ⟨_, rfl, ?_⟩⟩
        replace ub := ub.trans uc
        refine ⟨_, rfl, bk, _, rfl, sqT_same ub gbk, fun x2 Hd ud gx2 => ?_⟩
        refine ⟨_, rfl, _, _, rfl, Sm.wy (w := wayE s t b.en) gx2 (sqT_same (ub.trans ud) gw) fk, fun Hf uf => ⟨_, rfl, ?_⟩⟩
        replace ub := ub.trans (ud.trans uf)
        replace hA := hA.same ub
        replace hR := hR.same ub
        replace gw := sqT_same ub gw
        replace gbk := sqT_same ub gbk
        replace gst := gst.same ub
        replace hL8 := hL8.same ub
        replace gl8 := ub _ _ gl8
        clear ub uc ud uf gx gx2
        refine ⟨by show 1 ≤ sizeLine; decide, fun f1 m1 => ?_⟩
        have u1 := same_upd (o := .tup [.str sPk]) m1
        refine ⟨_, rfl, p, c, rfl, hL8.same u1, fun f2 s' t' hp' nm' sv' wh' Hg _ _ _ _ gf hLg kg => ?_⟩
        refine catT (xs := [.str sPk]) (sqT_kp (hL8.same u1) kg (SqT.of upd_same)) (SqT.of gf) (List.cons_ne_nil _ _) (List.cons_ne_nil _ _) (by show 1 + 6 ≤ 1000; decide) fun f3 Hh uh c3 => ?_
        refine ⟨_, rfl, by show 5 ≤ sizeLine; decide, fun f4 m4 => ⟨by show 1 ≤ sizeLine; decide, fun f5 m5 => ?_⟩⟩
        refine catT (ys := [.ref f4]) (sqT_same ((same_upd m4).trans (same_upd m5)) c3) (SqT.of upd_same) (List.cons_ne_nil _ _) (List.cons_ne_nil _ _) (by show 7 + 1 ≤ 1000; decide) fun fl Hi ui c5 => ?_
        have uhi := uh.trans ((same_upd m4).trans ((same_upd m5).trans ui))
        have k8i := (kp_same (p := p) (c := c) u1).trans (kg.trans (kp_same uhi))
        have gf4 : SqT K Hi f4 [.str sFl, .str (Str.ofString "exceeded"), .int 0, .int 0, .ref st] := sqT_same ((same_upd m5).trans ui) (SqT.of upd_same)
        replace hA := hA.kp hL8 k8i
        replace hR := hR.kp hL8 k8i
        replace gw := sqT_kp hL8 k8i gw
        replace gbk := sqT_kp hL8 k8i gbk
        replace gst := gst.kp hL8 k8i
        replace gl8 := k8i _ _ gl8 lp lc
        replace hL8 := hLg.same uhi
        clear gf kg c3 uhi k8i u1 uh hLg
        refine ⟨_, rfl, fl, rfl, .inr ⟨f4, st, _, _, _, _, _, _, _, _, _, s, t, _, _, b.en, c5, gf4, gst, fun x Hb ub gx => ?_⟩⟩
        refine ⟨_, rfl, _, _, rfl, Sm.wy gx (sqT_same ub gbk) fkt, fun Hc uc => ⟨_, rfl, ?_⟩⟩
        replace ub := ub.trans uc
        replace hA := hA.same ub
        replace hR := hR.same ub
        replace gw := sqT_same ub gw
        replace gst := gst.same ub
        replace hL8 := hL8.same ub
        replace gl8 := ub _ _ gl8
        clear ub uc gx c5 gf4 gbk
        refine ⟨_, rfl, _, rfl, p, c, pk, s, t, _, r, b.en, rfl, hL8, hA, hbb.like, hUs, fun ot S T' e1 Hd le1 hUS hUT got hLd kd' => ?_⟩
        replace hA := hA.kp hL8 kd'
        replace hR := hR.kp hL8 kd'
        replace gw := sqT_kp hL8 kd' gw
        replace gst := gst.kp hL8 kd'
        replace gl8 := kd' _ _ gl8 lp lc
        clear hL8 kd'
        refine gn (nx_go ?_)
        refine seq_if (fun σ' H' => ∃ (ot2 : Addr) (e2 : En), σ' = [some (.ref a0), some (.ref p), some (.str (kd b)), some (.int (0 + (j : Int))), some (.ref pk), some (.ref wa), some (.ref st), some (.ref bk), some (.ref fl), some (.ref ot2), v10] ∧ Same Hd H' ∧ likeE b.en e2 ∧ SqT K H' ot2 (wyV (wayE S T' e2))) ?rest (fun key => ?_)
        rotate_left
        · refine ⟨_, rfl, rfl, _, rfl, ite2 (fun _ => ?_) (fun _ => ?_)⟩
          · skip
            cases b with
            | tcp f to sq ak fl' wi ur op dt =>
              refine ⟨_, rfl, rfl, _, rfl, ?_⟩
              exact key _ _ ⟨ot, e1, rfl, Same.refl _, le1, got⟩
            | udp f to sm dt =>
              refine ⟨_, rfl, rfl, _, rfl, ?_⟩
              refine ⟨_, rfl, _, rfl, pk, ot, s, t, hp, nm, sv, wh, _, r, S, T', e1, rfl, hA, hR, hbb, (by show sUdp ≠ sTcp; decide), got, le1, hUS, hUT, fun x e2 H' sx lx gx => ?_⟩
              exact key _ _ ⟨x, e2, rfl, sx, lx, gx⟩
            | echo c' i no dt =>
              refine ⟨_, rfl, rfl, _, rfl, ?_⟩
              refine ⟨_, rfl, _, rfl, pk, ot, s, t, hp, nm, sv, wh, _, r, S, T', e1, rfl, hA, hR, hbb, (by show sEcho ≠ sTcp; decide), got, le1, hUS, hUT, fun x e2 H' sx lx gx => ?_⟩
              exact key _ _ ⟨x, e2, rfl, sx, lx, gx⟩
          · exact key _ _ ⟨ot, e1, rfl, Same.refl _, le1, got⟩
        rintro σ' Hk ⟨ou, e2, rfl, uk, le2, hO⟩
        replace hA := hA.same uk
        replace hR := hR.same uk
        replace gw := sqT_same uk gw
        replace gst := gst.same uk
        replace hLd := hLd.same uk
        replace gl8 := uk _ _ gl8
        clear uk got le1
        have hV := hO
        rw [wyV_E] at hV
        have fo : flt1 (.str (wayE S T' e2).k) = true := by rw [like_k le2]; exact flt_kd b
        obtain ⟨ba', z1, z2, z3, z4, hz, hAS, hAB⟩ := id hA
        injection hz with g1 hz
        injection hz with g2 hz
        injection hz with g3 hz
        injection hz with g4 hz
        subst g1 g2 g3 g4
        refine ⟨_, rfl, ou, _, _, _, rfl, rfl, hV, atI_nat (j := 1) rfl, _, rfl, ou, _, _, _, rfl, rfl, hV, atI_nat (j := 3) rfl, by show 3 ≤ sizeLine; decide, fun d1 m1 => ?_⟩
        refine ⟨_, rfl, 3, rfl, 7, rfl, slMid 3 7 (sqT_same (same_upd m1) hAS) (by decide) (by decide) (by show 7 ≤ 8; decide) rfl rfl fun d2 Hl ul c2 => ?_⟩
        refine catT (xs := [.str sPk, .int S, .int T']) (SqT.of (ul _ _ upd_same)) c2 (List.cons_ne_nil _ _) (List.cons_ne_nil _ _) (by show 3 + 4 ≤ 1000; decide) fun d3 Hm um c3 => ?_
        have ukm := (same_upd m1).trans (ul.trans um)
        refine ⟨_, rfl, pk, _, _, _, rfl, rfl, sqT_same ukm hAS, atI_nat (j := 7) rfl, _, rfl, ba', ou, b.en, e2, r, S, T', rfl, sqT_same ukm hAB, hrr.2.2, hrr.2.1, sqT_same ukm hO, le2, fun d4 Hn un c4 => ?_⟩
        refine ⟨by show 1 ≤ sizeLine; decide, fun d5 m5 => ?_⟩
        refine catT (ys := [.ref d4]) (sqT_same (un.trans (same_upd m5)) c3) (SqT.of upd_same) (List.cons_ne_nil _ _) (List.cons_ne_nil _ _) (by show 7 + 1 ≤ 1000; decide) fun du Ho uo c5 => ?_
        have uko := ukm.trans (un.trans ((same_upd m5).trans uo))
        have hD : PkAt K Ho du S T' [.int hp, .int nm, .int sv, .int wh] e2 r := ⟨d4, _, _, _, _, rfl, c5, sqT_same ((same_upd m5).trans uo) c4⟩
        replace hA := hA.same uko
        replace hR := hR.same uko
        replace gw := sqT_same uko gw
        replace gst := gst.same uko
        replace hO := sqT_same uko hO
        replace hLd := hLd.same uko
        replace gl8 := uko _ _ gl8
        clear ukm uko ul um un uo c2 c3 c4 c5 hAS hAB hV
        refine ⟨_, rfl, _, rfl, pk, ou, s, t, _, r, b.en, wayE S T' e2, rfl, hA, hrr.2.2, hrr.2.1, hO, fun x Hb ub gx => ?_⟩
        rw [wayE_s, wayE_t, nameE_like le2] at gx
        refine ⟨_, rfl, _, _, rfl, Sm.pk gx (hD.same ub) ((hR.same ub).sm hbb).1 hrr.2.1, fun Hc uc => ⟨_, rfl, ?_⟩⟩
        replace ub := ub.trans uc
        refine ⟨_, rfl, du, rfl, .inl ⟨S, T', _, r, e2, hD.same ub, fun x2 Hd' ud gx2 => ?_⟩⟩
        refine ⟨_, rfl, _, _, rfl, Sm.wy gx2 (sqT_same (ub.trans ud) hO) fo, fun He ue => ⟨_, rfl, ?_⟩⟩
        replace ub := ub.trans (ud.trans ue)
        replace hA := hA.same ub
        replace hR := hR.same ub
        replace gw := sqT_same ub gw
        replace gst := gst.same ub
        replace hO := sqT_same ub hO
        replace hD := hD.same ub
        replace hLd := hLd.same ub
        replace gl8 := ub _ _ gl8
        clear ub uc ud ue gx gx2
        have eE := nm_en le2
        have eLn := nm_len le2
        have hDn : PkAt K He du S T' [.int hp, .int nm, .int sv, .int wh] (b.nm e2).en r := by rw [eE]; exact hD
        have hbn := nm_BB le2 hbb
        have hRn := nm_BR le2 hR
        refine ⟨_, rfl, _, rfl, st, ou, s, t, _, stR s t b, stR S T' (b.nm e2), b.en, wayE S T' e2, rfl, gst, mv_st hUs hUt hUS hUT le2 hbb, hO, fun x Hf uf gx => ?_⟩
        rw [wayE_s, wayE_t, nameE_like le2] at gx
        refine ⟨_, rfl, du, S, T', hp, nm, sv, wh, b.nm e2, r, rfl, hDn.same uf, hRn.same uf, hbn, fun y Hg' ug gy => ?_⟩
        rw [eE, eLn] at gy
        refine ⟨_, _, rfl, Sm.st (gx.same ug) gy (stR_sm _).1 (stR_sm (K := K) (H := H) _).2, fun Hh uh => ⟨_, rfl, ?_⟩⟩
        have ub := uf.trans (ug.trans uh)
        replace hA := hA.same ub
        replace hR := hR.same ub
        replace gw := sqT_same ub gw
        replace gst := gst.same ub
        replace hO := sqT_same ub hO
        replace hD := hD.same ub
        replace hLd := hLd.same ub
        replace gl8 := ub _ _ gl8
        replace hDn := hDn.same ub
        replace hRn := hRn.same ub
        clear ub uf ug uh gx gy
        have hback : mvR S T' (wayE s t b.en) e2 (stR S T' (b.nm e2)) (stR s t b) := by
          have z := mv_st (b := b.nm e2) (e := b.en) hUS hUT hUs hUt (by rw [eE]; exact le2.swap hbb.like) hbn
          rw [eE, nm_back le2] at z
          exact z
        refine ⟨_, rfl, du, S, T', hp, nm, sv, wh, b.nm e2, r, rfl, hDn, hRn, hbn, fun y Hg' ug gy => ?_⟩
        rw [eE, eLn] at gy
        refine ⟨_, rfl, y, wa, S, T', _, _, stR s t b, e2, wayE s t b.en, rfl, gy, hback, sqT_same ug gw, fun x Hf uf gx => ?_⟩
        rw [wayE_s, wayE_t, nameE_like (le2.swap hbb.like)] at gx
        refine ⟨_, rfl, _, _, rfl, Sm.st gx (gst.same (ug.trans uf)) (stR_sm _).1 (stR_sm (K := K) (H := H) _).2, fun Hh uh => ⟨_, rfl, ?_⟩⟩
        have ub := ug.trans (uf.trans uh)
        refine ⟨_, rfl, _, rfl, du, wa, S, T', _, r, e2, wayE s t b.en, rfl, hD.same ub, hrr.2.2, hrr.2.1, sqT_same ub gw, fun x2 Hi' ui gx2 => ?_⟩
        rw [wayE_s, wayE_t, nameE_like (le2.swap hbb.like)] at gx2
        refine ⟨_, rfl, _, _, rfl, Sm.pk gx2 (hA.same (ub.trans ui)) ((hR.same (ub.trans ui)).sm hbb).1 hrr.2.1, fun Hj uj => ⟨_, rfl, ?_⟩⟩
        replace ub := ub.trans (ui.trans uj)
        replace hA := hA.same ub
        replace hR := hR.same ub
        replace gw := sqT_same ub gw
        replace gst := gst.same ub
        replace hO := sqT_same ub hO
        replace hD := hD.same ub
        replace hLd := hLd.same ub
        replace gl8 := ub _ _ gl8
        refine ⟨_, rfl, _, rfl, _, rfl, p, c, pk, ou, s, t, hp, nm, sv, wh, b, r, S, T', e2, rfl, hLd, hA, hR, hbb, hO, le2, fun Hz hLz kz => ⟨_, rfl, ?_⟩⟩
        exact ⟨_, _, _, _, _, _, _, _, rfl, hLz, kz _ _ gl8 lp lc⟩
      · rintro σ H4 ⟨v3, v4, v5, v6, v7, v8, v9, v10, rfl, hL4, gl4⟩
        exact ⟨_, _, _, _, _, _, _, _, _, rfl, hL4, gl4⟩
    · rintro σ H3 ⟨v2, v3, v4, v5, v6, v7, v8, v9, v10, rfl, hL3, gl3⟩
      exact q _
end

theorem all_mk {l : PySem.W.OpenLaw} {w : World} {K : PySem.W.Frag} {h : Heap} {mg : Str → Option Value} {fa f0 f1 f2 f3 f4 f5 f6 f7 f8 f9 f10 f11 f12 f13 f14 f15 f16 f17 f18 f19 f20 f21 f22 f23 f24 f25 f26 f27 f28 f29 f30 f31 f32 f33 f34 f35 : Addr} (X : K.In h) (G : h.Ns mainGlobals mg) (hfa : mg "law" = some (.ref fa))
    {od0 an0 od1 an1 od2 an2 od3 an3 od4 an4 od5 an5 od6 an6 od7 an7 od8 an8 od9 an9 od10 an10 od11 an11 od12 an12 od13 an13 od14 an14 od15 an15 od16 an16 od17 an17 od18 an18 od19 an19 od20 an20 od21 an21 od22 an22 od23 an23 od24 an24 od25 an25 od26 an26 od27 an27 od28 an28 od29 an29 od30 an30 od31 an31 od32 an32 od33 an33 od34 an34 od35 an35 : Option Addr} {sl0 sl1 sl2 sl3 sl4 sl5 sl6 sl7 sl8 sl9 sl10 sl11 sl12 sl13 sl14 sl15 sl16 sl17 sl18 sl19 sl20 sl21 sl22 sl23 sl24 sl25 sl26 sl27 sl28 sl29 sl30 sl31 sl32 sl33 sl34 sl35 : Array (Option Value)} {oc0 kV0 dc0 pm0 cd0 ct0 oc1 kV1 dc1 pm1 cd1 ct1 oc2 kV2 dc2 pm2 cd2 ct2 oc3 kV3 dc3 pm3 cd3 ct3 oc4 kV4 dc4 pm4 cd4 ct4 oc5 kV5 dc5 pm5 cd5 ct5 oc6 kV6 dc6 pm6 cd6 ct6 oc7 kV7 dc7 pm7 cd7 ct7 oc8 kV8 dc8 pm8 cd8 ct8 oc9 kV9 dc9 pm9 cd9 ct9 oc10 kV10 dc10 pm10 cd10 ct10 oc11 kV11 dc11 pm11 cd11 ct11 oc12 kV12 dc12 pm12 cd12 ct12 oc13 kV13 dc13 pm13 cd13 ct13 oc14 kV14 dc14 pm14 cd14 ct14 oc15 kV15 dc15 pm15 cd15 ct15 oc16 kV16 dc16 pm16 cd16 ct16 oc17 kV17 dc17 pm17 cd17 ct17 oc18 kV18 dc18 pm18 cd18 ct18 oc19 kV19 dc19 pm19 cd19 ct19 oc20 kV20 dc20 pm20 cd20 ct20 oc21 kV21 dc21 pm21 cd21 ct21 oc22 kV22 dc22 pm22 cd22 ct22 oc23 kV23 dc23 pm23 cd23 ct23 oc24 kV24 dc24 pm24 cd24 ct24 oc25 kV25 dc25 pm25 cd25 ct25 oc26 kV26 dc26 pm26 cd26 ct26 oc27 kV27 dc27 pm27 cd27 ct27 oc28 kV28 dc28 pm28 cd28 ct28 oc29 kV29 dc29 pm29 cd29 ct29 oc30 kV30 dc30 pm30 cd30 ct30 oc31 kV31 dc31 pm31 cd31 ct31 oc32 kV32 dc32 pm32 cd32 ct32 oc33 kV33 dc33 pm33 cd33 ct33 oc34 kV34 dc34 pm34 cd34 ct34 oc35 kV35 dc35 pm35 cd35 ct35 : Value} 
    (a0 : PySem.W.nsIn K mainGlobals "moved_sum" = some (some (.ref f0))) (l0 : K.lookup f0 = some ⟨oc0, od0, .func (PySem.W.fnOf "moved_sum" "moved_sum" (defArgs s_moved_sum) (defBody s_moved_sum) (defScope s_moved_sum) .none kV0 dc0 pm0 an0 cd0 ct0), sl0⟩) (c0 : PySem.W.codeIn K cd0 "moved_sum" = true) (k0 : PySem.W.keepIn K (.ref f0) = true)
    (a1 : PySem.W.nsIn K mainGlobals "way_of" = some (some (.ref f1))) (l1 : K.lookup f1 = some ⟨oc1, od1, .func (PySem.W.fnOf "way_of" "way_of" (defArgs s_way_of) (defBody s_way_of) (defScope s_way_of) .none kV1 dc1 pm1 an1 cd1 ct1), sl1⟩) (c1 : PySem.W.codeIn K cd1 "way_of" = true) (k1 : PySem.W.keepIn K (.ref f1) = true)
    (a2 : PySem.W.nsIn K mainGlobals "way_of_stub" = some (some (.ref f2))) (l2 : K.lookup f2 = some ⟨oc2, od2, .func (PySem.W.fnOf "way_of_stub" "way_of_stub" (defArgs s_way_of_stub) (defBody s_way_of_stub) (defScope s_way_of_stub) .none kV2 dc2 pm2 an2 cd2 ct2), sl2⟩) (c2 : PySem.W.codeIn K cd2 "way_of_stub" = true) (k2 : PySem.W.keepIn K (.ref f2) = true)
    (a3 : PySem.W.nsIn K mainGlobals "_way_between" = some (some (.ref f3))) (l3 : K.lookup f3 = some ⟨oc3, od3, .func (PySem.W.fnOf "_way_between" "_way_between" (defArgs s_way_between) (defBody s_way_between) (defScope s_way_between) .none kV3 dc3 pm3 an3 cd3 ct3), sl3⟩) (c3 : PySem.W.codeIn K cd3 "_way_between" = true) (k3 : PySem.W.keepIn K (.ref f3) = true)
    (a4 : PySem.W.nsIn K mainGlobals "turned" = some (some (.ref f4))) (l4 : K.lookup f4 = some ⟨oc4, od4, .func (PySem.W.fnOf "turned" "turned" (defArgs s_turned) (defBody s_turned) (defScope s_turned) .none kV4 dc4 pm4 an4 cd4 ct4), sl4⟩) (c4 : PySem.W.codeIn K cd4 "turned" = true) (k4 : PySem.W.keepIn K (.ref f4) = true)
    (a5 : PySem.W.nsIn K mainGlobals "moved" = some (some (.ref f5))) (l5 : K.lookup f5 = some ⟨oc5, od5, .func (PySem.W.fnOf "moved" "moved" (defArgs s_moved) (defBody s_moved) (defScope s_moved) .none kV5 dc5 pm5 an5 cd5 ct5), sl5⟩) (c5 : PySem.W.codeIn K cd5 "moved" = true) (k5 : PySem.W.keepIn K (.ref f5) = true)
    (a6 : PySem.W.nsIn K mainGlobals "moved_stub" = some (some (.ref f6))) (l6 : K.lookup f6 = some ⟨oc6, od6, .func (PySem.W.fnOf "moved_stub" "moved_stub" (defArgs s_moved_stub) (defBody s_moved_stub) (defScope s_moved_stub) .none kV6 dc6 pm6 an6 cd6 ct6), sl6⟩) (c6 : PySem.W.codeIn K cd6 "moved_stub" = true) (k6 : PySem.W.keepIn K (.ref f6) = true)
    (a7 : PySem.W.nsIn K mainGlobals "_named" = some (some (.ref f7))) (l7 : K.lookup f7 = some ⟨oc7, od7, .func (PySem.W.fnOf "_named" "_named" (defArgs s_named) (defBody s_named) (defScope s_named) .none kV7 dc7 pm7 an7 cd7 ct7), sl7⟩) (c7 : PySem.W.codeIn K cd7 "_named" = true) (k7 : PySem.W.keepIn K (.ref f7) = true)
    (a8 : PySem.W.nsIn K mainGlobals "_moved_udp_sum" = some (some (.ref f8))) (l8 : K.lookup f8 = some ⟨oc8, od8, .func (PySem.W.fnOf "_moved_udp_sum" "_moved_udp_sum" (defArgs s_moved_udp_sum) (defBody s_moved_udp_sum) (defScope s_moved_udp_sum) .none kV8 dc8 pm8 an8 cd8 ct8), sl8⟩) (c8 : PySem.W.codeIn K cd8 "_moved_udp_sum" = true) (k8 : PySem.W.keepIn K (.ref f8) = true)
    (a9 : PySem.W.nsIn K mainGlobals "_pairs_of_way" = some (some (.ref f9))) (l9 : K.lookup f9 = some ⟨oc9, od9, .func (PySem.W.fnOf "_pairs_of_way" "_pairs_of_way" (defArgs s_pairs_of_way) (defBody s_pairs_of_way) (defScope s_pairs_of_way) .none kV9 dc9 pm9 an9 cd9 ct9), sl9⟩) (c9 : PySem.W.codeIn K cd9 "_pairs_of_way" = true) (k9 : PySem.W.keepIn K (.ref f9) = true)
    (a10 : PySem.W.nsIn K mainGlobals "_law_state" = some (some (.ref f10))) (l10 : K.lookup f10 = some ⟨oc10, od10, .func (PySem.W.fnOf "_law_state" "_law_state" (defArgs s_law_state) (defBody s_law_state) (defScope s_law_state) .none kV10 dc10 pm10 an10 cd10 ct10), sl10⟩) (c10 : PySem.W.codeIn K cd10 "_law_state" = true) (k10 : PySem.W.keepIn K (.ref f10) = true)
    (a11 : PySem.W.nsIn K mainGlobals "_law_take" = some (some (.ref f11))) (l11 : K.lookup f11 = some ⟨oc11, od11, .func (PySem.W.fnOf "_law_take" "_law_take" (defArgs s_law_take) (defBody s_law_take) (defScope s_law_take) .none kV11 dc11 pm11 an11 cd11 ct11), sl11⟩) (c11 : PySem.W.codeIn K cd11 "_law_take" = true) (k11 : PySem.W.keepIn K (.ref f11) = true)
    (a12 : PySem.W.nsIn K mainGlobals "_law_pick" = some (some (.ref f12))) (l12 : K.lookup f12 = some ⟨oc12, od12, .func (PySem.W.fnOf "_law_pick" "_law_pick" (defArgs s_law_pick) (defBody s_law_pick) (defScope s_law_pick) .none kV12 dc12 pm12 an12 cd12 ct12), sl12⟩) (c12 : PySem.W.codeIn K cd12 "_law_pick" = true) (k12 : PySem.W.keepIn K (.ref f12) = true)
    (a13 : PySem.W.nsIn K mainGlobals "_law_same" = some (some (.ref f13))) (l13 : K.lookup f13 = some ⟨oc13, od13, .func (PySem.W.fnOf "_law_same" "_law_same" (defArgs s_law_same) (defBody s_law_same) (defScope s_law_same) .none kV13 dc13 pm13 an13 cd13 ct13), sl13⟩) (c13 : PySem.W.codeIn K cd13 "_law_same" = true) (k13 : PySem.W.keepIn K (.ref f13) = true)
    (a14 : PySem.W.nsIn K mainGlobals "_law_two" = some (some (.ref f14))) (l14 : K.lookup f14 = some ⟨oc14, od14, .func (PySem.W.fnOf "_law_two" "_law_two" (defArgs s_law_two) (defBody s_law_two) (defScope s_law_two) .none kV14 dc14 pm14 an14 cd14 ct14), sl14⟩) (c14 : PySem.W.codeIn K cd14 "_law_two" = true) (k14 : PySem.W.keepIn K (.ref f14) = true)
    (a15 : PySem.W.nsIn K mainGlobals "_law_four" = some (some (.ref f15))) (l15 : K.lookup f15 = some ⟨oc15, od15, .func (PySem.W.fnOf "_law_four" "_law_four" (defArgs s_law_four) (defBody s_law_four) (defScope s_law_four) .none kV15 dc15 pm15 an15 cd15 ct15), sl15⟩) (c15 : PySem.W.codeIn K cd15 "_law_four" = true) (k15 : PySem.W.keepIn K (.ref f15) = true)
    (a16 : PySem.W.nsIn K mainGlobals "_law_sum" = some (some (.ref f16))) (l16 : K.lookup f16 = some ⟨oc16, od16, .func (PySem.W.fnOf "_law_sum" "_law_sum" (defArgs s_law_sum) (defBody s_law_sum) (defScope s_law_sum) .none kV16 dc16 pm16 an16 cd16 ct16), sl16⟩) (c16 : PySem.W.codeIn K cd16 "_law_sum" = true) (k16 : PySem.W.keepIn K (.ref f16) = true)
    (a17 : PySem.W.nsIn K mainGlobals "_law_header" = some (some (.ref f17))) (l17 : K.lookup f17 = some ⟨oc17, od17, .func (PySem.W.fnOf "_law_header" "_law_header" (defArgs s_law_header) (defBody s_law_header) (defScope s_law_header) .none kV17 dc17 pm17 an17 cd17 ct17), sl17⟩) (c17 : PySem.W.codeIn K cd17 "_law_header" = true) (k17 : PySem.W.keepIn K (.ref f17) = true)
    (a18 : PySem.W.nsIn K mainGlobals "_law_body" = some (some (.ref f18))) (l18 : K.lookup f18 = some ⟨oc18, od18, .func (PySem.W.fnOf "_law_body" "_law_body" (defArgs s_law_body) (defBody s_law_body) (defScope s_law_body) .none kV18 dc18 pm18 an18 cd18 ct18), sl18⟩) (c18 : PySem.W.codeIn K cd18 "_law_body" = true) (k18 : PySem.W.keepIn K (.ref f18) = true)
    (a19 : PySem.W.nsIn K mainGlobals "_law_stub_octets" = some (some (.ref f19))) (l19 : K.lookup f19 = some ⟨oc19, od19, .func (PySem.W.fnOf "_law_stub_octets" "_law_stub_octets" (defArgs s_law_stub_octets) (defBody s_law_stub_octets) (defScope s_law_stub_octets) .none kV19 dc19 pm19 an19 cd19 ct19), sl19⟩) (c19 : PySem.W.codeIn K cd19 "_law_stub_octets" = true) (k19 : PySem.W.keepIn K (.ref f19) = true)
    (a20 : PySem.W.nsIn K mainGlobals "_law_octets" = some (some (.ref f20))) (l20 : K.lookup f20 = some ⟨oc20, od20, .func (PySem.W.fnOf "_law_octets" "_law_octets" (defArgs s_law_octets) (defBody s_law_octets) (defScope s_law_octets) .none kV20 dc20 pm20 an20 cd20 ct20), sl20⟩) (c20 : PySem.W.codeIn K cd20 "_law_octets" = true) (k20 : PySem.W.keepIn K (.ref f20) = true)
    (a21 : PySem.W.nsIn K mainGlobals "_law_number" = some (some (.ref f21))) (l21 : K.lookup f21 = some ⟨oc21, od21, .func (PySem.W.fnOf "_law_number" "_law_number" (defArgs s_law_number) (defBody s_law_number) (defScope s_law_number) .none kV21 dc21 pm21 an21 cd21 ct21), sl21⟩) (c21 : PySem.W.codeIn K cd21 "_law_number" = true) (k21 : PySem.W.keepIn K (.ref f21) = true)
    (a22 : PySem.W.nsIn K mainGlobals "_law_plain" = some (some (.ref f22))) (l22 : K.lookup f22 = some ⟨oc22, od22, .func (PySem.W.fnOf "_law_plain" "_law_plain" (defArgs s_law_plain) (defBody s_law_plain) (defScope s_law_plain) .none kV22 dc22 pm22 an22 cd22 ct22), sl22⟩) (c22 : PySem.W.codeIn K cd22 "_law_plain" = true) (k22 : PySem.W.keepIn K (.ref f22) = true)
    (a23 : PySem.W.nsIn K mainGlobals "_law_data" = some (some (.ref f23))) (l23 : K.lookup f23 = some ⟨oc23, od23, .func (PySem.W.fnOf "_law_data" "_law_data" (defArgs s_law_data) (defBody s_law_data) (defScope s_law_data) .none kV23 dc23 pm23 an23 cd23 ct23), sl23⟩) (c23 : PySem.W.codeIn K cd23 "_law_data" = true) (k23 : PySem.W.keepIn K (.ref f23) = true)
    (a24 : PySem.W.nsIn K mainGlobals "_law_fields" = some (some (.ref f24))) (l24 : K.lookup f24 = some ⟨oc24, od24, .func (PySem.W.fnOf "_law_fields" "_law_fields" (defArgs s_law_fields) (defBody s_law_fields) (defScope s_law_fields) .none kV24 dc24 pm24 an24 cd24 ct24), sl24⟩) (c24 : PySem.W.codeIn K cd24 "_law_fields" = true) (k24 : PySem.W.keepIn K (.ref f24) = true)
    (a25 : PySem.W.nsIn K mainGlobals "_law_part" = some (some (.ref f25))) (l25 : K.lookup f25 = some ⟨oc25, od25, .func (PySem.W.fnOf "_law_part" "_law_part" (defArgs s_law_part) (defBody s_law_part) (defScope s_law_part) .none kV25 dc25 pm25 an25 cd25 ct25), sl25⟩) (c25 : PySem.W.codeIn K cd25 "_law_part" = true) (k25 : PySem.W.keepIn K (.ref f25) = true)
    (a26 : PySem.W.nsIn K mainGlobals "_law_stub" = some (some (.ref f26))) (l26 : K.lookup f26 = some ⟨oc26, od26, .func (PySem.W.fnOf "_law_stub" "_law_stub" (defArgs s_law_stub) (defBody s_law_stub) (defScope s_law_stub) .none kV26 dc26 pm26 an26 cd26 ct26), sl26⟩) (c26 : PySem.W.codeIn K cd26 "_law_stub" = true) (k26 : PySem.W.keepIn K (.ref f26) = true)
    (a27 : PySem.W.nsIn K mainGlobals "_law_body_of" = some (some (.ref f27))) (l27 : K.lookup f27 = some ⟨oc27, od27, .func (PySem.W.fnOf "_law_body_of" "_law_body_of" (defArgs s_law_body_of) (defBody s_law_body_of) (defScope s_law_body_of) .none kV27 dc27 pm27 an27 cd27 ct27), sl27⟩) (c27 : PySem.W.codeIn K cd27 "_law_body_of" = true) (k27 : PySem.W.keepIn K (.ref f27) = true)
    (a28 : PySem.W.nsIn K mainGlobals "_law_value" = some (some (.ref f28))) (l28 : K.lookup f28 = some ⟨oc28, od28, .func (PySem.W.fnOf "_law_value" "_law_value" (defArgs s_law_value) (defBody s_law_value) (defScope s_law_value) .none kV28 dc28 pm28 an28 cd28 ct28), sl28⟩) (c28 : PySem.W.codeIn K cd28 "_law_value" = true) (k28 : PySem.W.keepIn K (.ref f28) = true)
    (a29 : PySem.W.nsIn K mainGlobals "_law_way" = some (some (.ref f29))) (l29 : K.lookup f29 = some ⟨oc29, od29, .func (PySem.W.fnOf "_law_way" "_law_way" (defArgs s_law_way) (defBody s_law_way) (defScope s_law_way) .none kV29 dc29 pm29 an29 cd29 ct29), sl29⟩) (c29 : PySem.W.codeIn K cd29 "_law_way" = true) (k29 : PySem.W.keepIn K (.ref f29) = true)
    (a30 : PySem.W.nsIn K mainGlobals "_law_new_way" = some (some (.ref f30))) (l30 : K.lookup f30 = some ⟨oc30, od30, .func (PySem.W.fnOf "_law_new_way" "_law_new_way" (defArgs s_law_new_way) (defBody s_law_new_way) (defScope s_law_new_way) .none kV30 dc30 pm30 an30 cd30 ct30), sl30⟩) (c30 : PySem.W.codeIn K cd30 "_law_new_way" = true) (k30 : PySem.W.keepIn K (.ref f30) = true)
    (a31 : PySem.W.nsIn K mainGlobals "_law_moved_body" = some (some (.ref f31))) (l31 : K.lookup f31 = some ⟨oc31, od31, .func (PySem.W.fnOf "_law_moved_body" "_law_moved_body" (defArgs s_law_moved_body) (defBody s_law_moved_body) (defScope s_law_moved_body) .none kV31 dc31 pm31 an31 cd31 ct31), sl31⟩) (c31 : PySem.W.codeIn K cd31 "_law_moved_body" = true) (k31 : PySem.W.keepIn K (.ref f31) = true)
    (a32 : PySem.W.nsIn K mainGlobals "_law_stub_of" = some (some (.ref f32))) (l32 : K.lookup f32 = some ⟨oc32, od32, .func (PySem.W.fnOf "_law_stub_of" "_law_stub_of" (defArgs s_law_stub_of) (defBody s_law_stub_of) (defScope s_law_stub_of) .none kV32 dc32 pm32 an32 cd32 ct32), sl32⟩) (c32 : PySem.W.codeIn K cd32 "_law_stub_of" = true) (k32 : PySem.W.keepIn K (.ref f32) = true)
    (a33 : PySem.W.nsIn K mainGlobals "_law_zero_way" = some (some (.ref f33))) (l33 : K.lookup f33 = some ⟨oc33, od33, .func (PySem.W.fnOf "_law_zero_way" "_law_zero_way" (defArgs s_law_zero_way) (defBody s_law_zero_way) (defScope s_law_zero_way) .none kV33 dc33 pm33 an33 cd33 ct33), sl33⟩) (c33 : PySem.W.codeIn K cd33 "_law_zero_way" = true) (k33 : PySem.W.keepIn K (.ref f33) = true)
    (a34 : PySem.W.nsIn K mainGlobals "_law_any_sum_right" = some (some (.ref f34))) (l34 : K.lookup f34 = some ⟨oc34, od34, .func (PySem.W.fnOf "_law_any_sum_right" "_law_any_sum_right" (defArgs s_law_any_sum_right) (defBody s_law_any_sum_right) (defScope s_law_any_sum_right) .none kV34 dc34 pm34 an34 cd34 ct34), sl34⟩) (c34 : PySem.W.codeIn K cd34 "_law_any_sum_right" = true) (k34 : PySem.W.keepIn K (.ref f34) = true)
    (a35 : PySem.W.nsIn K mainGlobals "law" = some (some (.ref f35))) (l35 : K.lookup f35 = some ⟨oc35, od35, .func (PySem.W.fnOf "law" "law" (defArgs s_law) (defBody s_law) (defScope s_law) .none kV35 dc35 pm35 an35 cd35 ct35), sl35⟩) (c35 : PySem.W.codeIn K cd35 "law" = true) (k35 : PySem.W.keepIn K (.ref f35) = true)
    (z_sum : PySem.W.nsIn K mainGlobals "sum" = some none)
    (z_abs : PySem.W.nsIn K mainGlobals "abs" = some none)
    (z_len : PySem.W.nsIn K mainGlobals "len" = some none)
    (z_int : PySem.W.nsIn K mainGlobals "int" = some none)
    (z_isinstance : PySem.W.nsIn K mainGlobals "isinstance" = some none)
    (z_dict : PySem.W.nsIn K mainGlobals "dict" = some none)
    (z_all : PySem.W.nsIn K mainGlobals "all" = some none)
    (z_bool : PySem.W.nsIn K mainGlobals "bool" = some none)
    (z_str : PySem.W.nsIn K mainGlobals "str" = some none)
    (z_tuple : PySem.W.nsIn K mainGlobals "tuple" = some none)
    (z_list : PySem.W.nsIn K mainGlobals "list" = some none)
    (z_range : PySem.W.nsIn K mainGlobals "range" = some none)
    (z_min : PySem.W.nsIn K mainGlobals "min" = some none)
    (z_max : PySem.W.nsIn K mainGlobals "max" = some none)
    : ∃ fd : FuncData, (∀ (s : Shared) (v : Value), BindsTo s fd ⟨[v], []⟩ [("script", v)]) ∧ ∀ base : Heap, K.In base → base.Ns mainGlobals mg → FnOk l.prog w K mg base CX0 8 fa fd ["script"] (spLaw K) := by
  have e := hfa.symm.trans (PySem.W.mg_of X G a35)
  cases e
  have F0 := fun_mk (st := s_moved_sum) l0 c0 k0
  have b0 := F0.binds (ps := ["number", "olds", "news"]) fun _ _ _ _ _ _ us hl => match us, hl with | [_, _, _], _ => rfl
  have F1 := fun_mk (st := s_way_of) l1 c1 k1
  have b1 := F1.binds (ps := ["packet"]) fun _ _ _ _ _ _ us hl => match us, hl with | [_], _ => rfl
  have F2 := fun_mk (st := s_way_of_stub) l2 c2 k2
  have b2 := F2.binds (ps := ["stub"]) fun _ _ _ _ _ _ us hl => match us, hl with | [_], _ => rfl
  have F3 := fun_mk (st := s_way_between) l3 c3 k3
  have b3 := F3.binds (ps := ["source", "target", "part"]) fun _ _ _ _ _ _ us hl => match us, hl with | [_, _, _], _ => rfl
  have F4 := fun_mk (st := s_turned) l4 c4 k4
  have b4 := F4.binds (ps := ["way"]) fun _ _ _ _ _ _ us hl => match us, hl with | [_], _ => rfl
  have F5 := fun_mk (st := s_moved) l5 c5 k5
  have b5 := F5.binds (ps := ["packet", "way"]) fun _ _ _ _ _ _ us hl => match us, hl with | [_, _], _ => rfl
  have F6 := fun_mk (st := s_moved_stub) l6 c6 k6
  have b6 := F6.binds (ps := ["stub", "way"]) fun _ _ _ _ _ _ us hl => match us, hl with | [_, _], _ => rfl
  have F7 := fun_mk (st := s_named) l7 c7 k7
  have b7 := F7.binds (ps := ["part", "way"]) fun _ _ _ _ _ _ us hl => match us, hl with | [_, _], _ => rfl
  have F8 := fun_mk (st := s_moved_udp_sum) l8 c8 k8
  have b8 := F8.binds (ps := ["stub", "way"]) fun _ _ _ _ _ _ us hl => match us, hl with | [_, _], _ => rfl
  have F9 := fun_mk (st := s_pairs_of_way) l9 c9 k9
  have b9 := F9.binds (ps := ["way"]) fun _ _ _ _ _ _ us hl => match us, hl with | [_], _ => rfl
  have F10 := fun_mk (st := s_law_state) l10 c10 k10
  have b10 := F10.binds (ps := ["script"]) fun _ _ _ _ _ _ us hl => match us, hl with | [_], _ => rfl
  have F11 := fun_mk (st := s_law_take) l11 c11 k11
  have b11 := F11.binds (ps := ["state", "most"]) fun _ _ _ _ _ _ us hl => match us, hl with | [_, _], _ => rfl
  have F12 := fun_mk (st := s_law_pick) l12 c12 k12
  have b12 := F12.binds (ps := ["state", "row"]) fun _ _ _ _ _ _ us hl => match us, hl with | [_, _], _ => rfl
  have F13 := fun_mk (st := s_law_same) l13 c13 k13
  have b13 := F13.binds (ps := ["told", "due"]) fun _ _ _ _ _ _ us hl => match us, hl with | [_, _], _ => rfl
  have F14 := fun_mk (st := s_law_two) l14 c14 k14
  have b14 := F14.binds (ps := ["number"]) fun _ _ _ _ _ _ us hl => match us, hl with | [_], _ => rfl
  have F15 := fun_mk (st := s_law_four) l15 c15 k15
  have b15 := F15.binds (ps := ["number"]) fun _ _ _ _ _ _ us hl => match us, hl with | [_], _ => rfl
  have F16 := fun_mk (st := s_law_sum) l16 c16 k16
  have b16 := F16.binds (ps := ["octets"]) fun _ _ _ _ _ _ us hl => match us, hl with | [_], _ => rfl
  have F17 := fun_mk (st := s_law_header) l17 c17 k17
  have b17 := F17.binds (ps := ["fields", "size", "protocol"]) fun _ _ _ _ _ _ us hl => match us, hl with | [_, _, _], _ => rfl
  have F18 := fun_mk (st := s_law_body) l18 c18 k18
  have b18 := F18.binds (ps := ["source", "target", "body"]) fun _ _ _ _ _ _ us hl => match us, hl with | [_, _, _], _ => rfl
  have F19 := fun_mk (st := s_law_stub_octets) l19 c19 k19
  have b19 := F19.binds (ps := ["stub"]) fun _ _ _ _ _ _ us hl => match us, hl with | [_], _ => rfl
  have F20 := fun_mk (st := s_law_octets) l20 c20 k20
  have b20 := F20.binds (ps := ["packet"]) fun _ _ _ _ _ _ us hl => match us, hl with | [_], _ => rfl
  have F21 := fun_mk (st := s_law_number) l21 c21 k21
  have b21 := F21.binds (ps := ["state", "low", "high"]) fun _ _ _ _ _ _ us hl => match us, hl with | [_, _, _], _ => rfl
  have F22 := fun_mk (st := s_law_plain) l22 c22 k22
  have b22 := F22.binds (ps := ["state"]) fun _ _ _ _ _ _ us hl => match us, hl with | [_], _ => rfl
  have F23 := fun_mk (st := s_law_data) l23 c23 k23
  have b23 := F23.binds (ps := ["state", "most"]) fun _ _ _ _ _ _ us hl => match us, hl with | [_, _], _ => rfl
  have F24 := fun_mk (st := s_law_fields) l24 c24 k24
  have b24 := F24.binds (ps := ["state"]) fun _ _ _ _ _ _ us hl => match us, hl with | [_], _ => rfl
  have F25 := fun_mk (st := s_law_part) l25 c25 k25
  have b25 := F25.binds (ps := ["state"]) fun _ _ _ _ _ _ us hl => match us, hl with | [_], _ => rfl
  have F26 := fun_mk (st := s_law_stub) l26 c26 k26
  have b26 := F26.binds (ps := ["state"]) fun _ _ _ _ _ _ us hl => match us, hl with | [_], _ => rfl
  have F27 := fun_mk (st := s_law_body_of) l27 c27 k27
  have b27 := F27.binds (ps := ["state", "kind", "most"]) fun _ _ _ _ _ _ us hl => match us, hl with | [_, _, _], _ => rfl
  have F28 := fun_mk (st := s_law_value) l28 c28 k28
  have b28 := F28.binds (ps := ["octets"]) fun _ _ _ _ _ _ us hl => match us, hl with | [_], _ => rfl
  have F29 := fun_mk (st := s_law_way) l29 c29 k29
  have b29 := F29.binds (ps := ["source", "target", "body"]) fun _ _ _ _ _ _ us hl => match us, hl with | [_, _, _], _ => rfl
  have F30 := fun_mk (st := s_law_new_way) l30 c30 k30
  have b30 := F30.binds (ps := ["state", "packet"]) fun _ _ _ _ _ _ us hl => match us, hl with | [_, _], _ => rfl
  have F31 := fun_mk (st := s_law_moved_body) l31 c31 k31
  have b31 := F31.binds (ps := ["body", "way"]) fun _ _ _ _ _ _ us hl => match us, hl with | [_, _], _ => rfl
  have F32 := fun_mk (st := s_law_stub_of) l32 c32 k32
  have b32 := F32.binds (ps := ["packet"]) fun _ _ _ _ _ _ us hl => match us, hl with | [_], _ => rfl
  have F33 := fun_mk (st := s_law_zero_way) l33 c33 k33
  have b33 := F33.binds (ps := ["packet", "way"]) fun _ _ _ _ _ _ us hl => match us, hl with | [_, _], _ => rfl
  have F34 := fun_mk (st := s_law_any_sum_right) l34 c34 k34
  have b34 := F34.binds (ps := ["state", "packet", "way"]) fun _ _ _ _ _ _ us hl => match us, hl with | [_, _, _], _ => rfl
  have F35 := fun_mk (st := s_law) l35 c35 k35
  have b35 := F35.binds (ps := ["script"]) fun _ _ _ _ _ _ us hl => match us, hl with | [_], _ => rfl
  let T : Tx K mg := { ad_moved_sum := _, fd_moved_sum := _, d_moved_sum := ⟨F0, b0, PySem.W.mg_of X G a0⟩, ad_way_of := _, fd_way_of := _, d_way_of := ⟨F1, b1, PySem.W.mg_of X G a1⟩, ad_way_of_stub := _, fd_way_of_stub := _, d_way_of_stub := ⟨F2, b2, PySem.W.mg_of X G a2⟩, ad_way_between := _, fd_way_between := _, d_way_between := ⟨F3, b3, PySem.W.mg_of X G a3⟩, ad_turned := _, fd_turned := _, d_turned := ⟨F4, b4, PySem.W.mg_of X G a4⟩, ad_moved := _, fd_moved := _, d_moved := ⟨F5, b5, PySem.W.mg_of X G a5⟩, ad_moved_stub := _, fd_moved_stub := _, d_moved_stub := ⟨F6, b6, PySem.W.mg_of X G a6⟩, ad_named := _, fd_named := _, d_named := ⟨F7, b7, PySem.W.mg_of X G a7⟩, ad_moved_udp_sum := _, fd_moved_udp_sum := _, d_moved_udp_sum := ⟨F8, b8, PySem.W.mg_of X G a8⟩, ad_pairs_of_way := _, fd_pairs_of_way := _, d_pairs_of_way := ⟨F9, b9, PySem.W.mg_of X G a9⟩, ad_law_state := _, fd_law_state := _, d_law_state := ⟨F10, b10, PySem.W.mg_of X G a10⟩, ad_law_take := _, fd_law_take := _, d_law_take := ⟨F11, b11, PySem.W.mg_of X G a11⟩, ad_law_pick := _, fd_law_pick := _, d_law_pick := ⟨F12, b12, PySem.W.mg_of X G a12⟩, ad_law_same := _, fd_law_same := _, d_law_same := ⟨F13, b13, PySem.W.mg_of X G a13⟩, ad_law_two := _, fd_law_two := _, d_law_two := ⟨F14, b14, PySem.W.mg_of X G a14⟩, ad_law_four := _, fd_law_four := _, d_law_four := ⟨F15, b15, PySem.W.mg_of X G a15⟩, ad_law_sum := _, fd_law_sum := _, d_law_sum := ⟨F16, b16, PySem.W.mg_of X G a16⟩, ad_law_header := _, fd_law_header := _, d_law_header := ⟨F17, b17, PySem.W.mg_of X G a17⟩, ad_law_body := _, fd_law_body := _, d_law_body := ⟨F18, b18, PySem.W.mg_of X G a18⟩, ad_law_stub_octets := _, fd_law_stub_octets := _, d_law_stub_octets := ⟨F19, b19, PySem.W.mg_of X G a19⟩, ad_law_octets := _, fd_law_octets := _, d_law_octets := ⟨F20, b20, PySem.W.mg_of X G a20⟩, ad_law_number := _, fd_law_number := _, d_law_number := ⟨F21, b21, PySem.W.mg_of X G a21⟩, ad_law_plain := _, fd_law_plain := _, d_law_plain := ⟨F22, b22, PySem.W.mg_of X G a22⟩, ad_law_data := _, fd_law_data := _, d_law_data := ⟨F23, b23, PySem.W.mg_of X G a23⟩, ad_law_fields := _, fd_law_fields := _, d_law_fields := ⟨F24, b24, PySem.W.mg_of X G a24⟩, ad_law_part := _, fd_law_part := _, d_law_part := ⟨F25, b25, PySem.W.mg_of X G a25⟩, ad_law_stub := _, fd_law_stub := _, d_law_stub := ⟨F26, b26, PySem.W.mg_of X G a26⟩, ad_law_body_of := _, fd_law_body_of := _, d_law_body_of := ⟨F27, b27, PySem.W.mg_of X G a27⟩, ad_law_value := _, fd_law_value := _, d_law_value := ⟨F28, b28, PySem.W.mg_of X G a28⟩, ad_law_way := _, fd_law_way := _, d_law_way := ⟨F29, b29, PySem.W.mg_of X G a29⟩, ad_law_new_way := _, fd_law_new_way := _, d_law_new_way := ⟨F30, b30, PySem.W.mg_of X G a30⟩, ad_law_moved_body := _, fd_law_moved_body := _, d_law_moved_body := ⟨F31, b31, PySem.W.mg_of X G a31⟩, ad_law_stub_of := _, fd_law_stub_of := _, d_law_stub_of := ⟨F32, b32, PySem.W.mg_of X G a32⟩, ad_law_zero_way := _, fd_law_zero_way := _, d_law_zero_way := ⟨F33, b33, PySem.W.mg_of X G a33⟩, ad_law_any_sum_right := _, fd_law_any_sum_right := _, d_law_any_sum_right := ⟨F34, b34, PySem.W.mg_of X G a34⟩, ad_law := _, fd_law := _, d_law := ⟨F35, b35, PySem.W.mg_of X G a35⟩, b_sum := PySem.W.mg_none_of X G z_sum, b_abs := PySem.W.mg_none_of X G z_abs, b_len := PySem.W.mg_none_of X G z_len, b_int := PySem.W.mg_none_of X G z_int, b_isinstance := PySem.W.mg_none_of X G z_isinstance, b_dict := PySem.W.mg_none_of X G z_dict, b_all := PySem.W.mg_none_of X G z_all, b_bool := PySem.W.mg_none_of X G z_bool, b_str := PySem.W.mg_none_of X G z_str, b_tuple := PySem.W.mg_none_of X G z_tuple, b_list := PySem.W.mg_none_of X G z_list, b_range := PySem.W.mg_none_of X G z_range, b_min := PySem.W.mg_none_of X G z_min, b_max := PySem.W.mg_none_of X G z_max }
  exact ⟨T.fd_law, fun s v => .of_eq rfl, fun base _ _ => ok_law T⟩
theorem walk {l : PySem.W.OpenLaw} {q : Program} {loose : List Str} {XP : (Str → Option Value) → Heap → Prop} {YP : World → Heap → Prop} {d : DefRec} {K : Params → PySem.W.Frag} (hn : l.most = some 63) (hdf : d.params.defaults = [])
    (hY : ∀ (w : World) (h : Heap), YP w h → (K w.params).In h)
    (F : ∀ (w : World) (mg : Str → Option Value) (fa : Addr) (h : Heap), (K w.params).In h → h.Ns mainGlobals mg → mg d.name = some (.ref fa) →
      ∃ fd : FuncData, (∀ (s : Shared) (u : Value), BindsTo s fd ⟨[u], []⟩ [("script", u)]) ∧ ∀ base : Heap, (K w.params).In base → base.Ns mainGlobals mg → FnOk l.prog w (K w.params) mg base CX0 8 fa fd ["script"] (spLaw (K w.params))) :
    PySem.W.WalkO q loose XP YP l.row.toRowW d [] (fun f vs => PySem.call f vs) :=
  L2.walk_of (n := 63) (k := 8) (x := "script") (CX := fun _ => CX0) (sp := fun w => spLaw (K w.params)) hn (by decide) hdf ⟨rfl, by decide, by decide⟩ hY F (fun _ _ a ns hl _ hS => ⟨a, ns, rfl, hS, hl, fun _ => rfl⟩) fun _ _ _ _ _ z => z
end Toy
open PySem PySem.W PyProof.Rows
set_option maxRecDepth 100000 in
set_option maxHeartbeats 0 in
theorem PySem.Challenge.cw_onepolicy_k12_ways_and_moved_packets_holds : PySem.Challenge.rw_onepolicy_k12_ways_and_moved_packets.Holds := by
  w_on; o_law; k_head; (case hw => w_witness2)
  k_fill
  refine Toy.walk (l := PySem.Challenge.rw_onepolicy_k12_ways_and_moved_packets) rfl rfl (fun w h Y => PySem.W.kIn_of Y) ?F
  case F =>
    intro w mg fa h KX G hmg
    refine' Toy.all_mk KX G hmg ?a0 ?l0 ?c0 ?k0 ?a1 ?l1 ?c1 ?k1 ?a2 ?l2 ?c2 ?k2 ?a3 ?l3 ?c3 ?k3 ?a4 ?l4 ?c4 ?k4 ?a5 ?l5 ?c5 ?k5 ?a6 ?l6 ?c6 ?k6 ?a7 ?l7 ?c7 ?k7 ?a8 ?l8 ?c8 ?k8 ?a9 ?l9 ?c9 ?k9 ?a10 ?l10 ?c10 ?k10 ?a11 ?l11 ?c11 ?k11 ?a12 ?l12 ?c12 ?k12 ?a13 ?l13 ?c13 ?k13 ?a14 ?l14 ?c14 ?k14 ?a15 ?l15 ?c15 ?k15 ?a16 ?l16 ?c16 ?k16 ?a17 ?l17 ?c17 ?k17 ?a18 ?l18 ?c18 ?k18 ?a19 ?l19 ?c19 ?k19 ?a20 ?l20 ?c20 ?k20 ?a21 ?l21 ?c21 ?k21 ?a22 ?l22 ?c22 ?k22 ?a23 ?l23 ?c23 ?k23 ?a24 ?l24 ?c24 ?k24 ?a25 ?l25 ?c25 ?k25 ?a26 ?l26 ?c26 ?k26 ?a27 ?l27 ?c27 ?k27 ?a28 ?l28 ?c28 ?k28 ?a29 ?l29 ?c29 ?k29 ?a30 ?l30 ?c30 ?k30 ?a31 ?l31 ?c31 ?k31 ?a32 ?l32 ?c32 ?k32 ?a33 ?l33 ?c33 ?k33 ?a34 ?l34 ?c34 ?k34 ?a35 ?l35 ?c35 ?k35 ?z_sum ?z_abs ?z_len ?z_int ?z_isinstance ?z_dict ?z_all ?z_bool ?z_str ?z_tuple ?z_list ?z_range ?z_min ?z_max
    (case a0 => k_is)
    (case l0 => k_is)
    (case c0 => k_is)
    (case k0 => k_is)
    (case a1 => k_is)
    (case l1 => k_is)
    (case c1 => k_is)
    (case k1 => k_is)
    (case a2 => k_is)
    (case l2 => k_is)
    (case c2 => k_is)
    (case k2 => k_is)
    (case a3 => k_is)
    (case l3 => k_is)
    (case c3 => k_is)
    (case k3 => k_is)
    (case a4 => k_is)
    (case l4 => k_is)
    (case c4 => k_is)
    (case k4 => k_is)
    (case a5 => k_is)
    (case l5 => k_is)
    (case c5 => k_is)
    (case k5 => k_is)
    (case a6 => k_is)
    (case l6 => k_is)
    (case c6 => k_is)
    (case k6 => k_is)
    (case a7 => k_is)
    (case l7 => k_is)
    (case c7 => k_is)
    (case k7 => k_is)
    (case a8 => k_is)
    (case l8 => k_is)
    (case c8 => k_is)
    (case k8 => k_is)
    (case a9 => k_is)
    (case l9 => k_is)
    (case c9 => k_is)
    (case k9 => k_is)
    (case a10 => k_is)
    (case l10 => k_is)
    (case c10 => k_is)
    (case k10 => k_is)
    (case a11 => k_is)
    (case l11 => k_is)
    (case c11 => k_is)
    (case k11 => k_is)
    (case a12 => k_is)
    (case l12 => k_is)
    (case c12 => k_is)
    (case k12 => k_is)
    (case a13 => k_is)
    (case l13 => k_is)
    (case c13 => k_is)
    (case k13 => k_is)
    (case a14 => k_is)
    (case l14 => k_is)
    (case c14 => k_is)
    (case k14 => k_is)
    (case a15 => k_is)
    (case l15 => k_is)
    (case c15 => k_is)
    (case k15 => k_is)
    (case a16 => k_is)
    (case l16 => k_is)
    (case c16 => k_is)
    (case k16 => k_is)
    (case a17 => k_is)
    (case l17 => k_is)
    (case c17 => k_is)
    (case k17 => k_is)
    (case a18 => k_is)
    (case l18 => k_is)
    (case c18 => k_is)
    (case k18 => k_is)
    (case a19 => k_is)
    (case l19 => k_is)
    (case c19 => k_is)
    (case k19 => k_is)
    (case a20 => k_is)
    (case l20 => k_is)
    (case c20 => k_is)
    (case k20 => k_is)
    (case a21 => k_is)
    (case l21 => k_is)
    (case c21 => k_is)
    (case k21 => k_is)
    (case a22 => k_is)
    (case l22 => k_is)
    (case c22 => k_is)
    (case k22 => k_is)
    (case a23 => k_is)
    (case l23 => k_is)
    (case c23 => k_is)
    (case k23 => k_is)
    (case a24 => k_is)
    (case l24 => k_is)
    (case c24 => k_is)
    (case k24 => k_is)
    (case a25 => k_is)
    (case l25 => k_is)
    (case c25 => k_is)
    (case k25 => k_is)
    (case a26 => k_is)
    (case l26 => k_is)
    (case c26 => k_is)
    (case k26 => k_is)
    (case a27 => k_is)
    (case l27 => k_is)
    (case c27 => k_is)
    (case k27 => k_is)
    (case a28 => k_is)
    (case l28 => k_is)
    (case c28 => k_is)
    (case k28 => k_is)
    (case a29 => k_is)
    (case l29 => k_is)
    (case c29 => k_is)
    (case k29 => k_is)
    (case a30 => k_is)
    (case l30 => k_is)
    (case c30 => k_is)
    (case k30 => k_is)
    (case a31 => k_is)
    (case l31 => k_is)
    (case c31 => k_is)
    (case k31 => k_is)
    (case a32 => k_is)
    (case l32 => k_is)
    (case c32 => k_is)
    (case k32 => k_is)
    (case a33 => k_is)
    (case l33 => k_is)
    (case c33 => k_is)
    (case k33 => k_is)
    (case a34 => k_is)
    (case l34 => k_is)
    (case c34 => k_is)
    (case k34 => k_is)
    (case a35 => k_is)
    (case l35 => k_is)
    (case c35 => k_is)
    (case k35 => k_is)
    (case z_sum => k_is)
    (case z_abs => k_is)
    (case z_len => k_is)
    (case z_int => k_is)
    (case z_isinstance => k_is)
    (case z_dict => k_is)
    (case z_all => k_is)
    (case z_bool => k_is)
    (case z_str => k_is)
    (case z_tuple => k_is)
    (case z_list => k_is)
    (case z_range => k_is)
    (case z_min => k_is)
    (case z_max => k_is)
